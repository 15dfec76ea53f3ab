/- Regions that make memory, whose later stores wait for the first one alone. The law's small; the law GridLinear. -/
import Derived.Test.YtmnaffhlilnlhaaAm
import Derived.Test.YtmnaffhlilnlhaaAn
import Derived.Laws.Cover1
namespace Go.Proofs.Ytmnaffhlilnlhaa
open Go.RowKit
set_option maxRecDepth 4000
set_option linter.unusedVariables false

section
variable {P : Program} {ops : Array Oper} {Q : Exit → Act → World → Prop} {S : World → Prop} {E : Act → Prop}
theorem allocs_any2 (hs : Region.noSelect ops = true) (he2 : edgesOk ops = true) {T : List Nat} {t : TypeId} {z : Array Value} {base : Nat} (hT : tailOk ops T = true)
    (hSB : ∀ w w', S w → Below w.heap.size w w' → S w') (hbase : ∀ w, S w → base ≤ w.heap.size) :
    ∀ (fuel : Nat) (l A D : List Nat) (c0 : Nat → Nat) (listed : Array Bool) (a : Act) (w : World), fuel = l.length + A.length + T.length → Left ops l (A ++ T) listed →
    (∀ i ∈ A, ∃ o, ops[i]? = some o ∧ o.guard = none ∧ ∀ (a : Act) (w : World), (execOp a.eval o).run P w = .ok (.value (ptr w.heap.size)) (w.alloc (.cells z t))) →
    (∀ i ∈ A, ∀ k, k ∈ l ∨ k ∈ A ++ T → waits ops i k = false) → (∀ i ∈ A, ∀ k ∈ l, apartAt ops i k = true) → (∀ i ∈ A, ∀ k ∈ A, i ≠ k → apartAt ops i k = true) → (∀ i ∈ A, i ∉ T ∧ i ∉ D) → A.Nodup →
    (∀ i ∈ T, (∃ t ∈ T, waits ops i t = true) ∨ (chain ops i l = true ∧ ∀ k ∈ A, waits ops i k = true)) →
    PlanB P ops S (AtTail S t z base ops (wpList P ops Q (opsOf ops T)) D c0 A) l a → S w → (∀ i ∈ D, Blk w (c0 i) t z ∧ base ≤ c0 i) → (∀ i ∈ D, ∀ k ∈ D, c0 i = c0 k → i = k) → wpAny P .any ops Q fuel listed a w := by
  intro fuel
  induction fuel with
  | zero =>
    intro l A D c0 listed a w hf hl _ _ _ _ _ _ _ hp hS hD hDi
    have h1 : l = [] := List.eq_nil_of_length_eq_zero (by omega)
    have h2 : A = [] := List.eq_nil_of_length_eq_zero (by omega)
    have h3 : T = [] := List.eq_nil_of_length_eq_zero (by omega)
    subst h1 h2 h3
    exact tail_any he2 [] listed a w hT hl (hp c0 (fun _ _ => rfl) w hS (by simpa using hD) (by simpa using hDi))
  | succ fuel ih =>
    intro l A D c0 listed a w hf hl hal hAw hAl hAA hAT hAn hTw hp hS hD hDi
    by_cases hle : l = [] ∧ A = []
    · obtain ⟨h1, h2⟩ := hle
      subst h1 h2
      have := tail_any (P := P) (Q := Q) he2 T listed a w hT hl (hp c0 (fun _ _ => rfl) w hS (by simpa using hD) (by simpa using hDi))
      rwa [show T.length = fuel + 1 by simp at hf; omega] at this
    · have hTno : ∀ j ∈ T, j ∉ Region.ready .any ops listed := fun j hj hr => by
        rcases hTw j hj with ⟨t', ht', hw⟩ | hTw
        · rw [not_waits hr (hl.uf t' (by simp [ht']))] at hw
          cases hw
        cases l with
        | cons i r =>
          obtain ⟨k, hk, hw⟩ := chain.some (i :: r) hTw.1 (by simp)
          rw [not_waits hr (hl.un k hk)] at hw
          cases hw
        | nil =>
          cases A with
          | nil => exact hle ⟨rfl, rfl⟩
          | cons i r =>
            have := hTw.2 i (by simp)
            rw [not_waits hr (hl.uf i (by simp))] at this
            cases this
      refine ⟨fun hr => ?_, fun j hj => ?_⟩
      · exfalso
        cases A with
        | cons i r =>
          have hu := hl.uf i (by simp)
          obtain ⟨o, ho⟩ := hl.some hu
          have := ready_of he2 hl ho hu (hAw i (by simp))
          rw [hr] at this
          cases this
        | nil =>
          cases l with
          | nil => exact hle ⟨rfl, rfl⟩
          | cons i r =>
            have hu := hl.un i (by simp)
            obtain ⟨o, ho⟩ := hl.some hu
            have hok := hl.ok
            simp only [okPlan, Bool.and_eq_true, List.all_eq_true, Bool.not_eq_true'] at hok
            have := ready_of he2 hl ho hu fun k hk => by
              rcases hk with hk | hk
              · rcases List.mem_cons.1 hk with e | hk
                · subst e; exact hok.1.1
                · have := hok.1.2 k hk
                  simp only [ahead, Bool.and_eq_true, Bool.not_eq_true'] at this
                  exact this.1.1
              · exact hl.wf i (by simp) k hk
            rw [hr] at this
            cases this
      · rcases hl.all j (mem_ready.1 hj).1 with hm | hm
        · obtain ⟨l1, r, rfl⟩ := List.append_of_mem hm
          have hw : ∀ i ∈ l1, waits ops j i = false := fun i hi => not_waits hj (hl.un i (by simp [hi]))
          have hap : ∀ i ∈ l1, apartAt ops i j = true := fun i hi => by
            have := (okPlan.tail hl.ok).2.1 i hi
            simp only [ahead, Bool.and_eq_true, Bool.or_eq_true, hw i hi] at this
            simpa using this.2
          have hsub : ∀ k, k ∈ l1 ++ r → k ∈ l1 ++ j :: r := fun k hk => by rcases List.mem_append.1 hk with hk | hk <;> simp [hk]
          obtain ⟨o, v, ho, hd, hrest⟩ := hp.front hs l1 j r a hap
          refine hd.wpOp ho hS fun w' hS' hb => ?_
          refine ih (l1 ++ r) A D c0 _ _ w' (by simp at hf ⊢; omega) hl.next hal (fun i hi k hk => hAw i hi k (by rcases hk with hk | hk; exact .inl (hsub k hk); exact .inr hk)) (fun i hi k hk => hAl i hi k (hsub k hk)) hAA hAT hAn
            (fun i hi => (hTw i hi).imp (fun h => h) fun h => ⟨chain.next l1 j r h.1 hw, h.2⟩) hrest hS' (fun i hi => ⟨(hD i hi).1.below hb (hD i hi).1.lt, (hD i hi).2⟩) hDi
        · rcases List.mem_append.1 hm with hm | hm
          · obtain ⟨o, ho, hg, hrun⟩ := hal j hm
            obtain ⟨hjT, hjD⟩ := hAT j hm
            have hjm := hm
            obtain ⟨A1, A2, rfl⟩ := List.append_of_mem hm
            have hnd := hAn
            rw [List.nodup_append] at hnd
            have hj12 : j ∉ A1 ++ A2 := by
              intro h
              rcases List.mem_append.1 h with h | h
              · exact hnd.2.2 j h j (by simp) rfl
              · exact (List.nodup_cons.1 hnd.2.1).1 h
            have hsub : ∀ k, k ∈ A1 ++ A2 → k ∈ A1 ++ j :: A2 := fun k hk => by rcases List.mem_append.1 hk with hk | hk <;> simp [hk]
            have hl' : Left ops l (A1 ++ A2 ++ T) (listed.setIfInBounds j true) := by
              have h5 : Left ops l (A1 ++ j :: (A2 ++ T)) listed := by simpa using hl
              have := h5.drop (by
                intro h
                rcases List.mem_append.1 h with h | h
                · exact hj12 (by simp [h])
                · rcases List.mem_append.1 h with h | h
                  · exact hj12 (by simp [h])
                  · exact hjT h)
              simpa using this
            have hbl : Below w.heap.size w (w.alloc (.cells z t)) := (Below.refl _ _).alloc (Nat.le_refl _) _
            unfold wpOp
            simp only [ho]
            rw [if_pos (by simp [Region.wanted, hg])]
            refine .inl ?_
            unfold Oper.wp
            rw [hrun]
            simp only [Oper.upon]
            refine ih l (A1 ++ A2) (j :: D) (fun k => if k = j then w.heap.size else c0 k) _ _ _ (by simp at hf ⊢; omega) hl' (fun i hi => hal i (hsub i hi))
              (fun i hi k hk => hAw i (hsub i hi) k (by
                rcases hk with hk | hk
                · exact .inl hk
                · right
                  rcases List.mem_append.1 hk with hk | hk
                  · exact List.mem_append_left _ (hsub k hk)
                  · exact List.mem_append_right _ hk))
              (fun i hi k hk => hAl i (hsub i hi) k hk) (fun i hi k hk => hAA i (hsub i hi) k (hsub k hk)) ?_ ?_ (fun i hi => (hTw i hi).imp (fun h => h) fun h => ⟨h.1, fun k hk => h.2 k (hsub k hk)⟩) ?_ (hSB _ _ hS hbl) ?_ ?_
            · intro i hi
              refine ⟨(hAT i (hsub i hi)).1, ?_⟩
              intro h
              rcases List.mem_cons.1 h with e | h
              · subst e; exact hj12 hi
              · exact (hAT i (hsub i hi)).2 h
            · rw [List.nodup_append]
              refine ⟨hnd.1, (List.nodup_cons.1 hnd.2.1).2, fun x hx y hy => hnd.2.2 x hx y (by simp [hy])⟩
            · refine PlanB.put hs ho ?_ l a (fun i hi => hAl j hjm i hi) hp
              intro a' hE c hc w' hS' hB hI
              have hcj : c j = w.heap.size := by have := hc j (by simp); simpa using this
              have hmem : ∀ k, k ∈ D ++ (A1 ++ j :: A2) → k ∈ (j :: D) ++ (A1 ++ A2) := fun k hk => by
                simp only [List.mem_append, List.mem_cons] at hk ⊢
                rcases hk with h | h | h | h <;> simp [h]
              have h := hE c (fun i hi => by have := hc i (by simp [hi]); rw [this]; exact if_neg (fun e : i = j => hjD (e ▸ hi))) w' hS' (fun i hi => hB i (hmem i hi)) (fun i hi k hk => hI i (hmem i hi) k (hmem k hk))
              have hd : dstOf ops j = o.dst := by simp [dstOf, ho]
              rw [pa_append] at h ⊢
              rw [pa_put]
              · rw [← hcj, ← hd]; exact h
              · intro i hi s hs'
                have hij : i ≠ j := fun e => by subst e; exact hj12 (by simp [hi])
                have hax := hAA i (by simp [hi]) j hjm hij
                obtain ⟨oi, hoi⟩ := hl.some (hl.uf i (by simp [hi]))
                have hx : oi.apart ops o = true := by simpa [apartAt, hoi, ho] using hax
                obtain ⟨_, h2, _⟩ := Oper.apart_spec hx
                have hdi : oi.dst = some s := by simpa [dstOf, hoi] using hs'
                exact h2 s hdi
            · intro i hi
              rcases List.mem_cons.1 hi with e | hi
              · subst e
                simp only [if_true]
                exact ⟨Blk.new _ _ _, hbase _ hS⟩
              · have hne : i ≠ j := fun e => hjD (e ▸ hi)
                simp only [hne, if_false]
                exact ⟨(hD i hi).1.alloc _, (hD i hi).2⟩
            · intro i hi k hk h
              rcases List.mem_cons.1 hi with e1 | hi <;> rcases List.mem_cons.1 hk with e2 | hk
              · rw [e1, e2]
              · have hne : k ≠ j := fun e => hjD (e ▸ hk)
                have := (hD k hk).1.lt
                simp only [e1, hne, if_true, if_false] at h
                omega
              · have hne : i ≠ j := fun e => hjD (e ▸ hi)
                have := (hD i hi).1.lt
                simp only [e2, hne, if_true, if_false] at h
                omega
              · have hne : i ≠ j := fun e => hjD (e ▸ hi)
                have hne2 : k ≠ j := fun e => hjD (e ▸ hk)
                simp only [hne, hne2, if_false] at h
                exact hDi i hi k hk h
          · exact absurd hj (hTno j hm)


/-- What is asked of the lists. -/
def allocOk2 (ops : Array Oper) (l A T : List Nat) : Bool :=
  A.all (fun i => (l ++ (A ++ T)).all (fun k => !waits ops i k) && l.all (fun k => apartAt ops i k) && A.all (fun k => i == k || apartAt ops i k) && !T.contains i) &&
  T.all (fun i => (T.any fun t => waits ops i t) || (chain ops i l && A.all fun k => waits ops i k)) && decide A.Nodup

theorem region_allocs2 {id : Nat} {l A T : List Nat} {t : TypeId} {z : Array Value} {base : Nat} {a : Act} {w : World} (hm : P.follows .mixedOrders = true) (hs : Region.noSelect ops = true) (he2 : edgesOk ops = true)
    (hT : tailOk ops T = true) (hok : okPlan ops l = true) (hall : (List.range ops.size).all (fun k => l.contains k || (A ++ T).contains k) = true) (hlt : (l ++ (A ++ T)).all (fun k => decide (k < ops.size)) = true)
    (hap : l.all (fun k => !(A ++ T).contains k && (A ++ T).all fun j => !waits ops k j) = true) (hlen : (l.length + A.length + T.length == ops.size) = true) (hc : allocOk2 ops l A T = true)
    (hal : ∀ i ∈ A, ∃ o, ops[i]? = some o ∧ o.guard = none ∧ ∀ (a : Act) (w : World), (execOp a.eval o).run P w = .ok (.value (ptr w.heap.size)) (w.alloc (.cells z t)))
    (hSB : ∀ w w', S w → Below w.heap.size w w' → S w') (hbase : ∀ w, S w → base ≤ w.heap.size) (hS : S w.drew)
    (hp : PlanB P ops S (AtTail S t z base ops (wpList P ops Q (opsOf ops T)) [] (fun _ => 0) A) l a) : (Code.region id ops true).wp P Q a w := by
  refine wp_region_any hm ?_
  simp only [allocOk2, Bool.and_eq_true, List.all_eq_true, List.any_eq_true, Bool.not_eq_true', Bool.or_eq_true, beq_iff_eq, decide_eq_true_eq] at hc
  obtain ⟨⟨h1, h2⟩, h3⟩ := hc
  have hl := left_of_replicate hok hall hlt hap
  refine allocs_any2 hs he2 hT hSB hbase ops.size l A [] (fun _ => 0) _ a _ (by simpa using (beq_iff_eq.1 hlen).symm) hl hal ?_ ?_ ?_ ?_ h3 (fun i hi => (h2 i hi).imp (fun h => h) fun h => ⟨h.1, fun k hk => h.2 k hk⟩) hp hS (fun i hi => by cases hi) (fun i hi => by cases hi)
  · intro i hi k hk
    exact (h1 i hi).1.1.1 k (by rcases hk with hk | hk; exact List.mem_append_left _ hk; exact List.mem_append_right _ hk)
  · exact fun i hi k hk => (h1 i hi).1.1.2 k hk
  · intro i hi k hk hne
    rcases (h1 i hi).1.2 k hk with e | e
    · exact absurd e hne
    · exact e
  · intro i hi
    have := (h1 i hi).2
    exact ⟨by simpa using this, by simp⟩
end

section
variable {ops : Array Oper} {rest : List Oper} {o : Oper} {a : Act} {w w0 : World} {Q : Exit → Act → World → Prop} {l : List (Nat × TypeId × Array Value)} {g : Nat} {t : TypeId} {cs : Array Value}
theorem ldI2w (d : Gen w0 l w) {i : Nat} {z : Int} (x : Operand) (ho : o.op = .load 2 x) (hgd : Region.wanted o (yielded ops a.tmps) = true) (hx : a.eval x = .pointer (some ⟨g, i, none⟩)) (hm : (g, t, cs) ∈ l) (hc : cs[i]? = some (.int .i64 z))
    (h : wpList Try.prog ops Q rest (a.put o.dst (.int .i64 z)) w) : wpList Try.prog ops Q (o :: rest) a w := wpList_valuew hgd (exec_loadIG d x ho hx hm hc) h
end
def mx3 (x y z : Int) : Int := if z > (if y > x then y else x) then z else (if y > x then y else x)
def mn3 (x y z : Int) : Int := if z < (if y < x then y else x) then z else (if y < x then y else x)
/-- Are the numbers at most 2^60? -/
def smallP (x y z : Int) : Bool := decide (mx3 x y z ≤ 1152921504606846976) && decide (-1152921504606846976 ≤ mn3 x y z)
set_option maxHeartbeats 1000000 in
theorem small6_core (x y z m n : Int) (w : World) (hM : ∀ (w : World) (ts : Array TypeId) (t : TypeId), (Builtin.max_ ts t #[.int .i64 x, .int .i64 y, .int .i64 z]).run Try.prog w = .ok (.int .i64 m) w) (hN : ∀ (w : World) (ts : Array TypeId) (t : TypeId), (Builtin.min_ ts t #[.int .i64 x, .int .i64 y, .int .i64 z]).run Try.prog w = .ok (.int .i64 n) w) :
    Calls Try.prog 43 #[.agg (v3 x y z)] w fun e w' => e = .returned (.bool (decide (m ≤ 1152921504606846976) && decide (-1152921504606846976 ≤ n))) ∧ Below w.heap.size w w' := by
  go_enter Try.func43, Try.ntmps43
  go_upto_region 1 with fail
  have D := hide ((Gen.start w).push 26 (v3 x y z))
  by_cases h : m ≤ 1152921504606846976
  · go_wp2_with (first | (with_reducible refine at_list ?_;  apply ldI (unhide D) _ rfl rfl rfl (by repeat (first | exact List.mem_cons_self | apply List.mem_cons_of_mem)) rfl) | (with_reducible refine at_list ?_;  apply ldI2w (unhide D) _ rfl rfl rfl (by repeat (first | exact List.mem_cons_self | apply List.mem_cons_of_mem)) rfl))
    go_ret
    exact ⟨by simp [h], (unhide D).o⟩
  · have hd := hide (decide_eq_false h)
    go_wp2_with (first | (with_reducible refine at_list ?_;  apply ldI (unhide D) _ rfl rfl rfl (by repeat (first | exact List.mem_cons_self | apply List.mem_cons_of_mem)) rfl))
    go_ret
    exact ⟨by rw [unhide hd]; rfl, (unhide D).o⟩
theorem Small6Z (x y z : Int) : Ans 43 #[.agg (v3 x y z)] (.bool (smallP x y z)) := fun w => small6_core x y z (mx3 x y z) (mn3 x y z) w (fun w ts t => run_max_int3 w ts t .i64 .i64 .i64 x y z) (fun w ts t => run_min_int3 w ts t .i64 .i64 .i64 x y z)
theorem smallP_iff {x y z : Int} (h : smallP x y z = true) : (-1152921504606846976 ≤ x ∧ x ≤ 1152921504606846976) ∧ (-1152921504606846976 ≤ y ∧ y ≤ 1152921504606846976) ∧ (-1152921504606846976 ≤ z ∧ z ≤ 1152921504606846976) := by
  unfold smallP at h
  rw [Bool.and_eq_true, decide_eq_true_eq, decide_eq_true_eq] at h
  obtain ⟨h1, h2⟩ := h
  unfold mx3 at h1
  unfold mn3 at h2
  refine ⟨⟨?_, ?_⟩, ⟨?_, ?_⟩, ⟨?_, ?_⟩⟩ <;> (split at h1 <;> split at h2 <;> (first | omega | (split at h1 <;> split at h2 <;> omega) | (split at h1 <;> omega) | (split at h2 <;> omega)))
set_option maxHeartbeats 2000000 in
theorem lin_no0 (ax ay az bx b_y bz_ cx cy cz dx dy dz : Int) (w : World) (sa : Hid (Ans 43 #[.agg (v3 ax ay az)] (.bool false))) (haw : Hid (Ans 20 #[] (.bool true))) :
    Calls Try.prog 12 #[.agg (v3 ax ay az), .agg (v3 bx b_y bz_), .agg (v3 cx cy cz), .agg (v3 dx dy dz)] w fun e w' => e = .returned (.bool true) ∧ Below w.heap.size w w' := by
  go_enter Try.func12, Try.ntmps12
  go_upto_region 1 with fail
  have D := hide (((((Gen.start w).push 26 (v3 ax ay az)).push 26 (v3 bx b_y bz_)).push 26 (v3 cx cy cz)).push 26 (v3 dx dy dz))
  simp only [szA] at D
  go_wp2_with (first | (with_reducible refine at_list ?_; apply ldG (unhide D) rPoint _ rfl rfl rfl (by repeat (first | exact List.mem_cons_self | apply List.mem_cons_of_mem)) rfl) | (with_reducible refine at_list ?_; apply ldGw (unhide D) rPoint _ rfl rfl rfl (by repeat (first | exact List.mem_cons_self | apply List.mem_cons_of_mem)) rfl) | (go_at_call 43; with_reducible refine (unhide sa _).mono ?_; rintro e w' ⟨he, hb⟩; subst he; have D := hide ((unhide D).keep hb); clear hb) | (go_at_call 20; with_reducible refine (unhide haw _).mono ?_; rintro e w' ⟨he, hb⟩; subst he; have D := hide ((unhide D).keep hb); clear hb))
  go_ret
  exact ⟨rfl, (unhide D).o⟩
set_option maxHeartbeats 2000000 in
theorem lin_no1 (ax ay az bx b_y bz_ cx cy cz dx dy dz : Int) (w : World) (sa : Hid (Ans 43 #[.agg (v3 ax ay az)] (.bool true))) (sb : Hid (Ans 43 #[.agg (v3 bx b_y bz_)] (.bool false))) (haw : Hid (Ans 20 #[] (.bool true))) :
    Calls Try.prog 12 #[.agg (v3 ax ay az), .agg (v3 bx b_y bz_), .agg (v3 cx cy cz), .agg (v3 dx dy dz)] w fun e w' => e = .returned (.bool true) ∧ Below w.heap.size w w' := by
  go_enter Try.func12, Try.ntmps12
  go_upto_region 1 with fail
  have D := hide (((((Gen.start w).push 26 (v3 ax ay az)).push 26 (v3 bx b_y bz_)).push 26 (v3 cx cy cz)).push 26 (v3 dx dy dz))
  simp only [szA] at D
  go_wp2_with (first | (with_reducible refine at_list ?_; apply ldG (unhide D) rPoint _ rfl rfl rfl (by repeat (first | exact List.mem_cons_self | apply List.mem_cons_of_mem)) rfl) | (with_reducible refine at_list ?_; apply ldGw (unhide D) rPoint _ rfl rfl rfl (by repeat (first | exact List.mem_cons_self | apply List.mem_cons_of_mem)) rfl) | (go_at_call 43; with_reducible refine (unhide sa _).mono ?_; rintro e w' ⟨he, hb⟩; subst he; have D := hide ((unhide D).keep hb); clear hb) | (go_at_call 43; with_reducible refine (unhide sb _).mono ?_; rintro e w' ⟨he, hb⟩; subst he; have D := hide ((unhide D).keep hb); clear hb) | (go_at_call 20; with_reducible refine (unhide haw _).mono ?_; rintro e w' ⟨he, hb⟩; subst he; have D := hide ((unhide D).keep hb); clear hb))
  go_ret
  exact ⟨rfl, (unhide D).o⟩
set_option maxHeartbeats 2000000 in
theorem lin_no2 (ax ay az bx b_y bz_ cx cy cz dx dy dz : Int) (w : World) (sa : Hid (Ans 43 #[.agg (v3 ax ay az)] (.bool true))) (sb : Hid (Ans 43 #[.agg (v3 bx b_y bz_)] (.bool true))) (sc : Hid (Ans 43 #[.agg (v3 cx cy cz)] (.bool false))) (haw : Hid (Ans 20 #[] (.bool true))) :
    Calls Try.prog 12 #[.agg (v3 ax ay az), .agg (v3 bx b_y bz_), .agg (v3 cx cy cz), .agg (v3 dx dy dz)] w fun e w' => e = .returned (.bool true) ∧ Below w.heap.size w w' := by
  go_enter Try.func12, Try.ntmps12
  go_upto_region 1 with fail
  have D := hide (((((Gen.start w).push 26 (v3 ax ay az)).push 26 (v3 bx b_y bz_)).push 26 (v3 cx cy cz)).push 26 (v3 dx dy dz))
  simp only [szA] at D
  go_wp2_with (first | (with_reducible refine at_list ?_; apply ldG (unhide D) rPoint _ rfl rfl rfl (by repeat (first | exact List.mem_cons_self | apply List.mem_cons_of_mem)) rfl) | (with_reducible refine at_list ?_; apply ldGw (unhide D) rPoint _ rfl rfl rfl (by repeat (first | exact List.mem_cons_self | apply List.mem_cons_of_mem)) rfl) | (go_at_call 43; with_reducible refine (unhide sa _).mono ?_; rintro e w' ⟨he, hb⟩; subst he; have D := hide ((unhide D).keep hb); clear hb) | (go_at_call 43; with_reducible refine (unhide sb _).mono ?_; rintro e w' ⟨he, hb⟩; subst he; have D := hide ((unhide D).keep hb); clear hb) | (go_at_call 43; with_reducible refine (unhide sc _).mono ?_; rintro e w' ⟨he, hb⟩; subst he; have D := hide ((unhide D).keep hb); clear hb) | (go_at_call 20; with_reducible refine (unhide haw _).mono ?_; rintro e w' ⟨he, hb⟩; subst he; have D := hide ((unhide D).keep hb); clear hb))
  go_ret
  exact ⟨rfl, (unhide D).o⟩
set_option maxHeartbeats 2000000 in
theorem lin_no3 (ax ay az bx b_y bz_ cx cy cz dx dy dz : Int) (w : World) (sa : Hid (Ans 43 #[.agg (v3 ax ay az)] (.bool true))) (sb : Hid (Ans 43 #[.agg (v3 bx b_y bz_)] (.bool true))) (sc : Hid (Ans 43 #[.agg (v3 cx cy cz)] (.bool true))) (sd : Hid (Ans 43 #[.agg (v3 dx dy dz)] (.bool false))) (haw : Hid (Ans 20 #[] (.bool true))) :
    Calls Try.prog 12 #[.agg (v3 ax ay az), .agg (v3 bx b_y bz_), .agg (v3 cx cy cz), .agg (v3 dx dy dz)] w fun e w' => e = .returned (.bool true) ∧ Below w.heap.size w w' := by
  go_enter Try.func12, Try.ntmps12
  go_upto_region 1 with fail
  have D := hide (((((Gen.start w).push 26 (v3 ax ay az)).push 26 (v3 bx b_y bz_)).push 26 (v3 cx cy cz)).push 26 (v3 dx dy dz))
  simp only [szA] at D
  go_wp2_with (first | (with_reducible refine at_list ?_; apply ldG (unhide D) rPoint _ rfl rfl rfl (by repeat (first | exact List.mem_cons_self | apply List.mem_cons_of_mem)) rfl) | (with_reducible refine at_list ?_; apply ldGw (unhide D) rPoint _ rfl rfl rfl (by repeat (first | exact List.mem_cons_self | apply List.mem_cons_of_mem)) rfl) | (go_at_call 43; with_reducible refine (unhide sa _).mono ?_; rintro e w' ⟨he, hb⟩; subst he; have D := hide ((unhide D).keep hb); clear hb) | (go_at_call 43; with_reducible refine (unhide sb _).mono ?_; rintro e w' ⟨he, hb⟩; subst he; have D := hide ((unhide D).keep hb); clear hb) | (go_at_call 43; with_reducible refine (unhide sc _).mono ?_; rintro e w' ⟨he, hb⟩; subst he; have D := hide ((unhide D).keep hb); clear hb) | (go_at_call 43; with_reducible refine (unhide sd _).mono ?_; rintro e w' ⟨he, hb⟩; subst he; have D := hide ((unhide D).keep hb); clear hb) | (go_at_call 20; with_reducible refine (unhide haw _).mono ?_; rintro e w' ⟨he, hb⟩; subst he; have D := hide ((unhide D).keep hb); clear hb))
  go_ret
  exact ⟨rfl, (unhide D).o⟩
set_option maxHeartbeats 8000000 in
theorem lin_law (ax ay az bx b_y bz_ cx cy cz dx dy dz : Int) (s1 s2 s3 : Int) (x1 x2 x3 y1 y2 y3 z1 z2 z3 ds da db es ea eb : Nat) (w : World) (sa : Hid (Ans 43 #[.agg (v3 ax ay az)] (.bool true))) (sb : Hid (Ans 43 #[.agg (v3 bx b_y bz_)] (.bool true))) (sc : Hid (Ans 43 #[.agg (v3 cx cy cz)] (.bool true))) (sd : Hid (Ans 43 #[.agg (v3 dx dy dz)] (.bool true))) (xa : Hid (Ans 27 #[.agg (v3 ax ay az), .agg (v3 cx cy cz)] (.agg (c24 x1 x2 x3)))) (xb : Hid (Ans 27 #[.agg (v3 bx b_y bz_), .agg (v3 cx cy cz)] (.agg (c24 y1 y2 y3)))) (hs : Hid (Ans 44 #[.agg (v3 ax ay az), .agg (v3 bx b_y bz_)] (.agg (v3 s1 s2 s3)))) (xs : Hid (Ans 27 #[.agg (v3 s1 s2 s3), .agg (v3 cx cy cz)] (.agg (c24 z1 z2 z3))))
    (q0 : Hid (Ans 25 #[.agg (v3 s1 s2 s3), .agg (v3 cx cy cz)] (.agg (cells8 ds)))) (q1 : Hid (Ans 25 #[.agg (v3 ax ay az), .agg (v3 cx cy cz)] (.agg (cells8 da)))) (q2 : Hid (Ans 25 #[.agg (v3 bx b_y bz_), .agg (v3 cx cy cz)] (.agg (cells8 db)))) (p0 : Hid (Ans 35 #[.agg (cells8 da), .agg (cells8 db)] (.agg (cells8 ds))))
    (p1 : Hid (Ans 35 #[.agg (cells8 x1), .agg (cells8 y1)] (.agg (cells8 z1)))) (p2 : Hid (Ans 35 #[.agg (cells8 x2), .agg (cells8 y2)] (.agg (cells8 z2)))) (p3 : Hid (Ans 35 #[.agg (cells8 x3), .agg (cells8 y3)] (.agg (cells8 z3))))
    (e0 : Hid (Ans 29 #[.agg (v3 s1 s2 s3), .agg (v3 cx cy cz), .agg (v3 dx dy dz)] (.agg (cells8 es)))) (e1 : Hid (Ans 29 #[.agg (v3 ax ay az), .agg (v3 cx cy cz), .agg (v3 dx dy dz)] (.agg (cells8 ea)))) (e2 : Hid (Ans 29 #[.agg (v3 bx b_y bz_), .agg (v3 cx cy cz), .agg (v3 dx dy dz)] (.agg (cells8 eb)))) (p4 : Hid (Ans 35 #[.agg (cells8 ea), .agg (cells8 eb)] (.agg (cells8 es))))
    (haw : Hid (Ans 20 #[] (.bool true))) (sD : Hid (same ds ds = true)) (sZ : Hid (same3 z1 z2 z3 z1 z2 z3 = true)) (sE : Hid (same es es = true)) :
    Calls Try.prog 12 #[.agg (v3 ax ay az), .agg (v3 bx b_y bz_), .agg (v3 cx cy cz), .agg (v3 dx dy dz)] w fun e w' => e = .returned (.bool true) ∧ Below w.heap.size w w' := by
  go_enter Try.func12, Try.ntmps12
  go_upto_region 1 with fail
  have D := hide (((((Gen.start w).push 26 (v3 ax ay az)).push 26 (v3 bx b_y bz_)).push 26 (v3 cx cy cz)).push 26 (v3 dx dy dz))
  simp only [szA] at D
  go_upto_region 3 with (first | (with_reducible refine at_list ?_; apply ldG (unhide D) rPoint _ rfl rfl rfl (by repeat (first | exact List.mem_cons_self | apply List.mem_cons_of_mem)) rfl) | (with_reducible refine at_list ?_; apply ldGw (unhide D) rPoint _ rfl rfl rfl (by repeat (first | exact List.mem_cons_self | apply List.mem_cons_of_mem)) rfl) | (go_at_call 43; with_reducible refine (unhide sa _).mono ?_; rintro e w' ⟨he, hb⟩; subst he; have D := hide ((unhide D).keep hb); clear hb) | (go_at_call 43; with_reducible refine (unhide sb _).mono ?_; rintro e w' ⟨he, hb⟩; subst he; have D := hide ((unhide D).keep hb); clear hb) | (go_at_call 43; with_reducible refine (unhide sc _).mono ?_; rintro e w' ⟨he, hb⟩; subst he; have D := hide ((unhide D).keep hb); clear hb) | (go_at_call 43; with_reducible refine (unhide sd _).mono ?_; rintro e w' ⟨he, hb⟩; subst he; have D := hide ((unhide D).keep hb); clear hb))
  generalize hw1 : (w' : World) = w1 at D ⊢
  have D1 : Hid (GenZ w _ w1.heap.size w1.drew) := ⟨(unhide D).drew, Nat.le_refl _⟩
  have hlt := hide (fun (p : Nat × TypeId × Array Value) hp => ((unhide D).at_ p hp).lt)
  have hw0 := hide (unhide D).o.size
  clear D hw1
  generalize w1.heap.size = C1 at D1 hlt hw0
  refine region_allocs2 (S := GenZ w _ C1) (t := 43) (z := z24) (base := C1) (l := [0, 1, 2, 3, 4, 5, 6, 7, 8, 9, 10]) (A := [11, 12, 13]) (T := [14, 15, 16]) (by kernel_rfl) (by kernel_rfl) (by kernel_rfl) (by kernel_rfl) (by kernel_rfl) (by kernel_rfl) (by kernel_rfl) (by kernel_rfl) (by kernel_rfl) (by kernel_rfl) ?_ (fun _ _ h hb => h.keep hb) (fun _ h => h.s) (unhide D1) ?_
  · intro i hi
    simp at hi
    rcases hi with rfl | rfl | rfl
    · exact ⟨_, rfl, rfl, fun a w => by go_simp⟩
    · exact ⟨_, rfl, rfl, fun a w => by go_simp⟩
    · exact ⟨_, rfl, rfl, fun a w => by go_simp⟩
  clear D1
  refine planB_read (v := .agg (v3 ax ay az)) rfl rfl (fun u hS => exec_ldG hS.e rPoint _ rfl rfl (by repeat (first | exact List.mem_cons_self | apply List.mem_cons_of_mem)) rfl) ?_
  go_simp
  refine planB_read (v := .agg (v3 cx cy cz)) rfl rfl (fun u hS => exec_ldG hS.e rPoint _ rfl rfl (by repeat (first | exact List.mem_cons_self | apply List.mem_cons_of_mem)) rfl) ?_
  go_simp
  refine planB_call (v := (.agg (c24 x1 x2 x3))) (f := 27) (args := #[.agg (v3 ax ay az), .agg (v3 cx cy cz)]) rfl rfl (fun u hS => by go_simp) (fun u hS => (unhide xa u).mono fun _ _ ⟨he, hb⟩ => ⟨he, hS.keep hb, hb⟩) ?_
  go_simp
  refine planB_read (v := .agg (v3 bx b_y bz_)) rfl rfl (fun u hS => exec_ldG hS.e rPoint _ rfl rfl (by repeat (first | exact List.mem_cons_self | apply List.mem_cons_of_mem)) rfl) ?_
  go_simp
  refine planB_read (v := .agg (v3 cx cy cz)) rfl rfl (fun u hS => exec_ldG hS.e rPoint _ rfl rfl (by repeat (first | exact List.mem_cons_self | apply List.mem_cons_of_mem)) rfl) ?_
  go_simp
  refine planB_call (v := (.agg (c24 y1 y2 y3))) (f := 27) (args := #[.agg (v3 bx b_y bz_), .agg (v3 cx cy cz)]) rfl rfl (fun u hS => by go_simp) (fun u hS => (unhide xb u).mono fun _ _ ⟨he, hb⟩ => ⟨he, hS.keep hb, hb⟩) ?_
  go_simp
  refine planB_read (v := .agg (v3 ax ay az)) rfl rfl (fun u hS => exec_ldG hS.e rPoint _ rfl rfl (by repeat (first | exact List.mem_cons_self | apply List.mem_cons_of_mem)) rfl) ?_
  go_simp
  refine planB_read (v := .agg (v3 bx b_y bz_)) rfl rfl (fun u hS => exec_ldG hS.e rPoint _ rfl rfl (by repeat (first | exact List.mem_cons_self | apply List.mem_cons_of_mem)) rfl) ?_
  go_simp
  refine planB_call (v := (.agg (v3 s1 s2 s3))) (f := 44) (args := #[.agg (v3 ax ay az), .agg (v3 bx b_y bz_)]) rfl rfl (fun u hS => by go_simp) (fun u hS => (unhide hs u).mono fun _ _ ⟨he, hb⟩ => ⟨he, hS.keep hb, hb⟩) ?_
  go_simp
  refine planB_read (v := .agg (v3 cx cy cz)) rfl rfl (fun u hS => exec_ldG hS.e rPoint _ rfl rfl (by repeat (first | exact List.mem_cons_self | apply List.mem_cons_of_mem)) rfl) ?_
  go_simp
  refine planB_call (v := (.agg (c24 z1 z2 z3))) (f := 27) (args := #[(.agg (v3 s1 s2 s3)), .agg (v3 cx cy cz)]) rfl rfl (fun u hS => by go_simp) (fun u hS => (unhide xs u).mono fun _ _ ⟨he, hb⟩ => ⟨he, hS.keep hb, hb⟩) ?_
  go_simp
  refine planB_tail (fun cc u hS hB hI => ?_)
  have h1 := hB 11 (by simp)
  have h2 := hB 12 (by simp)
  have h3 := hB 13 (by simp)
  have n12 : cc 11 ≠ cc 12 := fun hc => by have := hI 11 (by simp) 12 (by simp) hc; omega
  have n13 : cc 11 ≠ cc 13 := fun hc => by have := hI 11 (by simp) 13 (by simp) hc; omega
  have n23 : cc 12 ≠ cc 13 := fun hc => by have := hI 12 (by simp) 13 (by simp) hc; omega
  simp only [pa, dstOf, opsOf]
  generalize cc 11 = c1 at h1 n12 n13 ⊢
  generalize cc 12 = c2 at h2 n12 n23 ⊢
  generalize cc 13 = c3 at h3 n13 n23 ⊢
  have hl := unhide hlt
  have h00 := unhide hw0
  have D : Hid (Gen w ((c3, 43, c24 z1 z2 z3) :: (c2, 43, c24 y1 y2 y3) :: (c1, 43, c24 x1 x2 x3) :: [(w.heap.size + 1 + 1 + 1, 26, v3 dx dy dz), (w.heap.size + 1 + 1, 26, v3 cx cy cz), (w.heap.size + 1, 26, v3 bx b_y bz_), (w.heap.size, 26, v3 ax ay az)]) (((u.setRow c1 (c24 x1 x2 x3)).setRow c2 (c24 y1 y2 y3)).setRow c3 (c24 z1 z2 z3))) := by
    refine ⟨fun p hp => ?_, below_row (below_row (below_row hS.e.o (by omega) _) (by omega) _) (by omega) _⟩
    rcases List.mem_cons.1 hp with e | hp
    · subst e; exact ((h3.1.rowOther _ (Ne.symm n13)).rowOther _ (Ne.symm n23)).row _
    rcases List.mem_cons.1 hp with e | hp
    · subst e; exact ((h2.1.rowOther _ (Ne.symm n12)).row _).rowOther _ n23
    rcases List.mem_cons.1 hp with e | hp
    · subst e; exact ((h1.1.row _).rowOther _ n12).rowOther _ n13
    · have hlp := hl p hp
      exact (((hS.e.at_ p hp).rowOther _ (by omega)).rowOther _ (by omega)).rowOther _ (by omega)
  have H1 := hide h1.1
  have H2 := hide (h2.1.rowOther (c24 x1 x2 x3) (Ne.symm n12))
  have H3 := hide ((h3.1.rowOther (c24 x1 x2 x3) (Ne.symm n13)).rowOther (c24 y1 y2 y3) (Ne.symm n23))
  clear hS hB hI h1 h2 h3 hlt hw0 hl h00 n12 n13 n23
  refine wpList_store_row rfl 43 (.tmp 9) (.tmp 33) rfl _ (c24 x1 x2 x3) rfl rfl 43 _ (unhide H1) iSpan rfl (c24_one _ _ _) ?_
  refine wpList_store_row rfl 43 (.tmp 10) (.tmp 36) rfl _ (c24 y1 y2 y3) rfl rfl 43 _ (unhide H2) iSpan rfl (c24_one _ _ _) ?_
  refine wpList_store_row rfl 43 (.tmp 11) (.tmp 41) rfl _ (c24 z1 z2 z3) rfl rfl 43 _ (unhide H3) iSpan rfl (c24_one _ _ _) ?_
  clear H1 H2 H3
  generalize ((u.setRow c1 (c24 x1 x2 x3)).setRow c2 (c24 y1 y2 y3)).setRow c3 (c24 z1 z2 z3) = u1 at D ⊢
  go_simp
  go_upto_region 4 with fail
  refine region_plan (S := Gen w _) (l := [0, 1, 2, 3, 4, 5, 6, 7, 8, 9, 10, 11, 12, 13, 14, 15, 16, 17, 18, 19, 20, 21, 22, 23, 24, 25, 26, 27, 28, 29, 30, 31, 32, 33, 34, 35, 36, 37, 38, 39, 40, 41, 42, 43, 44, 45, 46, 47, 48, 49, 50, 51, 52, 53, 54]) (by kernel_rfl) (by kernel_rfl) (by kernel_rfl) (by kernel_rfl) (by kernel_rfl) (by kernel_rfl) (by kernel_rfl) (unhide D).drew ?_
  clear D
  refine plan_read (v := .agg (v3 ax ay az)) rfl rfl (fun u hS => exec_ldG hS rPoint _ rfl rfl (by repeat (first | exact List.mem_cons_self | apply List.mem_cons_of_mem)) rfl) ?_
  go_simp
  refine plan_read (v := .agg (v3 bx b_y bz_)) rfl rfl (fun u hS => exec_ldG hS rPoint _ rfl rfl (by repeat (first | exact List.mem_cons_self | apply List.mem_cons_of_mem)) rfl) ?_
  go_simp
  refine plan_call (v := (.agg (v3 s1 s2 s3))) (f := 44) (args := #[.agg (v3 ax ay az), .agg (v3 bx b_y bz_)]) rfl rfl (fun u hS => by go_simp) (fun u hS => (unhide hs u).mono fun _ _ ⟨he, hb⟩ => ⟨he, hS.keep hb⟩) ?_
  go_simp
  refine plan_read (v := .agg (v3 cx cy cz)) rfl rfl (fun u hS => exec_ldG hS rPoint _ rfl rfl (by repeat (first | exact List.mem_cons_self | apply List.mem_cons_of_mem)) rfl) ?_
  go_simp
  refine plan_call (v := (.agg (cells8 ds))) (f := 25) (args := #[(.agg (v3 s1 s2 s3)), .agg (v3 cx cy cz)]) rfl rfl (fun u hS => by go_simp) (fun u hS => (unhide q0 u).mono fun _ _ ⟨he, hb⟩ => ⟨he, hS.keep hb⟩) ?_
  go_simp
  refine plan_read (v := .agg (v3 ax ay az)) rfl rfl (fun u hS => exec_ldG hS rPoint _ rfl rfl (by repeat (first | exact List.mem_cons_self | apply List.mem_cons_of_mem)) rfl) ?_
  go_simp
  refine plan_read (v := .agg (v3 cx cy cz)) rfl rfl (fun u hS => exec_ldG hS rPoint _ rfl rfl (by repeat (first | exact List.mem_cons_self | apply List.mem_cons_of_mem)) rfl) ?_
  go_simp
  refine plan_call (v := (.agg (cells8 da))) (f := 25) (args := #[.agg (v3 ax ay az), .agg (v3 cx cy cz)]) rfl rfl (fun u hS => by go_simp) (fun u hS => (unhide q1 u).mono fun _ _ ⟨he, hb⟩ => ⟨he, hS.keep hb⟩) ?_
  go_simp
  refine plan_read (v := .agg (v3 bx b_y bz_)) rfl rfl (fun u hS => exec_ldG hS rPoint _ rfl rfl (by repeat (first | exact List.mem_cons_self | apply List.mem_cons_of_mem)) rfl) ?_
  go_simp
  refine plan_read (v := .agg (v3 cx cy cz)) rfl rfl (fun u hS => exec_ldG hS rPoint _ rfl rfl (by repeat (first | exact List.mem_cons_self | apply List.mem_cons_of_mem)) rfl) ?_
  go_simp
  refine plan_call (v := (.agg (cells8 db))) (f := 25) (args := #[.agg (v3 bx b_y bz_), .agg (v3 cx cy cz)]) rfl rfl (fun u hS => by go_simp) (fun u hS => (unhide q2 u).mono fun _ _ ⟨he, hb⟩ => ⟨he, hS.keep hb⟩) ?_
  go_simp
  refine plan_call (v := (.agg (cells8 ds))) (f := 35) (args := #[(.agg (cells8 da)), (.agg (cells8 db))]) rfl rfl (fun u hS => by go_simp) (fun u hS => (unhide p0 u).mono fun _ _ ⟨he, hb⟩ => ⟨he, hS.keep hb⟩) ?_
  go_simp
  refine plan_read (v := .bool true) rfl rfl (fun u hS => exec_eql_wide_is u _ _ (unhide sD) rfl rfl rfl) ?_
  go_simp
  refine plan_read (v := ?_) rfl rfl (fun u hS => by go_simp; rfl) ?_
  go_simp
  refine plan_read (v := .agg (c24 z1 z2 z3)) rfl rfl (fun u hS => exec_ldG hS rSpan _ rfl rfl (by repeat (first | exact List.mem_cons_self | apply List.mem_cons_of_mem)) rfl) ?_
  go_simp
  refine plan_read (v := ?_) rfl rfl (fun u hS => by go_simp; rfl) ?_
  go_simp
  refine plan_read (v := .agg (cells8 x1)) rfl rfl (fun u hS => exec_mid _ rfl rfl (range_x (hS.blk (cs := c24 x1 x2 x3) (by repeat (first | exact List.mem_cons_self | apply List.mem_cons_of_mem))))) ?_
  go_simp
  refine plan_read (v := ?_) rfl rfl (fun u hS => by go_simp; rfl) ?_
  go_simp
  refine plan_read (v := .agg (cells8 y1)) rfl rfl (fun u hS => exec_mid _ rfl rfl (range_x (hS.blk (cs := c24 y1 y2 y3) (by repeat (first | exact List.mem_cons_self | apply List.mem_cons_of_mem))))) ?_
  go_simp
  refine plan_call (v := (.agg (cells8 z1))) (f := 35) (args := #[.agg (cells8 x1), .agg (cells8 y1)]) rfl rfl (fun u hS => by go_simp) (fun u hS => (unhide p1 u).mono fun _ _ ⟨he, hb⟩ => ⟨he, hS.keep hb⟩) ?_
  go_simp
  refine plan_read (v := ?_) rfl rfl (fun u hS => by go_simp; rfl) ?_
  go_simp
  refine plan_read (v := .agg (cells8 x2)) rfl rfl (fun u hS => exec_mid _ rfl rfl (range_y (hS.blk (cs := c24 x1 x2 x3) (by repeat (first | exact List.mem_cons_self | apply List.mem_cons_of_mem))))) ?_
  go_simp
  refine plan_read (v := ?_) rfl rfl (fun u hS => by go_simp; rfl) ?_
  go_simp
  refine plan_read (v := .agg (cells8 y2)) rfl rfl (fun u hS => exec_mid _ rfl rfl (range_y (hS.blk (cs := c24 y1 y2 y3) (by repeat (first | exact List.mem_cons_self | apply List.mem_cons_of_mem))))) ?_
  go_simp
  refine plan_call (v := (.agg (cells8 z2))) (f := 35) (args := #[.agg (cells8 x2), .agg (cells8 y2)]) rfl rfl (fun u hS => by go_simp) (fun u hS => (unhide p2 u).mono fun _ _ ⟨he, hb⟩ => ⟨he, hS.keep hb⟩) ?_
  go_simp
  refine plan_read (v := ?_) rfl rfl (fun u hS => by go_simp; rfl) ?_
  go_simp
  refine plan_read (v := .agg (cells8 x3)) rfl rfl (fun u hS => exec_mid _ rfl rfl (range_z (hS.blk (cs := c24 x1 x2 x3) (by repeat (first | exact List.mem_cons_self | apply List.mem_cons_of_mem))))) ?_
  go_simp
  refine plan_read (v := ?_) rfl rfl (fun u hS => by go_simp; rfl) ?_
  go_simp
  refine plan_read (v := .agg (cells8 y3)) rfl rfl (fun u hS => exec_mid _ rfl rfl (range_z (hS.blk (cs := c24 y1 y2 y3) (by repeat (first | exact List.mem_cons_self | apply List.mem_cons_of_mem))))) ?_
  go_simp
  refine plan_call (v := (.agg (cells8 z3))) (f := 35) (args := #[.agg (cells8 x3), .agg (cells8 y3)]) rfl rfl (fun u hS => by go_simp) (fun u hS => (unhide p3 u).mono fun _ _ ⟨he, hb⟩ => ⟨he, hS.keep hb⟩) ?_
  go_simp
  refine plan_read (v := .agg (c24 z1 z2 z3)) rfl rfl (fun u hS => exec_build3 u 43 _ _ _ rfl rfl rfl rfl (bSpan _ _ _)) ?_
  go_simp
  refine plan_read (v := .bool true) rfl rfl (fun u hS => exec_eql_span u _ _ (unhide sZ) rfl rfl rfl) ?_
  go_simp
  refine plan_read (v := ?_) rfl rfl (fun u hS => by go_simp; rfl) ?_
  go_simp
  refine plan_read (v := ?_) rfl rfl (fun u hS => by go_simp; rfl) ?_
  go_simp
  refine plan_read (v := .agg (v3 ax ay az)) rfl rfl (fun u hS => exec_ldG hS rPoint _ rfl rfl (by repeat (first | exact List.mem_cons_self | apply List.mem_cons_of_mem)) rfl) ?_
  go_simp
  refine plan_read (v := .agg (v3 bx b_y bz_)) rfl rfl (fun u hS => exec_ldG hS rPoint _ rfl rfl (by repeat (first | exact List.mem_cons_self | apply List.mem_cons_of_mem)) rfl) ?_
  go_simp
  refine plan_call (v := (.agg (v3 s1 s2 s3))) (f := 44) (args := #[.agg (v3 ax ay az), .agg (v3 bx b_y bz_)]) rfl rfl (fun u hS => by go_simp) (fun u hS => (unhide hs u).mono fun _ _ ⟨he, hb⟩ => ⟨he, hS.keep hb⟩) ?_
  go_simp
  refine plan_read (v := .agg (v3 cx cy cz)) rfl rfl (fun u hS => exec_ldG hS rPoint _ rfl rfl (by repeat (first | exact List.mem_cons_self | apply List.mem_cons_of_mem)) rfl) ?_
  go_simp
  refine plan_read (v := .agg (v3 dx dy dz)) rfl rfl (fun u hS => exec_ldG hS rPoint _ rfl rfl (by repeat (first | exact List.mem_cons_self | apply List.mem_cons_of_mem)) rfl) ?_
  go_simp
  refine plan_call (v := (.agg (cells8 es))) (f := 29) (args := #[(.agg (v3 s1 s2 s3)), .agg (v3 cx cy cz), .agg (v3 dx dy dz)]) rfl rfl (fun u hS => by go_simp) (fun u hS => (unhide e0 u).mono fun _ _ ⟨he, hb⟩ => ⟨he, hS.keep hb⟩) ?_
  go_simp
  refine plan_read (v := .agg (v3 ax ay az)) rfl rfl (fun u hS => exec_ldG hS rPoint _ rfl rfl (by repeat (first | exact List.mem_cons_self | apply List.mem_cons_of_mem)) rfl) ?_
  go_simp
  refine plan_read (v := .agg (v3 cx cy cz)) rfl rfl (fun u hS => exec_ldG hS rPoint _ rfl rfl (by repeat (first | exact List.mem_cons_self | apply List.mem_cons_of_mem)) rfl) ?_
  go_simp
  refine plan_read (v := .agg (v3 dx dy dz)) rfl rfl (fun u hS => exec_ldG hS rPoint _ rfl rfl (by repeat (first | exact List.mem_cons_self | apply List.mem_cons_of_mem)) rfl) ?_
  go_simp
  refine plan_call (v := (.agg (cells8 ea))) (f := 29) (args := #[.agg (v3 ax ay az), .agg (v3 cx cy cz), .agg (v3 dx dy dz)]) rfl rfl (fun u hS => by go_simp) (fun u hS => (unhide e1 u).mono fun _ _ ⟨he, hb⟩ => ⟨he, hS.keep hb⟩) ?_
  go_simp
  refine plan_read (v := .agg (v3 bx b_y bz_)) rfl rfl (fun u hS => exec_ldG hS rPoint _ rfl rfl (by repeat (first | exact List.mem_cons_self | apply List.mem_cons_of_mem)) rfl) ?_
  go_simp
  refine plan_read (v := .agg (v3 cx cy cz)) rfl rfl (fun u hS => exec_ldG hS rPoint _ rfl rfl (by repeat (first | exact List.mem_cons_self | apply List.mem_cons_of_mem)) rfl) ?_
  go_simp
  refine plan_read (v := .agg (v3 dx dy dz)) rfl rfl (fun u hS => exec_ldG hS rPoint _ rfl rfl (by repeat (first | exact List.mem_cons_self | apply List.mem_cons_of_mem)) rfl) ?_
  go_simp
  refine plan_call (v := (.agg (cells8 eb))) (f := 29) (args := #[.agg (v3 bx b_y bz_), .agg (v3 cx cy cz), .agg (v3 dx dy dz)]) rfl rfl (fun u hS => by go_simp) (fun u hS => (unhide e2 u).mono fun _ _ ⟨he, hb⟩ => ⟨he, hS.keep hb⟩) ?_
  go_simp
  refine plan_call (v := (.agg (cells8 es))) (f := 35) (args := #[(.agg (cells8 ea)), (.agg (cells8 eb))]) rfl rfl (fun u hS => by go_simp) (fun u hS => (unhide p4 u).mono fun _ _ ⟨he, hb⟩ => ⟨he, hS.keep hb⟩) ?_
  go_simp
  refine plan_read (v := .bool true) rfl rfl (fun u hS => exec_eql_wide_is u _ _ (unhide sE) rfl rfl rfl) ?_
  go_simp
  refine plan_read (v := ?_) rfl rfl (fun u hS => by go_simp; rfl) ?_
  go_simp
  refine plan_read (v := ?_) rfl rfl (fun u hS => by go_simp; rfl) ?_
  go_simp
  refine plan_call (v := (.bool true)) (f := 20) (args := #[]) rfl rfl (fun u hS => by go_simp) (fun u hS => (unhide haw u).mono fun _ _ ⟨he, hb⟩ => ⟨he, hS.keep hb⟩) ?_
  go_simp
  refine plan_read (v := ?_) rfl rfl (fun u hS => by go_simp; rfl) ?_
  go_simp
  refine plan_read (v := ?_) rfl rfl (fun u hS => by go_simp; rfl) ?_
  go_simp
  refine plan_end (fun u hS => ?_)
  have O := hide hS.o
  clear hS
  go_wp2
  go_ret
  exact ⟨rfl, unhide O⟩
theorem det_sz {ax ay az bx b_y bz_ cx cy cz : Int} (h1 : I64 ax) (h2 : I64 ay) (h3 : I64 az) (h4 : I64 bx) (h5 : I64 b_y) (h6 : I64 bz_) (h7 : I64 cx) (h8 : I64 cy) (h9 : I64 cz) : Sz 192 (detI ax ay az bx b_y bz_ cx cy cz) :=
  (((cross_sz h2 h6 h3 h5).mul h7.sz).add ((cross_sz h3 h4 h1 h6).mul h8.sz)).add (((cross_sz h1 h5 h2 h4).mul h9.sz).mono (by decide))
theorem gridLinear_walk (ax ay az bx b_y bz_ cx cy cz dx dy dz : Int) (h0' : (Lit.int .i64 ax).wf = true) (h1' : (Lit.int .i64 ay).wf = true) (h2' : (Lit.int .i64 az).wf = true) (h3' : (Lit.int .i64 bx).wf = true) (h4' : (Lit.int .i64 b_y).wf = true) (h5' : (Lit.int .i64 bz_).wf = true) (h6' : (Lit.int .i64 cx).wf = true) (h7' : (Lit.int .i64 cy).wf = true) (h8' : (Lit.int .i64 cz).wf = true) (h9' : (Lit.int .i64 dx).wf = true) (h10' : (Lit.int .i64 dy).wf = true) (h11' : (Lit.int .i64 dz).wf = true) (w : World) :
    Calls Try.prog 12 #[.agg (v3 ax ay az), .agg (v3 bx b_y bz_), .agg (v3 cx cy cz), .agg (v3 dx dy dz)] w fun e w' => e = .returned (.bool true) ∧ Below w.heap.size w w' := by
  have h0 := I64.wf h0'
  have h1 := I64.wf h1'
  have h2 := I64.wf h2'
  have h3 := I64.wf h3'
  have h4 := I64.wf h4'
  have h5 := I64.wf h5'
  have h6 := I64.wf h6'
  have h7 := I64.wf h7'
  have h8 := I64.wf h8'
  have h9 := I64.wf h9'
  have h10 := I64.wf h10'
  have h11 := I64.wf h11'
  have sa := Small6Z ax ay az
  have sb := Small6Z bx b_y bz_
  have sc := Small6Z cx cy cz
  have sd := Small6Z dx dy dz
  cases ea : smallP ax ay az
  · rw [ea] at sa
    exact lin_no0 _ _ _ _ _ _ _ _ _ _ _ _ w sa awake6Z
  cases eb : smallP bx b_y bz_
  · rw [ea] at sa
    rw [eb] at sb
    exact lin_no1 _ _ _ _ _ _ _ _ _ _ _ _ w sa sb awake6Z
  cases ec : smallP cx cy cz
  · rw [ea] at sa
    rw [eb] at sb
    rw [ec] at sc
    exact lin_no2 _ _ _ _ _ _ _ _ _ _ _ _ w sa sb sc awake6Z
  cases ed : smallP dx dy dz
  · rw [ea] at sa
    rw [eb] at sb
    rw [ec] at sc
    rw [ed] at sd
    exact lin_no3 _ _ _ _ _ _ _ _ _ _ _ _ w sa sb sc sd awake6Z
  rw [ea] at sa
  rw [eb] at sb
  rw [ec] at sc
  rw [ed] at sd
  obtain ⟨a1, a2, a3⟩ := smallP_iff ea
  obtain ⟨b1, b2, b3⟩ := smallP_iff eb
  have i1 : I64 (ax + bx) := ⟨by omega, by omega⟩
  have i2 : I64 (ay + b_y) := ⟨by omega, by omega⟩
  have i3 : I64 (az + bz_) := ⟨by omega, by omega⟩
  have pl : ∀ {x y z : Int}, Sz 200 x → Sz 200 y → z = x + y → Ans 35 #[V x, V y] (V z) := fun {x y z} hx hy e => by
    rw [e]
    exact Plus6Z x y (hx.fit (by decide)) (hy.fit (by decide)) ((hx.add hy).fit (by decide))
  exact lin_law ax ay az bx b_y bz_ cx cy cz dx dy dz _ _ _ _ _ _ _ _ _ _ _ _ _ _ _ _ _ _ w sa sb sc sd (Cross6Z ax ay az cx cy cz h0 h1 h2 h6 h7 h8) (Cross6Z bx b_y bz_ cx cy cz h3 h4 h5 h6 h7 h8) (Sum6Z ax ay az bx b_y bz_ i1 i2 i3) (Cross6Z _ _ _ cx cy cz i1 i2 i3 h6 h7 h8)
    (Dot6Z _ _ _ cx cy cz i1 i2 i3 h6 h7 h8) (Dot6Z ax ay az cx cy cz h0 h1 h2 h6 h7 h8) (Dot6Z bx b_y bz_ cx cy cz h3 h4 h5 h6 h7 h8) (pl ((dot_sz h0 h1 h2 h6 h7 h8).mono (by decide)) ((dot_sz h3 h4 h5 h6 h7 h8).mono (by decide)) (by grind))
    (pl ((cross_sz h1 h8 h2 h7).mono (by decide)) ((cross_sz h4 h8 h5 h7).mono (by decide)) (by grind)) (pl ((cross_sz h2 h6 h0 h8).mono (by decide)) ((cross_sz h5 h6 h3 h8).mono (by decide)) (by grind)) (pl ((cross_sz h0 h7 h1 h6).mono (by decide)) ((cross_sz h3 h7 h4 h6).mono (by decide)) (by grind))
    (Det6Z _ _ _ cx cy cz dx dy dz i1 i2 i3 h6 h7 h8 h9 h10 h11) (Det6Z ax ay az cx cy cz dx dy dz h0 h1 h2 h6 h7 h8 h9 h10 h11) (Det6Z bx b_y bz_ cx cy cz dx dy dz h3 h4 h5 h6 h7 h8 h9 h10 h11)
    (pl ((det_sz h0 h1 h2 h6 h7 h8 h9 h10 h11).mono (by decide)) ((det_sz h3 h4 h5 h6 h7 h8 h9 h10 h11).mono (by decide)) (by unfold detI; grind)) awake6Z (same_self _) (same3_self _ _ _) (same_self _)

end Go.Proofs.Ytmnaffhlilnlhaa
