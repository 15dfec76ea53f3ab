/- A drawn region in which a turn may come at several places: a family of walks, one for each order of the turns. No Go in this text. A family of walks where reads need not be told apart: only the turns' order counts. No Go in this text. Package orient: what tells the signs of a point by those that were taken; what is appended to rows of memory, as an operation. Package orient: spread. Signs held against each other; package orient: spread. Package orient: spread. Package orient: Spread, Rank, areSimplex. Package orient: turned, against; a copy of points. Package orient: inside. Package orient: the first refusal, Inside, Side. -/
import Derived.Test.YtnemedgdhojhdaaGreatRd
import Derived.Test.YtnemedgdhojhdaaGreatHb
import Derived.OwnWalk
import Derived.Lib.SliceRun
import Derived.Laws.OwnMore
namespace Go.Proofs.YtnemedgdhojhdaaGreat
open Go.RowKit
set_option maxRecDepth 4000

section
variable {P : Program} {ops : Array Oper} {Q : Exit → Act → World → Prop} {S : World → Prop} {tn : Nat → Bool}

/-- The list without j, where nothing but reads stands ahead of it. -/
def pull (tn : Nat → Bool) (j : Nat) : List Nat → Option (List Nat)
  | [] => none
  | i :: r => if i = j then some r else if tn i then none else (pull tn j r).map (i :: ·)
theorem pull_spec {j : Nat} : ∀ {l l' : List Nat}, pull tn j l = some l' → ∃ p s, l = p ++ j :: s ∧ l' = p ++ s ∧ ∀ i ∈ p, tn i = false
  | [], _, h => by cases h
  | i :: r, l', h => by
    unfold pull at h
    by_cases e : i = j
    · rw [if_pos e] at h
      cases h
      exact ⟨[], r, by rw [e]; rfl, rfl, fun _ hk => by cases hk⟩
    · rw [if_neg e] at h
      cases ht : tn i with
      | true => rw [ht] at h; cases h
      | false =>
        rw [ht] at h
        simp only [Bool.false_eq_true, if_false, Option.map_eq_some_iff] at h
        obtain ⟨r', h1, rfl⟩ := h
        obtain ⟨p, s, rfl, rfl, hp⟩ := pull_spec h1
        exact ⟨i :: p, s, rfl, rfl, fun k hk => by rcases List.mem_cons.1 hk with e | hk; (subst e; exact ht); exact hp k hk⟩
/-- Whatever comes next, some walk of the family goes on with it. -/
def okFam (ops : Array Oper) (tn : Nat → Bool) : Nat → List (List Nat) → Bool
  | _, [] => false
  | _, [l] => okWalk ops tn l
  | 0, _ => false
  | n + 1, l0 :: l1 :: r => l0.all fun j => l0.any (fun k => waits ops j k) || okFam ops tn n ((l0 :: l1 :: r).filterMap (pull tn j))

theorem ne_value {x : Sem Value} {w w' : World} {f : FuncId} {args : Array Value} : (do pure (Next.value (← x)) : Sem Next).run P w ≠ .ok (.enter f args) w' := by
  intro h
  rw [Sem.run_bind] at h
  cases hx : x.run P w with
  | ok v w1 => rw [hx] at h; cases h
  | halt s w1 => rw [hx] at h; cases h
theorem ne_buildSlice {o : Oper} {t : TypeId} {n : Nat} {ps : Array (Nat × Operand)} (ho : o.op = .buildSlice t n ps) (a : Act) (w : World) (f : FuncId) (args : Array Value) (w' : World) : (execOp a.eval o).run P w ≠ .ok (.enter f args) w' := by
  unfold execOp
  simp only [ho]
  exact ne_value
end

end Go.Proofs.YtnemedgdhojhdaaGreat

namespace Go.Proofs.YtnemedgdhojhdaaGreat
open Go.RowKit
set_option maxRecDepth 4000

section
variable {P : Program} {ops : Array Oper} {Q : Exit → Act → World → Prop} {S : World → Prop} {tn : Nat → Bool}

/-- It waits for a turn of the list. -/
def awaits (ops : Array Oper) (tn : Nat → Bool) (j : Nat) (l : List Nat) : Bool := l.any fun k => tn k && waits ops j k
def okWalkT (ops : Array Oper) (tn : Nat → Bool) : List Nat → Bool
  | [] => true
  | i :: r => (!tn i || r.all fun j => awaits ops tn j (i :: r)) && okWalkT ops tn r
/-- A read behind a turn waits for a turn that is left. -/
def readsOk (ops : Array Oper) (tn : Nat → Bool) : List Nat → Bool
  | [] => true
  | i :: r => (!tn i || r.all fun j => tn j || awaits ops tn j (i :: r)) && readsOk ops tn r
theorem okWalkT.walk : ∀ {l : List Nat}, okWalkT ops tn l = true → okWalk ops tn l = true
  | [], _ => rfl
  | i :: r, h => by
    simp only [okWalkT, okWalk, Bool.and_eq_true, Bool.or_eq_true, List.all_eq_true] at h ⊢
    refine ⟨h.1.imp id fun h1 j hj => ?_, okWalkT.walk h.2⟩
    have := h1 j hj
    unfold awaits at this
    rw [List.any_eq_true] at this ⊢
    obtain ⟨k, hk, hw⟩ := this
    exact ⟨k, hk, (Bool.and_eq_true _ _ ▸ hw).2⟩
theorem awaits_rm {j x : Nat} (hx : tn x = false) {p s : List Nat} (h : awaits ops tn j (p ++ x :: s) = true) : awaits ops tn j (p ++ s) = true := by
  unfold awaits at *
  rw [List.any_eq_true] at *
  obtain ⟨k, hk, hw⟩ := h
  refine ⟨k, ?_, hw⟩
  rcases List.mem_append.1 hk with hk | hk
  · exact List.mem_append_left _ hk
  · rcases List.mem_cons.1 hk with e | hk
    · subst e; rw [hx] at hw; cases hw
    · exact List.mem_append_right _ hk
theorem okWalkT_rm {x : Nat} (hx : tn x = false) {s : List Nat} : ∀ {p : List Nat}, okWalkT ops tn (p ++ x :: s) = true → okWalkT ops tn (p ++ s) = true
  | [], h => by simp only [List.nil_append, okWalkT, Bool.and_eq_true] at h; exact h.2
  | i :: p, h => by
    simp only [List.cons_append, okWalkT, Bool.and_eq_true, Bool.or_eq_true, List.all_eq_true] at h ⊢
    refine ⟨h.1.imp id fun h1 j hj => ?_, okWalkT_rm hx h.2⟩
    have := h1 j (by rcases List.mem_append.1 hj with hj | hj; exact List.mem_append_left _ hj; exact List.mem_append_right _ (List.mem_cons_of_mem _ hj))
    exact awaits_rm (p := i :: p) hx this
/-- A turn behind reads alone goes first: the rest is as it was. -/
theorem readsOk_pull {x : Nat} {s : List Nat} : ∀ {p : List Nat}, (∀ i ∈ p, tn i = false) → readsOk ops tn (p ++ x :: s) = true → readsOk ops tn (p ++ s) = true
  | [], _, h => by simp only [List.nil_append, readsOk, Bool.and_eq_true] at h; exact h.2
  | i :: p, hp, h => by
    simp only [List.cons_append, readsOk, Bool.and_eq_true, hp i (List.mem_cons_self ..), Bool.not_false, Bool.true_or, true_and] at h ⊢
    exact readsOk_pull (fun k hk => hp k (List.mem_cons_of_mem _ hk)) h
theorem pull_reads {x : Nat} {s : List Nat} : ∀ {p : List Nat}, x ∉ p → (∀ i ∈ p, tn i = false) → pull tn x (p ++ x :: s) = some (p ++ s)
  | [], _, _ => by simp [pull]
  | i :: p, hn, hp => by
    have hne : i ≠ x := fun e => hn (by rw [e]; exact List.mem_cons_self ..)
    simp only [List.cons_append, pull, if_neg hne, hp i (List.mem_cons_self ..), Bool.false_eq_true, if_false, pull_reads (fun h => hn (List.mem_cons_of_mem _ h)) (fun k hk => hp k (List.mem_cons_of_mem _ hk)), Option.map_some]
/-- A read that is taken out changes nothing of whether a turn may go first. -/
theorem pull_comm {x t : Nat} (hx : tn x = false) (ht : tn t = true) {s : List Nat} : ∀ {p : List Nat}, x ∉ p → (∀ i ∈ p, tn i = false) → (pull tn t (p ++ x :: s)).bind (pull tn x) = pull tn t (p ++ s) := by
  intro p
  have hxt : x ≠ t := fun e => by rw [e, ht] at hx; cases hx
  induction p with
  | nil =>
    intro _ _
    simp only [List.nil_append, pull, if_neg hxt, hx, Bool.false_eq_true, if_false]
    cases pull tn t s with
    | none => rfl
    | some r => simp [pull]
  | cons i p ih =>
    intro hn hp
    have hix : i ≠ x := fun e => hn (by rw [e]; exact List.mem_cons_self ..)
    have hit : i ≠ t := fun e => by have := hp i (List.mem_cons_self ..); rw [e, ht] at this; cases this
    have hi := hp i (List.mem_cons_self ..)
    have := ih (fun h => hn (List.mem_cons_of_mem _ h)) (fun k hk => hp k (List.mem_cons_of_mem _ hk))
    simp only [List.cons_append, pull, if_neg hit, hi, Bool.false_eq_true, if_false]
    rw [← this]
    cases pull tn t (p ++ x :: s) with
    | none => rfl
    | some r => simp [pull, hix, hi]
/-- Whatever turn comes next, some walk of the family goes on with it. -/
def okFamT (ops : Array Oper) (tn : Nat → Bool) : Nat → List (List Nat) → Bool
  | _, [] => false
  | _, [l] => okWalkT ops tn l
  | 0, _ => false
  | n + 1, l0 :: l1 :: r => l0.all fun j => !tn j || awaits ops tn j l0 || okFamT ops tn n ((l0 :: l1 :: r).filterMap (pull tn j))
/-- The read x stands behind reads alone. -/
def Open (tn : Nat → Bool) (x : Nat) (l : List Nat) : Prop := ∃ p s, l = p ++ x :: s ∧ x ∉ p ∧ ∀ i ∈ p, tn i = false
theorem filterMap_pull {x : Nat} : ∀ {F : List (List Nat)}, (∀ l ∈ F, Open tn x l) → (F.filterMap (pull tn x)).length = F.length
  | [], _ => rfl
  | l :: F, h => by
    obtain ⟨p, s, rfl, hn, hp⟩ := h l (List.mem_cons_self ..)
    rw [List.filterMap_cons, pull_reads hn hp]
    simp [filterMap_pull (fun l hl => h l (List.mem_cons_of_mem _ hl))]
theorem fam_comm {x t : Nat} (hx : tn x = false) (ht : tn t = true) : ∀ {F : List (List Nat)}, (∀ l ∈ F, Open tn x l) → (F.filterMap (pull tn t)).filterMap (pull tn x) = (F.filterMap (pull tn x)).filterMap (pull tn t)
  | [], _ => rfl
  | l :: F, h => by
    obtain ⟨p, s, rfl, hn, hp⟩ := h l (List.mem_cons_self ..)
    have ih := fam_comm hx ht (fun l hl => h l (List.mem_cons_of_mem _ hl))
    have c := pull_comm (s := s) hx ht hn hp
    rw [List.filterMap_cons (f := pull tn x), pull_reads hn hp]
    simp only [List.filterMap_cons (f := pull tn t)]
    rw [← c]
    cases pull tn t (p ++ x :: s) with
    | none => exact ih
    | some r =>
      simp only [Option.bind_some, List.filterMap_cons]
      cases pull tn x r with
      | none => exact ih
      | some r' => simp [ih]
theorem open_pull {x t : Nat} (hx : tn x = false) (ht : tn t = true) {l l' : List Nat} (h : Open tn x l) (hp : pull tn t l = some l') : Open tn x l' := by
  obtain ⟨p, s, rfl, hn, hr⟩ := h
  have hxt : x ≠ t := fun e => by rw [e, ht] at hx; cases hx
  have : ∀ {p : List Nat}, x ∉ p → (∀ i ∈ p, tn i = false) → ∀ {l'}, pull tn t (p ++ x :: s) = some l' → ∃ s', l' = p ++ x :: s' := by
    intro p
    induction p with
    | nil =>
      intro _ _ l' h
      simp only [List.nil_append, pull, if_neg hxt, hx, Bool.false_eq_true, if_false, Option.map_eq_some_iff] at h
      obtain ⟨r, _, rfl⟩ := h
      exact ⟨r, rfl⟩
    | cons i p ih =>
      intro hn hr l' h
      have hi := hr i (List.mem_cons_self ..)
      have hit : i ≠ t := fun e => by rw [e, ht] at hi; cases hi
      simp only [List.cons_append, pull, if_neg hit, hi, Bool.false_eq_true, if_false, Option.map_eq_some_iff] at h
      obtain ⟨r, h1, rfl⟩ := h
      obtain ⟨s', rfl⟩ := ih (fun h => hn (List.mem_cons_of_mem _ h)) (fun k hk => hr k (List.mem_cons_of_mem _ hk)) h1
      exact ⟨s', rfl⟩
  obtain ⟨s', rfl⟩ := this hn hr hp
  exact ⟨p, s', rfl, hn, hr⟩
theorem okFamT_rm {x : Nat} (hx : tn x = false) : ∀ (m : Nat) (F : List (List Nat)), (∀ l ∈ F, Open tn x l) → okFamT ops tn m F = true → okFamT ops tn m (F.filterMap (pull tn x)) = true := by
  intro m
  induction m with
  | zero =>
    intro F hF hk
    match F, hF, hk with
    | [], _, hk => exact absurd hk (by simp [okFamT])
    | [l], hF, hk =>
      obtain ⟨p, s, rfl, hn, hp⟩ := hF l (by simp)
      rw [List.filterMap_cons, pull_reads hn hp]
      exact okWalkT_rm hx hk
    | _ :: _ :: _, _, hk => exact absurd hk (by simp [okFamT])
  | succ m ih =>
    intro F hF hk
    match F, hF, hk with
    | [], _, hk => exact absurd hk (by simp [okFamT])
    | [l], hF, hk =>
      obtain ⟨p, s, rfl, hn, hp⟩ := hF l (by simp)
      rw [List.filterMap_cons, pull_reads hn hp]
      exact okWalkT_rm hx hk
    | l0 :: l1 :: r, hF, hk =>
      have hlen := filterMap_pull hF
      obtain ⟨p, s, rfl, hn, hp⟩ := hF l0 (by simp)
      obtain ⟨p1, s1, rfl, hn1, hp1⟩ := hF l1 (by simp)
      have e : List.filterMap (pull tn x) ((p ++ x :: s) :: (p1 ++ x :: s1) :: r) = (p ++ s) :: (p1 ++ s1) :: List.filterMap (pull tn x) r := by
        rw [List.filterMap_cons, pull_reads hn hp]
        simp only
        rw [List.filterMap_cons, pull_reads hn1 hp1]
      rw [e]
      rw [okFamT, List.all_eq_true] at hk ⊢
      intro t ht
      have ht0 : t ∈ p ++ x :: s := by
        rcases List.mem_append.1 ht with h | h
        · exact List.mem_append_left _ h
        · exact List.mem_append_right _ (List.mem_cons_of_mem _ h)
      have h := hk t ht0
      simp only [Bool.or_eq_true, Bool.not_eq_true'] at h ⊢
      rcases h with (h | h) | h
      · exact .inl (.inl h)
      · exact .inl (.inr (awaits_rm hx h))
      · cases htn : tn t with
        | false => exact .inl (.inl rfl)
        | true =>
          refine .inr ?_
          rw [← e, ← fam_comm hx htn hF]
          refine ih _ (fun l' hl' => ?_) h
          rw [List.mem_filterMap] at hl'
          obtain ⟨l, hl, hp'⟩ := hl'
          exact open_pull hx htn (hF l hl) hp'
theorem readsOk_at : ∀ {p : List Nat} {i : Nat} {r : List Nat}, readsOk ops tn (p ++ i :: r) = true → tn i = true → ∀ j ∈ r, (tn j || awaits ops tn j (i :: r)) = true
  | [], i, r, h, hi, j, hj => by
    simp only [List.nil_append, readsOk, hi, Bool.not_true, Bool.false_or, Bool.and_eq_true, List.all_eq_true] at h
    exact h.1 j hj
  | k :: p, i, r, h, hi, j, hj => by
    simp only [List.cons_append, readsOk, Bool.and_eq_true] at h
    exact readsOk_at h.2 hi j hj
theorem fam_anyT (hs : Region.noSelect ops = true) (he2 : edgesOk ops = true) (hne : ∀ j o (a : Act) (w : World), tn j = true → ops[j]? = some o → ∀ f args w', (execOp a.eval o).run P w ≠ .ok (.enter f args) w') :
    ∀ (fuel : Nat) (F : List (List Nat)) (m : Nat) (listed : Array Bool) (a : Act) (w : World), (∀ l ∈ F, fuel = l.length ∧ (Left ops l [] listed ∧ readsOk ops tn l = true) ∧ Walk P ops S Q tn l a w) → okFamT ops tn m F = true → S w → wpAny P .any ops Q fuel listed a w := by
  intro fuel
  induction fuel with
  | zero =>
    intro F m listed a w hF hk hS
    match F, hF, hk with
    | [l], hF, hk =>
      obtain ⟨h1, h2, h3⟩ := hF l (by simp)
      exact walk_any hs he2 0 l listed a w h1 h2.1 (okWalkT.walk (by cases m <;> exact hk)) h3 hS
    | [], _, hk => exact absurd hk (by cases m <;> simp [okFamT])
    | l0 :: l1 :: rr, hF, hk =>
      obtain ⟨h1, h2, h3⟩ := hF l0 (by simp)
      have e : l0 = [] := List.eq_nil_of_length_eq_zero h1.symm
      subst e
      exact walk_any hs he2 0 [] listed a w rfl h2.1 rfl h3 hS
  | succ fuel ih =>
    intro F m listed a w hF hk hS
    match F, hF, hk with
    | [l], hF, hk =>
      obtain ⟨h1, h2, h3⟩ := hF l (by simp)
      exact walk_any hs he2 (fuel + 1) l listed a w h1 h2.1 (okWalkT.walk (by cases m <;> exact hk)) h3 hS
    | [], _, hk => exact absurd hk (by cases m <;> simp [okFamT])
    | l0 :: l1 :: rr, hF, hk =>
      obtain ⟨hf0, ⟨hl0, hr0⟩, hp0⟩ := hF l0 (by simp)
      refine ⟨fun hr => ?_, fun j hj => ?_⟩
      · exfalso
        cases l0 with
        | nil => simp at hf0
        | cons i r =>
          have hi := hl0.un i (by simp)
          have hlt : i < ops.size := by
            rcases Nat.lt_or_ge i listed.size with h' | h'
            · have := hl0.sz; omega
            · simp [Array.getElem?_eq_none h'] at hi
          obtain ⟨o, ho⟩ := Option.isSome_iff_exists.1 (show (ops[i]?).isSome = true by simp [hlt])
          have : i ∈ Region.ready .any ops listed := by
            refine mem_ready.2 ⟨hi, o, ho, fun e he hbd => ?_⟩
            by_cases hu : listed.getD e.on true = false
            · exfalso
              have hw : waits ops i e.on = true := by
                unfold waits
                rw [ho]
                simp only [Option.map_some, Option.getD_some, Array.any_eq_true']
                exact ⟨e, he, by simp [hbd]⟩
              have hok := hl0.ok
              simp only [okPlan, Bool.and_eq_true, List.all_eq_true] at hok
              rcases hl0.all _ hu with hm | hm
              · rcases List.mem_cons.1 hm with hm | hm
                · rw [hm] at hw; rw [hw] at hok; simp at hok
                · have := hok.1.2 _ hm
                  simp [ahead, hw] at this
              · cases hm
            · have : listed.getD e.on true = true := by simpa using hu
              rcases Nat.lt_or_ge e.on listed.size with h' | h'
              · simpa [h'] using this
              · have := edgesOk_spec he2 ho he
                have := hl0.sz
                omega
          rw [hr] at this
          cases this
      · obtain ⟨hju, _⟩ := mem_ready.1 hj
        have hj0 : j ∈ l0 := by
          rcases hl0.all j hju with hm | hm
          · exact hm
          · cases hm
        have hk2 : ∃ m', okFamT ops tn m' (List.filterMap (pull tn j) (l0 :: l1 :: rr)) = true := by
          cases htj : tn j with
          | true =>
            cases m with
            | zero => exact absurd hk (by simp [okFamT])
            | succ m =>
              rw [okFamT, List.all_eq_true] at hk
              have h := hk j hj0
              have hnw : awaits ops tn j l0 = false := by
                unfold awaits
                rw [List.any_eq_false]
                intro k hk
                rw [not_waits hj (hl0.un k hk), Bool.and_false]
                decide
              rw [hnw, htj, Bool.not_true, Bool.false_or, Bool.false_or] at h
              exact ⟨m, h⟩
          | false =>
            refine ⟨m, okFamT_rm htj m _ (fun l hl => ?_) hk⟩
            obtain ⟨_, ⟨hL, hR⟩, _⟩ := hF l hl
            have hjl : j ∈ l := by
              rcases hL.all j hju with hm | hm
              · exact hm
              · cases hm
            obtain ⟨p, s, rfl, hjp⟩ := List.eq_append_cons_of_mem hjl
            refine ⟨p, s, rfl, hjp, fun i hi => ?_⟩
            cases hti : tn i with
            | false => rfl
            | true =>
              exfalso
              obtain ⟨p1, p2, rfl⟩ := List.append_of_mem hi
              rw [List.append_assoc, List.cons_append] at hR
              have h := readsOk_at hR hti j (by simp)
              rw [htj, Bool.false_or] at h
              unfold awaits at h
              rw [List.any_eq_true] at h
              obtain ⟨k, hk, hw⟩ := h
              have hku : k ∈ (p1 ++ i :: p2) ++ j :: s := by
                rcases List.mem_cons.1 hk with e | hk
                · subst e; simp
                · rcases List.mem_append.1 hk with hk | hk
                  · simp [hk]
                  · rcases List.mem_cons.1 hk with e | hk
                    · subst e; simp
                    · simp [hk]
              rw [not_waits hj (hL.un k hku), Bool.and_false] at hw
              cases hw
        obtain ⟨m', hk2⟩ := hk2
        generalize hFe : List.filterMap (pull tn j) (l0 :: l1 :: rr) = F' at hk2
        have hall : ∀ l' ∈ F', fuel = l'.length ∧ (Left ops l' [] (listed.setIfInBounds j true) ∧ readsOk ops tn l' = true) ∧ Walk P ops S Q tn (j :: l') a w := by
          intro l' hl'
          rw [← hFe, List.mem_filterMap] at hl'
          obtain ⟨l, hlF, hpl⟩ := hl'
          obtain ⟨p, s, rfl, rfl, hrd⟩ := pull_spec hpl
          obtain ⟨hf, ⟨hl, hrk⟩, hp⟩ := hF _ hlF
          have hap : ∀ i ∈ p, apartAt ops i j = true := fun i hi => by
            have := (okPlan.tail hl.ok).2.1 i hi
            simp only [ahead, Bool.and_eq_true, Bool.or_eq_true, not_waits hj (hl.un i (by simp [hi]))] at this
            simpa using this.2
          exact ⟨by simp at hf ⊢; omega, ⟨hl.next, readsOk_pull hrd hrk⟩, hp.front hs p j s a w hrd hap⟩
        match F', hk2, hall with
        | [], hk2, _ => cases m' <;> simp [okFamT] at hk2
        | l' :: r', hk2, hall =>
          obtain ⟨_, _, o, ho, hcase⟩ := hall l' (by simp)
          have hoth : ∀ l2 ∈ l' :: r', fuel = l2.length ∧ (Left ops l2 [] (listed.setIfInBounds j true) ∧ readsOk ops tn l2 = true) ∧ ((Region.wanted o (yielded ops a.tmps) = false ∧ Walk P ops S Q tn l2 (a.put o.dst undef) w) ∨
              (Region.wanted o (yielded ops a.tmps) = true ∧ tn j = false ∧ ∃ v, (∀ u, S u → (execOp a.eval o).run P u = .ok (.value v) u) ∧ Walk P ops S Q tn l2 (a.put o.dst v) w) ∨
              (Region.wanted o (yielded ops a.tmps) = true ∧ tn j = true ∧ GivesK P (fun v w' => S w' ∧ Walk P ops S Q tn l2 (a.put o.dst v) w') ((execOp a.eval o).run P w))) := fun l2 h2 => by
            obtain ⟨q1, q2, o2, ho2, hc2⟩ := hall l2 h2
            rw [ho] at ho2
            cases ho2
            exact ⟨q1, q2, hc2⟩
          clear hall
          unfold wpOp
          simp only [ho]
          rcases hcase with ⟨hwt, _⟩ | ⟨hwt, htj, v, hv, _⟩ | ⟨hwt, htj, hg2⟩
          · simp only [hwt, Bool.false_eq_true, if_false]
            refine ih (l' :: r') m' _ _ w (fun l2 h2 => ?_) hk2 hS
            obtain ⟨q1, q2, hc⟩ := hoth l2 h2
            rcases hc with ⟨_, hr⟩ | ⟨hb, _⟩ | ⟨hb, _⟩
            · exact ⟨q1, q2, hr⟩
            · rw [hwt] at hb; cases hb
            · rw [hwt] at hb; cases hb
          · simp only [hwt, if_true]
            refine .inl (GivesK.wp ?_)
            rw [hv w hS]
            refine ih (l' :: r') m' _ _ w (fun l2 h2 => ?_) hk2 hS
            obtain ⟨q1, q2, hc⟩ := hoth l2 h2
            rcases hc with ⟨hb, _⟩ | ⟨_, _, v2, hv2, hr⟩ | ⟨_, hb, _⟩
            · rw [hwt] at hb; cases hb
            · have := (hv w hS).symm.trans (hv2 w hS)
              cases this
              exact ⟨q1, q2, hr⟩
            · rw [htj] at hb; cases hb
          · simp only [hwt, if_true]
            refine .inl (GivesK.wp ?_)
            have hoth2 : ∀ l2 ∈ l' :: r', fuel = l2.length ∧ (Left ops l2 [] (listed.setIfInBounds j true) ∧ readsOk ops tn l2 = true) ∧ GivesK P (fun v w' => S w' ∧ Walk P ops S Q tn l2 (a.put o.dst v) w') ((execOp a.eval o).run P w) := fun l2 h2 => by
              obtain ⟨q1, q2, hc⟩ := hoth l2 h2
              rcases hc with ⟨hb, _⟩ | ⟨_, hb, _⟩ | ⟨_, _, hg⟩
              · rw [hwt] at hb; cases hb
              · rw [htj] at hb; cases hb
              · exact ⟨q1, q2, hg⟩
            have hn := hne j o a w htj ho
            generalize (execOp a.eval o).run P w = res at *
            cases res with
            | ok n w' =>
              cases n
              case value u =>
                exact ih (l' :: r') m' _ _ w' (fun l2 h2 => ⟨(hoth2 l2 h2).1, (hoth2 l2 h2).2.1, (hoth2 l2 h2).2.2.2⟩) hk2 hg2.1
              case skip =>
                exact ih (l' :: r') m' _ _ w' (fun l2 h2 => ⟨(hoth2 l2 h2).1, (hoth2 l2 h2).2.1, (hoth2 l2 h2).2.2.2⟩) hk2 hg2.1
              case enter f args => exact absurd rfl (hn f args w')
              all_goals exact (show False from hg2).elim
            | halt x w' => exact hg2.elim

/-- The whole region, by a family of walks: of the reads nothing is asked but that they wait for what they stand behind. -/
theorem region_famT {id : Nat} {F : List (List Nat)} {t : List Nat} {a : Act} {w : World} (hm : P.follows .mixedOrders = true) (hs : Region.noSelect ops = true) (he2 : edgesOk ops = true)
    (hok : F.all (fun l => okPlan ops l && (List.range ops.size).all (fun k => l.contains k || [].contains k) && l.all (fun k => decide (k < ops.size)) && (ops.size == l.length) && readsOk ops t.contains l) = true)
    (hw : okFamT ops t.contains ops.size F = true) (hne : ∀ j o (a : Act) (w : World), t.contains j = true → ops[j]? = some o → ∀ f args w', (execOp a.eval o).run P w ≠ .ok (.enter f args) w')
    (hS : S w.drew) (hp : ∀ l ∈ F, Walk P ops S Q t.contains l a w.drew) : (Code.region id ops true).wp P Q a w := by
  refine wp_region_any hm ?_
  rw [List.all_eq_true] at hok
  refine fam_anyT hs he2 hne ops.size F ops.size _ a _ (fun l hl => ?_) hw hS
  have h := hok l hl
  simp only [Bool.and_eq_true, beq_iff_eq] at h
  obtain ⟨⟨⟨⟨h1, h2⟩, h3⟩, h4⟩, h5⟩ := h
  exact ⟨h4, ⟨left_of_replicate h1 h2 (by simpa using h3) (by simp), h5⟩, hp l hl⟩
end

end Go.Proofs.YtnemedgdhojhdaaGreat

namespace Go.Proofs.YtnemedgdhojhdaaGreat
open Go.RowKit
set_option maxRecDepth 4000
set_option linter.unusedVariables false

theorem cmpI_zero (x : Int) : cmpI x 0 = sgn x := by
  unfold cmpI sgn
  by_cases h : x < 0
  · simp [h]
  · by_cases h0 : x = 0
    · simp [h0]
    · have : 0 < x := by omega
      simp [h, h0, this]
/-- The signs of a point by those that were taken: 0 in all places just if it does not raise their rank. -/
def sg (m : Nat) (t : Nat → Pt) (p : Pt) : Pt :=
  match m with
  | 0 => (1, 0, 0)
  | 1 => (sgn (p.1 - (t 0).1), sgn (p.2.1 - (t 0).2.1), sgn (p.2.2 - (t 0).2.2))
  | 2 => (sgn (((t 1).2.1 - (t 0).2.1) * (p.2.2 - (t 0).2.2) - ((t 1).2.2 - (t 0).2.2) * (p.2.1 - (t 0).2.1)), sgn (((t 1).2.2 - (t 0).2.2) * (p.1 - (t 0).1) - ((t 1).1 - (t 0).1) * (p.2.2 - (t 0).2.2)), sgn (((t 1).1 - (t 0).1) * (p.2.1 - (t 0).2.1) - ((t 1).2.1 - (t 0).2.1) * (p.1 - (t 0).1)))
  | 3 => (sgn (volI (t 0).1 (t 0).2.1 (t 0).2.2 (t 1).1 (t 1).2.1 (t 1).2.2 (t 2).1 (t 2).2.1 (t 2).2.2 p.1 p.2.1 p.2.2), 0, 0)
  | _ => (0, 0, 0)
theorem vol_fit {a1 a2 a3 b1 b2 b3 c1 c2 c3 d1 d2 d3 : Int} (ha : chkP a1 a2 a3 = true) (hb : chkP b1 b2 b3 = true) (hc : chkP c1 c2 c3 = true) (hd : chkP d1 d2 d3 = true) : Fit (volI a1 a2 a3 b1 b2 b3 c1 c2 c3 d1 d2 d3) := by
  obtain ⟨u1, u2, u3⟩ := less64 hb ha
  obtain ⟨x1, x2, x3⟩ := less64 hc ha
  obtain ⟨y1, y2, y3⟩ := less64 hd ha
  unfold volI detI
  have s1 := (cross_sz u2 x3 u3 x2).mul y1.sz
  have s2 := (cross_sz u3 x1 u1 x3).mul y2.sz
  have s3 := (cross_sz u1 x2 u2 x1).mul y3.sz
  exact ((s1.add s2).add (s3.mono (by decide))).fit (by decide)
theorem SigO (A : Option Addr) (m c : Nat) (t : Nat → Pt) (p : Pt) (w : World) (hP : PRow w A m t) (ht : ∀ i, i < m → chkQ (t i) = true) (hp : chkQ p = true) :
    Calls Tryz.prog (sgF m) #[.slice A m c, .agg (v3 p.1 p.2.1 p.2.2)] w fun e w' => e = .returned (.agg (v3 (sg m t p).1 (sg m t p).2.1 (sg m t p).2.2)) ∧ Below w.heap.size w w' := by
  obtain ⟨p1, p2, p3⟩ := p
  match m, hP, ht with
  | 0, _, _ => exact firstO_core _ p1 p2 p3 w
  | 1, hP, ht =>
    simp only [sg]
    obtain ⟨g, off, rfl, hg, hr⟩ := hP.resolve_left (by decide)
    have h0 := ht 0 (by decide)
    have r0 := hr 0 (by decide)
    generalize t 0 = q0 at *
    obtain ⟨a1, a2, a3⟩ := q0
    have cz : ∀ x : Int, Ans 196 #[.int .i64 x, .int .i64 0] (.int .i64 (sgn x)) := fun x => by rw [← cmpI_zero]; exact CompareZ x 0
    exact apartO_core g off 1 c a1 a2 a3 p1 p2 p3 _ _ _ _ _ _ w hg (by decide) r0 (LessO _ _ _ _ _ _ hp h0) (cz _) (cz _) (cz _)
  | 2, hP, ht =>
    simp only [sg]
    obtain ⟨g, off, rfl, hg, hr⟩ := hP.resolve_left (by decide)
    have h0 := ht 0 (by decide)
    have h1 := ht 1 (by decide)
    have r0 := hr 0 (by decide)
    have r1 := hr 1 (by decide)
    generalize t 0 = q0 at *
    generalize t 1 = q1 at *
    obtain ⟨a1, a2, a3⟩ := q0
    obtain ⟨b1, b2, b3⟩ := q1
    obtain ⟨u1, u2, u3⟩ := less64 h1 h0
    obtain ⟨y1, y2, y3⟩ := less64 hp h0
    exact beside_core7 g off 2 c a1 a2 a3 b1 b2 b3 p1 p2 p3 _ _ _ _ _ _ _ _ _ _ _ _ w hg (by decide) r0 (by decide) r1 (LessO _ _ _ _ _ _ h1 h0) (LessO _ _ _ _ _ _ hp h0) (Cross6Z _ _ _ _ _ _ u1 u2 u3 y1 y2 y3)
      (fun v => SignZ _ ((cross_sz u2 y3 u3 y2).fit (by decide)) v) (fun v => SignZ _ ((cross_sz u3 y1 u1 y3).fit (by decide)) v) (fun v => SignZ _ ((cross_sz u1 y2 u2 y1).fit (by decide)) v)
  | 3, hP, ht =>
    simp only [sg]
    obtain ⟨g, off, rfl, hg, hr⟩ := hP.resolve_left (by decide)
    have h0 := ht 0 (by decide)
    have h1 := ht 1 (by decide)
    have h2 := ht 2 (by decide)
    have r0 := hr 0 (by decide)
    have r1 := hr 1 (by decide)
    have r2 := hr 2 (by decide)
    generalize t 0 = q0 at *
    generalize t 1 = q1 at *
    generalize t 2 = q2 at *
    obtain ⟨a1, a2, a3⟩ := q0
    obtain ⟨b1, b2, b3⟩ := q1
    obtain ⟨c1, c2, c3⟩ := q2
    exact aboveO_core g off 3 c a1 a2 a3 b1 b2 b3 c1 c2 c3 p1 p2 p3 _ _ w hg (by decide) r0 (by decide) r1 (by decide) r2 (VolO _ _ _ _ _ _ _ _ _ _ _ _ h0 h1 h2 hp) (fun v => SignZ _ (vol_fit h0 h1 h2 hp) v)
  | m + 4, _, _ => exact withinO_core _ p1 p2 p3 w
section
variable {P : Program}
theorem ne_append {o : Oper} {xs : Array Operand} {ts : Array TypeId} (ho : o.op = .call { callee := .builtin .append, args := xs, argTypes := ts }) (a : Act) (w : World) (f : FuncId) (args : Array Value) (w' : World) : (execOp a.eval o).run P w ≠ .ok (.enter f args) w' := by
  intro h
  unfold execOp at h
  simp only [ho, resolve, Sem.run_bind, Sem.run_pure, Result.andThen_ok, invoke, builtin] at h
  cases hx : (Builtin.append_ ts o.type (xs.map a.eval)).run P w with
  | ok v w1 => rw [hx] at h; cases h
  | halt s w1 => rw [hx] at h; cases h
theorem exec_append {o : Oper} {a : Act} {w w' : World} (t : TypeId) (s x : Operand) {v y v' : Value} (ho : o.op = .call { callee := .builtin .append, args := #[s, x], argTypes := #[t, t] }) (hs : a.eval s = v) (hx : a.eval x = y) (h : (Builtin.append_ #[t, t] o.type #[v, y]).run P w = .ok v' w') :
    (execOp a.eval o).run P w = .ok (.value v') w' := by
  unfold execOp
  have e : (#[s, x].map a.eval) = #[v, y] := by simp [hs, hx]
  simp only [ho, resolve, Sem.run_bind, Sem.run_pure, Result.andThen_ok, invoke, builtin, e, h]
end
theorem bs1i (k : Int) (w : World) : (Instr.buildSlice 116 1 #[(0, .int .i64 k)]).run Tryz.prog w = .ok (.slice (some ⟨w.heap.size, 0, none⟩) 1 1) (w.alloc (.cells #[.int .i64 k] 3)) := by kernel_rfl
theorem bs1p (x y z : Int) (w : World) : (Instr.buildSlice 169 1 #[(0, .agg (v3 x y z))]).run Tryz.prog w = .ok (.slice (some ⟨w.heap.size, 0, none⟩) 1 1) (w.alloc (.cells (v3 x y z) 64)) := by kernel_rfl
theorem exec_bs1i {o : Oper} {ac : Act} (w : World) (p : Operand) {k : Int} (ho : o.op = .buildSlice 116 1 #[(0, p)]) (hp : ac.eval p = .int .i64 k) :
    (execOp ac.eval o).run Tryz.prog w = .ok (.value (.slice (some ⟨w.heap.size, 0, none⟩) 1 1)) (w.alloc (.cells #[.int .i64 k] 3)) := by
  unfold execOp
  have e : (#[(0, p)].map fun (i, x) => (i, ac.eval x)) = #[(0, .int .i64 k)] := by simp [hp]
  simp only [ho, Sem.run_bind, e, bs1i, Result.andThen_ok, Sem.run_pure]
theorem exec_bs1p {o : Oper} {ac : Act} (w : World) (p : Operand) {x y z : Int} (ho : o.op = .buildSlice 169 1 #[(0, p)]) (hp : ac.eval p = .agg (v3 x y z)) :
    (execOp ac.eval o).run Tryz.prog w = .ok (.value (.slice (some ⟨w.heap.size, 0, none⟩) 1 1)) (w.alloc (.cells (v3 x y z) 64)) := by
  unfold execOp
  have e : (#[(0, p)].map fun (i, x) => (i, ac.eval x)) = #[(0, .agg (v3 x y z))] := by simp [hp]
  simp only [ho, Sem.run_bind, e, bs1p, Result.andThen_ok, Sem.run_pure]
/-- A block that is not the row that grew is as it was. -/
theorem Blk.grownOther {W W' : World} {g : Nat} {t : TypeId} {cs : Array Value} {row : Option Nat} (h : Blk W g t cs) (hg : W.grownBy W' row) (hne : row ≠ some g) : Blk W' g t cs :=
  (hg.block g h.lt (fun e => hne e.symm)).trans h
/-- The cells of points. -/
def cellsP (l : List Pt) : List Value := l.flatMap fun p => [.int .i64 p.1, .int .i64 p.2.1, .int .i64 p.2.2]
def cellsI (l : List Nat) : List Value := l.map fun (k : Nat) => Value.int .i64 (k : Int)
/-- The places of those that raise the rank, of the first k points. -/
def spS (ps : Nat → Pt) : Nat → List Nat
  | 0 => []
  | k + 1 => if sg (spS ps k).length (fun i => ps ((spS ps k).getD i 0)) (ps k) = (0, 0, 0) then spS ps k else spS ps k ++ [k]
theorem spS_len (ps : Nat → Pt) : ∀ k, (spS ps k).length ≤ 4
  | 0 => by show 0 ≤ 4; decide
  | k + 1 => by
    have ih := spS_len ps k
    unfold spS
    split
    · exact ih
    · rename_i h
      rw [List.length_append, List.length_singleton]
      rcases (show (spS ps k).length = 4 ∨ (spS ps k).length ≤ 3 by omega) with e | e
      · rw [e] at h
        exact absurd rfl h
      · omega
theorem spS_lt (ps : Nat → Pt) : ∀ k, ∀ i ∈ spS ps k, i < k
  | 0, i, h => by cases h
  | k + 1, i, h => by
    unfold spS at h
    split at h
    · have := spS_lt ps k i h; omega
    · rcases List.mem_append.1 h with h | h
      · have := spS_lt ps k i h; omega
      · have := List.mem_singleton.1 h; omega

end Go.Proofs.YtnemedgdhojhdaaGreat

namespace Go.Proofs.YtnemedgdhojhdaaGreat
open Go.RowKit
set_option maxRecDepth 4000
set_option linter.unusedVariables false

theorem infoPoint : (Tryz.prog.info? 64).map (fun i => (i.zero, i.size, i.bytes)) = some (some (.agg (v3 0 0 0)), 3, 24) := by kernel_rfl
theorem infoInt : (Tryz.prog.info? 3).map (fun i => (i.zero, i.size, i.bytes)) = some (some (.int .i64 0), 1, 8) := by kernel_rfl
/-- What is appended to a row of ints, or of points. -/
theorem app_int (w : World) (B : Nat) (ty : TypeId) (v : Value) (n : Nat) (xs : List Value) (g : Nat) (k : Int) (hown : w.ownsRow B 3 1 v n xs) (hb : Blk w g 3 #[.int .i64 k]) (hn : n ≤ 4) (hB : B ≤ w.heap.size) :
    ∃ v' w', (Builtin.append_ #[116, 116] ty #[v, .slice (some ⟨g, 0, none⟩) 1 1]).run Tryz.prog w = .ok v' w' ∧ w'.ownsRow B 3 1 v' (n + 1) (xs ++ [.int .i64 k]) ∧ w.grownBy w' v.ownBlock := by
  obtain ⟨i0, hi, hz0, hz1, hz2⟩ := info_parts infoInt
  obtain ⟨v', w', h1, h2, h3, _⟩ := run_append_own (w := w) B 116 ty 3 i0 (.int .i64 0) 1 8 Tryz.underlying116 hi hz0 hz1 hz2 rfl (by decide) v n xs hown ⟨g, 0, none⟩ 1 1 [.int .i64 k] rfl (fun j u hj => by
    match j, hj with
    | 0, hj => cases hj; exact (hb.cell 0)) (fun u hu => by rw [List.mem_singleton.1 hu]; rfl) (by unfold maxLen; omega) (by omega) hB
  exact ⟨v', w', h1, h2, h3⟩
theorem app_pt (w : World) (B : Nat) (ty : TypeId) (v : Value) (n : Nat) (xs : List Value) (g : Nat) (x y z : Int) (hown : w.ownsRow B 64 3 v n xs) (hb : Blk w g 64 (v3 x y z)) (hn : n ≤ 4) (hB : B ≤ w.heap.size) :
    ∃ v' w', (Builtin.append_ #[169, 169] ty #[v, .slice (some ⟨g, 0, none⟩) 1 1]).run Tryz.prog w = .ok v' w' ∧ w'.ownsRow B 64 3 v' (n + 1) (xs ++ [.int .i64 x, .int .i64 y, .int .i64 z]) ∧ w.grownBy w' v.ownBlock := by
  obtain ⟨i0, hi, hz0, hz1, hz2⟩ := info_parts infoPoint
  obtain ⟨v', w', h1, h2, h3, _⟩ := run_append_own (w := w) B 169 ty 64 i0 (.agg (v3 0 0 0)) 3 24 (by kernel_rfl) hi hz0 hz1 hz2 rfl (by decide) v n xs hown ⟨g, 0, none⟩ 1 1 [.int .i64 x, .int .i64 y, .int .i64 z] rfl (fun j u hj => by
    match j, hj with
    | 0, hj => cases hj; exact (hb.cell 0)
    | 1, hj => cases hj; exact (hb.cell 1)
    | 2, hj => cases hj; exact (hb.cell 2)) (fun u hu => by
    simp only [List.mem_cons, List.not_mem_nil, or_false] at hu
    rcases hu with rfl | rfl | rfl <;> rfl) (by unfold maxLen; omega) (by omega) hB
  exact ⟨v', w', h1, h2, h3⟩
/-- What was taken lies as a row of points. -/
theorem owns_row {w : World} {B : Nat} {v : Value} {l : List Pt} (h : w.ownsRow B 64 3 v l.length (cellsP l)) : ∃ A c, v = .slice A l.length c ∧ PRow w A l.length (fun i => l.getD i (0, 0, 0)) := by
  rcases h.2 with ⟨rfl, h0⟩ | ⟨g, cap, cur, rfl, _, hg, _, _, hsz, htk⟩
  · rw [h0]
    exact ⟨none, 0, rfl, .inl rfl⟩
  · refine ⟨_, _, rfl, .inr ⟨g, 0, rfl, (Array.getElem?_eq_some_iff.1 hg).1, fun i hi => ?_⟩⟩
    have hc : ∀ j, j < l.length * 3 → w.cell? ⟨g, j, none⟩ = (cellsP l)[j]? := fun j hj => h.cellAt j hj
    have key : ∀ (l : List Pt) (i : Nat), i < l.length → (cellsP l)[i * 3]? = some (.int .i64 (l.getD i (0, 0, 0)).1) ∧ (cellsP l)[i * 3 + 1]? = some (.int .i64 (l.getD i (0, 0, 0)).2.1) ∧ (cellsP l)[i * 3 + 2]? = some (.int .i64 (l.getD i (0, 0, 0)).2.2) := by
      intro l
      induction l with
      | nil => intro i hi; cases hi
      | cons p l ih =>
        intro i hi
        match i, hi with
        | 0, _ => exact ⟨rfl, rfl, rfl⟩
        | i + 1, hi =>
          have := ih i (by simpa using hi)
          have e : cellsP (p :: l) = .int .i64 p.1 :: .int .i64 p.2.1 :: .int .i64 p.2.2 :: cellsP l := rfl
          rw [e, show (i + 1) * 3 = i * 3 + 1 + 1 + 1 by omega]
          simpa using this
    obtain ⟨k0, k1, k2⟩ := key l i hi
    rw [Nat.zero_add]
    exact rangeAt3 ((hc _ (by omega)).trans k0) ((hc _ (by omega)).trans k1) ((hc _ (by omega)).trans k2)

end Go.Proofs.YtnemedgdhojhdaaGreat

namespace Go.Proofs.YtnemedgdhojhdaaGreat
open Go.RowKit
set_option maxRecDepth 4000
set_option linter.unusedVariables false

theorem part_int3 (x y z : Int) (i : Nat) (v : Int) (h : (v3 x y z)[i]? = some (.int .i64 v)) (w : World) : (Go.part 3 (v3 x y z) i).run Tryz.prog w = .ok (.int .i64 v) w := by
  unfold Go.part
  have hagg : (isAgg 3).run Tryz.prog w = .ok false w := by
    unfold isAgg
    rw [Sem.run_bind, run_underlying Tryz.underlying3 w]
    rfl
  simp only [Sem.run_bind, hagg, Result.andThen_ok, Bool.false_eq_true, if_false, h, Sem.run_pure]
theorem size_int1 (w : World) : (sizeOf 3).run Tryz.prog w = .ok 1 w := run_sizeOf' (by kernel_rfl) w
theorem eq_arr3 (t : TypeId) (ht : Tryz.prog.underlying t = some (.array 3 3)) (D : Nat) (x y z a b c : Int) (e : ∀ (w : World) (p q : Int), (Op.equalIn D 3 (.int .i64 p) (.int .i64 q)).run Tryz.prog w = .ok (p == q) w) (w : World) :
    (Op.equalIn (D + 1) t (.agg (v3 x y z)) (.agg (v3 a b c))).run Tryz.prog w = .ok (sameV x y z a b c) w := by
  simp only [Op.equalIn, Sem.run_bind, run_underlying ht, Result.andThen_ok, size_int1]
  simp only [Std.Legacy.Range.forIn_eq_forIn_range', Nat.mul_one, Std.Legacy.Range.size, Nat.sub_zero, Nat.add_sub_cancel, Nat.div_one]
  rw [show List.range' 0 3 = [0, 1, 2] from rfl]
  have p0 : ∀ (x y z : Int) w, (Go.part 3 (v3 x y z) 0).run Tryz.prog w = .ok (.int .i64 x) w := fun x y z w => part_int3 x y z 0 x rfl w
  have p1 : ∀ (x y z : Int) w, (Go.part 3 (v3 x y z) 1).run Tryz.prog w = .ok (.int .i64 y) w := fun x y z w => part_int3 x y z 1 y rfl w
  have p2 : ∀ (x y z : Int) w, (Go.part 3 (v3 x y z) 2).run Tryz.prog w = .ok (.int .i64 z) w := fun x y z w => part_int3 x y z 2 z rfl w
  simp only [List.forIn_cons, List.forIn_nil, Sem.run_bind, p0, e, Result.andThen_ok]
  unfold sameV
  by_cases h0 : x = a
  · by_cases h1 : y = b
    · by_cases h2 : z = c <;> simp [h0, h1, h2, Sem.run_bind, Result.andThen, p1, p2, e]
    · simp [h0, h1, Sem.run_bind, Result.andThen, p1, e]
  · simp [h0, Result.andThen]
theorem run_signs (x y z a b c : Int) (w : World) : (Op.equalIn 10000 173 (.agg (v3 x y z)) (.agg (v3 a b c))).run Tryz.prog w = .ok (sameV x y z a b c) w :=
  eq_arr3 173 Tryz.underlying173 9999 x y z a b c (fun w p q => run_equalIn_int w 9998 3 _ _ _ _ Tryz.underlying3) w
theorem gSigns : Tryz.prog.eqGuardType Tryz.prog.depth 173 = false := by kernel_rfl
section
variable {o : Oper} {ac : Act} (wd : World) (p q : Operand) {ty' : TypeId} {s : Bool}
theorem exec_eql_signs {x y z a b c : Int} (hb : sameV x y z a b c = s) (ho : o.op = .binOp .eql 173 p q ty') (hx : ac.eval p = .agg (v3 x y z)) (hy : ac.eval q = .agg (v3 a b c)) : (execOp ac.eval o).run Tryz.prog wd = .ok (.value (.bool s)) wd := by
  subst hb
  unfold execOp
  simp only [ho, hx, hy, Sem.run_bind, run_eqGuard_agg wd _ 173 _ _ _ _ gSigns, run_eql_struct, run_signs, Result.andThen_ok, Sem.run_pure]
end

end Go.Proofs.YtnemedgdhojhdaaGreat

namespace Go.Proofs.YtnemedgdhojhdaaGreat
open Go.RowKit
set_option maxRecDepth 4000
set_option linter.unusedVariables false

theorem sg_congr {m : Nat} {t t' : Nat → Pt} (h : ∀ i, i < m → t i = t' i) (p : Pt) : sg m t p = sg m t' p := by
  match m, h with
  | 0, _ => rfl
  | 1, h => simp only [sg, h 0 (by decide)]
  | 2, h => simp only [sg, h 0 (by decide), h 1 (by decide)]
  | 3, h => simp only [sg, h 0 (by decide), h 1 (by decide), h 2 (by decide)]
  | m + 4, _ => rfl
theorem own_below {w u : World} {base : Nat} {e : TypeId} {size : Nat} {v : Value} {n : Nat} {xs : List Value} (h : w.ownsRow base e size v n xs) (hb : Below w.heap.size w u) : u.ownsRow base e size v n xs := by
  refine ⟨h.1, ?_⟩
  rcases h.2 with hn | ⟨g, cap, cur, rfl, hb', hgg, rest⟩
  · exact .inl hn
  · exact .inr ⟨g, cap, cur, rfl, hb', (hb.block g (Array.getElem?_eq_some_iff.1 hgg).1).trans hgg, rest⟩
theorem own_apart {w : World} {B n m : Nat} {v u : Value} {xs ys : List Value} (h1 : w.ownsRow B 3 1 v n xs) (h2 : w.ownsRow B 64 3 u m ys) : v.ownBlock = none ∨ v.ownBlock ≠ u.ownBlock := by
  rcases h1.2 with ⟨rfl, _⟩ | ⟨g, cap, cur, rfl, _, hg, _⟩
  · exact .inl rfl
  · right
    rcases h2.2 with ⟨rfl, _⟩ | ⟨g', cap', cur', rfl, _, hg', _⟩
    · simp [Value.ownBlock]
    · intro e
      have e2 : g = g' := by simpa [Value.ownBlock] using e
      rw [e2, hg'] at hg
      cases hg
theorem own_apart' {w : World} {B n m : Nat} {v u : Value} {xs ys : List Value} (h1 : w.ownsRow B 3 1 v n xs) (h2 : w.ownsRow B 64 3 u m ys) : u.ownBlock = none ∨ u.ownBlock ≠ v.ownBlock := by
  rcases own_apart h1 h2 with h | h
  · rw [h]
    cases u.ownBlock
    · exact .inl rfl
    · exact .inr (by simp)
  · exact .inr (Ne.symm h)
theorem Gen.grownRow {w0 W W' : World} {l : List (Nat × TypeId × Array Value)} {row : Option Nat} (d : Gen w0 l W) (hg : W.grownBy W' row) (hr : ∀ k, row = some k → w0.heap.size ≤ k ∧ ∀ p ∈ l, p.1 ≠ k) : Gen w0 l W' :=
  ⟨fun p hp => (d.at_ p hp).grownOther hg (fun e => (hr p.1 e).2 p hp rfl), d.o.grown hg d.o.size (fun k e => (hr k e).1)⟩
theorem Gen.oneH {u w0 : World} {g0 : Nat} {t0 : TypeId} {c0 : Array Value} (h0 : Blk u g0 t0 c0) (o : Below w0.heap.size w0 u) : Gen w0 [(g0, t0, c0)] u := ⟨fun p hp => by
  rcases List.mem_cons.1 hp with rfl | hp
  · exact h0
  · (cases hp), o⟩
theorem szH (w : World) : w.drew.heap.size = w.heap.size := rfl
theorem call_sgF (n : Nat) (args : Array Value) (u : World) : (callFunc (sgF n) args).run Tryz.prog u = .ok (.enter (sgF n) args) u := by
  match n with
  | 0 => show (callFunc 182 args).run Tryz.prog u = .ok (.enter 182 args) u; go_simp
  | 1 => show (callFunc 183 args).run Tryz.prog u = .ok (.enter 183 args) u; go_simp
  | 2 => show (callFunc 184 args).run Tryz.prog u = .ok (.enter 184 args) u; go_simp
  | 3 => show (callFunc 185 args).run Tryz.prog u = .ok (.enter 185 args) u; go_simp
  | n + 4 => show (callFunc 186 args).run Tryz.prog u = .ok (.enter 186 args) u; go_simp
/-- An int is appended. -/
theorem step_int {w0 W : World} {l : List (Nat × TypeId × Array Value)} {vp va : Value} {n m g : Nat} {xs ys : List Value} {k : Int} (ty : TypeId) (d : Gen w0 l W) (hI : W.ownsRow w0.heap.size 3 1 vp n xs) (hQ : W.ownsRow w0.heap.size 64 3 va m ys)
    (hb : Blk W g 3 #[.int .i64 k]) (hn : n ≤ 4) (hl : ∀ p ∈ l, vp.ownBlock ≠ some p.1) :
    ∃ v' W', (Builtin.append_ #[116, 116] ty #[vp, .slice (some ⟨g, 0, none⟩) 1 1]).run Tryz.prog W = .ok v' W' ∧ W'.ownsRow w0.heap.size 3 1 v' (n + 1) (xs ++ [.int .i64 k]) ∧ W'.ownsRow w0.heap.size 64 3 va m ys ∧ Gen w0 l W' := by
  obtain ⟨v', W', h1, h2, h3⟩ := app_int W w0.heap.size ty vp n xs g k hI hb hn d.o.size
  exact ⟨v', W', h1, h2, hQ.kept h3 (own_apart' hI hQ), d.grownRow h3 (fun k e => ⟨(hI.lt k e).1, fun p hp e2 => hl p hp (by rw [e, e2])⟩)⟩
/-- A point is appended. -/
theorem step_pt {w0 W : World} {l : List (Nat × TypeId × Array Value)} {vp va : Value} {n m g : Nat} {xs ys : List Value} {x y z : Int} (ty : TypeId) (d : Gen w0 l W) (hI : W.ownsRow w0.heap.size 3 1 vp n xs) (hQ : W.ownsRow w0.heap.size 64 3 va m ys)
    (hb : Blk W g 64 (v3 x y z)) (hn : m ≤ 4) (hl : ∀ p ∈ l, va.ownBlock ≠ some p.1) :
    ∃ v' W', (Builtin.append_ #[169, 169] ty #[va, .slice (some ⟨g, 0, none⟩) 1 1]).run Tryz.prog W = .ok v' W' ∧ W'.ownsRow w0.heap.size 3 1 vp n xs ∧ W'.ownsRow w0.heap.size 64 3 v' (m + 1) (ys ++ [.int .i64 x, .int .i64 y, .int .i64 z]) ∧ Gen w0 l W' := by
  obtain ⟨v', W', h1, h2, h3⟩ := app_pt W w0.heap.size ty va m ys g x y z hQ hb hn d.o.size
  exact ⟨v', W', h1, hI.kept h3 (own_apart hI hQ), h2, d.grownRow h3 (fun k e => ⟨(hQ.lt k e).1, fun p hp e2 => hl p hp (by rw [e, e2])⟩)⟩
theorem own_ne {w : World} {B size n : Nat} {e : TypeId} {v : Value} {xs : List Value} (h : w.ownsRow B e size v n xs) {g : Nat} (hg : w.heap.size ≤ g) : v.ownBlock ≠ some g := fun e2 => by
  have := (h.lt g e2).2
  omega
theorem share5 {G H : Nat → Nat → Value → Value → World → Prop} {R : Prop} (main : (∀ p q c d u, H p q c d u → G p q c d u) → R) (rest : ∀ p q c d u, H p q c d u → G p q c d u) : R := main rest
theorem cellsP_snoc (l : List Pt) (p : Pt) : cellsP (l ++ [p]) = cellsP l ++ [.int .i64 p.1, .int .i64 p.2.1, .int .i64 p.2.2] := by simp [cellsP]
theorem cellsI_snoc (l : List Nat) (k : Nat) : cellsI (l ++ [k]) = cellsI l ++ [.int .i64 (k : Int)] := by simp [cellsI]
set_option maxHeartbeats 8000000 in
theorem spread_core (A : Option Addr) (n c : Nat) (ps : Nat → Pt) (w : World) (hn : n ≤ 9223372036854775807) (hP : Hid (PRow w A n ps)) (hc : Hid (∀ i, i < n → chkQ (ps i) = true)) :
    Calls Tryz.prog 149 #[.slice A n c] w fun e w' => (∃ v, e = .returned v ∧ w'.ownsRow w.heap.size 3 1 v (spS ps n).length (cellsI (spS ps n))) ∧ Below w.heap.size w w' := by
  have hR := hide (RaiseO none 0 0)
  go_enter Tryz.func149, Tryz.ntmps149
  have D := hide (Gen.start w)
  go_wp2_with (first | (go_at_call 172; with_reducible refine (unhide hR _).mono ?_; rintro e w' ⟨he, hb⟩; subst he; have D := hide ((unhide D).keep hb); clear hb))
  have hB0 := hide (unhide D).o
  clear D hR
  go_loopw [3, 4, 5, 12] (fun vp va vr i wr => ∃ k : Nat, k ≤ n ∧ i = .int .i64 k ∧ Hid (wr.ownsRow w.heap.size 3 1 vp (spS ps k).length (cellsI (spS ps k))) ∧ Hid (wr.ownsRow w.heap.size 64 3 va (spS ps k).length (cellsP ((spS ps k).map ps))) ∧ vr = .func (Fn.func (sgF (spS ps k).length)) #[va] #[] ∧ Hid (Below w.heap.size w wr)) (fun _ _ _ i _ => n - (intOf i).toNat)
  case atStart => exact ⟨0, Nat.zero_le _, rfl, World.ownsRow_nil _ _ _ _, World.ownsRow_nil _ _ _ _, rfl, hB0⟩
  case round =>
    obtain ⟨k, hk, rfl, hI, hQ, rfl, hB⟩ := hrel
    clear hB0
    by_cases hkn : k < n
    · obtain ⟨g, off, rfl, hg, hr⟩ := (unhide hP).resolve_left (by omega)
      have D : Hid (Gen w [] wr) := ⟨fun p hp => (by cases hp), unhide hB⟩
      have hrk := hide (at_below (hr k hkn) (unhide hB) hg)
      have hck := hide (unhide hc k hkn)
      have hl4 := hide (spS_len ps k)
      have hcs : Hid (∀ i, i < (spS ps k).length → chkQ (((spS ps k).map ps).getD i (0, 0, 0)) = true) := fun i hi => by
        have hm : (spS ps k)[i] ∈ spS ps k := List.getElem_mem hi
        have := unhide hc _ (Nat.lt_trans (spS_lt ps k _ hm) hkn)
        have e : ((spS ps k).map ps).getD i (0, 0, 0) = ps ((spS ps k)[i]) := by simp [List.getD, hi]
        rw [e]
        exact this
      have hgr0 : Hid (u4.ownBlock ≠ some wr.heap.size ∧ u3.ownBlock ≠ some wr.heap.size) := ⟨own_ne (unhide hQ) (Nat.le_refl _), own_ne (unhide hI) (Nat.le_refl _)⟩
      obtain ⟨A', c', hva, hRow⟩ := owns_row (by have := unhide hQ; rwa [← List.length_map (f := ps)] at this)
      rw [List.length_map] at hva
      clear hr hP hc
      go_upto_region 7 with (first | (with_reducible refine at_list ?_;  refine wpList_value rfl (exec_ixP _ elPoints _ _ hkn rfl rfl rfl) ?_) | (with_reducible refine at_list ?_;  refine wpList_value rfl (exec_ldP _ rfl rfl (unhide hrk)) ?_) | (with_reducible refine at_list ?_; refine stG (unhide D) rPoint _ _ rfl rfl rfl rfl rfl rfl (v3_one' _ _ _) ?_; intro D'; have D := hide D'; clear D'))
      clear hrk
      have hI := hide ((unhide hI).alloc (.cells (v3 (ps k).1 (ps k).2.1 (ps k).2.2) 64))
      have hQ := hide ((unhide hQ).alloc (.cells (v3 (ps k).1 (ps k).2.1 (ps k).2.2) 64))
      rw [List.length_map] at hRow
      have hRow := hRow.below (u := wr.alloc (.cells (v3 (ps k).1 (ps k).2.1 (ps k).2.2) 64)) ((Below.refl _ _).alloc (Nat.le_refl _) _)
      have hgr : Hid (u4.ownBlock ≠ some wr.heap.size ∧ u3.ownBlock ≠ some wr.heap.size) := hgr0
      subst hva
      have O7 := hide (unhide D).o
      have B7 := hide ((unhide D).blk (g := wr.heap.size) (t := 64) (cs := (v3 (ps k).1 (ps k).2.1 (ps k).2.2)) (by repeat (first | exact List.mem_cons_self | apply List.mem_cons_of_mem)))
      clear D
      generalize wr.alloc (.cells (v3 (ps k).1 (ps k).2.1 (ps k).2.2) 64) = w7 at *
      generalize wr.heap.size = gr at *
      have es := sg_congr (m := (spS ps k).length) (t := fun i => ((spS ps k).map ps).getD i (0, 0, 0)) (t' := fun i => ps ((spS ps k).getD i 0)) (fun i hi => by simp [List.getD, hi]) (ps k)
      generalize hs : sg (spS ps k).length (fun i => ps ((spS ps k).getD i 0)) (ps k) = sv at es
      obtain ⟨s1, s2, s3⟩ := sv
      have hSig : Hid (∀ u, Below w7.heap.size w7 u → Calls Tryz.prog (sgF (spS ps k).length) #[.slice A' (spS ps k).length c', .agg (v3 (ps k).1 (ps k).2.1 (ps k).2.2)] u fun e w' => e = .returned (.agg (v3 s1 s2 s3)) ∧ Below u.heap.size u w') := fun u hu => by
        have t := SigO A' (spS ps k).length c' _ (ps k) u (hRow.below hu) (unhide hcs) (unhide hck)
        rw [es] at t
        exact t
      generalize hbv : sameV s1 s2 s3 0 0 0 = bv
      have E := hide (Gen.oneH (unhide B7) (Below.refl w7.heap.size w7))
      refine list_start (S := Gen w7 [(gr, 64, (v3 (ps k).1 (ps k).2.1 (ps k).2.2))]) (unhide E) ?_
      clear E
      refine list_read (v := .func (Fn.func (sgF (spS ps k).length)) #[.slice A' (spS ps k).length c'] #[]) rfl rfl (fun u hS => by go_simp) ?_
      try go_simp
      refine list_read (v := .agg (v3 (ps k).1 (ps k).2.1 (ps k).2.2)) rfl rfl (fun u hS => exec_loadG (g := gr) (cs := (v3 (ps k).1 (ps k).2.1 (ps k).2.2)) hS rPoint _ rfl rfl (by repeat (first | exact List.mem_cons_self | apply List.mem_cons_of_mem)) rfl) ?_
      try go_simp
      refine list_call (v := .agg (v3 s1 s2 s3)) (f := sgF (spS ps k).length) (args := #[.slice A' (spS ps k).length c', .agg (v3 (ps k).1 (ps k).2.1 (ps k).2.2)]) rfl rfl (fun u hS => by go_simp; exact call_sgF _ _ u) (fun u hS => (unhide hSig u hS.o).mono fun _ _ ⟨he, hb⟩ => ⟨he, hS.keep hb⟩) ?_
      try go_simp
      refine list_read (v := .agg (v3 0 0 0)) rfl rfl (fun u hS => exec_build0 _ 173 rfl bSigns0) ?_
      try go_simp
      refine list_read (v := .bool bv) rfl rfl (fun u hS => exec_eql_signs _ _ _ hbv rfl rfl rfl) ?_
      try go_simp
      refine list_end (fun u1 hS => ?_)
      have hI1 := hide (own_below (unhide hI) hS.o)
      have hQ1 := hide (own_below (unhide hQ) hS.o)
      have O1 := hide ((unhide O7).trans (hS.o.mono (unhide O7).size))
      have B1 := hide (hS.blk (g := gr) (t := 64) (cs := (v3 (ps k).1 (ps k).2.1 (ps k).2.2)) (by repeat (first | exact List.mem_cons_self | apply List.mem_cons_of_mem)))
      clear hI hQ O7 B7 hSig hS es hRow hcs hck
      cases bv
      · have hne : sg (spS ps k).length (fun i => ps ((spS ps k).getD i 0)) (ps k) ≠ (0, 0, 0) := by
          rw [hs]
          intro e
          cases e
          cases hbv
        have hsp := hide (show spS ps (k + 1) = spS ps k ++ [k] from if_neg hne)
        clear hs hne hbv
        go_upto_region 8 with fail
        have D0 := (Gen.oneH (unhide B1) (unhide O1)).drew
        have i0 := (unhide hI1).drew
        have q0 := (unhide hQ1).drew
        have l4 := unhide hl4
        have hgr1 := unhide hgr
        apply share5 (H := fun _ _ c d u => Hid (u.ownsRow w.heap.size 3 1 c (spS ps (k + 1)).length (cellsI (spS ps (k + 1))) ∧ u.ownsRow w.heap.size 64 3 d (spS ps (k + 1)).length (cellsP ((spS ps (k + 1)).map ps)) ∧ Below w.heap.size w u))
        · intro rest
          refine region_famT (S := Gen w [(gr, 64, (v3 (ps k).1 (ps k).2.1 (ps k).2.2))]) (F := [[0, 1, 4, 5, 6, 2, 3, 7, 8, 9], [0, 1, 4, 5, 2, 6, 3, 7, 8, 9], [0, 1, 4, 5, 2, 3, 6, 7, 8, 9]]) (t := [2, 3, 6, 7]) (by kernel_rfl) (by kernel_rfl) (by kernel_rfl) (by kernel_rfl) (by kernel_rfl) ?_ D0 ?_
          · intro j o a w hj ho
            have hj' : j = 2 ∨ j = 3 ∨ j = 6 ∨ j = 7 := by simpa using hj
            rcases hj' with rfl | rfl | rfl | rfl
            · cases ho; exact ne_buildSlice rfl a w
            · cases ho; exact ne_append rfl a w
            · cases ho; exact ne_buildSlice rfl a w
            · cases ho; exact ne_append rfl a w
          have fin : ∀ (u : World) (vp2 va2 : Value), u.ownsRow w.heap.size 3 1 vp2 ((spS ps k).length + 1) (cellsI (spS ps k) ++ [.int .i64 k]) → u.ownsRow w.heap.size 64 3 va2 ((spS ps k).length + 1) (cellsP ((spS ps k).map ps) ++ [.int .i64 (ps k).1, .int .i64 (ps k).2.1, .int .i64 (ps k).2.2]) → Below w.heap.size w u → Hid (u.ownsRow w.heap.size 3 1 vp2 (spS ps (k + 1)).length (cellsI (spS ps (k + 1))) ∧ u.ownsRow w.heap.size 64 3 va2 (spS ps (k + 1)).length (cellsP ((spS ps (k + 1)).map ps)) ∧ Below w.heap.size w u) := fun u vp2 va2 h1 h2 h3 => by
            rw [unhide hsp, List.length_append, List.length_singleton, cellsI_snoc, List.map_append, List.map_singleton, cellsP_snoc]
            exact ⟨h1, h2, h3⟩
          intro l hl
          rcases List.mem_cons.1 hl with rfl | hl
          · refine walk_read (v := u3) rfl rfl rfl (fun u hS => by go_simp) ?_
            try go_simp
            refine walk_read (v := .int .i64 k) rfl rfl rfl (fun u hS => by go_simp) ?_
            try go_simp
            refine walk_read (v := .slice A' (spS ps k).length c') rfl rfl rfl (fun u hS => by go_simp) ?_
            try go_simp
            refine walk_read (v := .agg (v3 (ps k).1 (ps k).2.1 (ps k).2.2)) rfl rfl rfl (fun u hS => exec_loadG (g := gr) (cs := (v3 (ps k).1 (ps k).2.1 (ps k).2.2)) hS rPoint _ rfl rfl (by repeat (first | exact List.mem_cons_self | apply List.mem_cons_of_mem)) rfl) ?_
            try go_simp
            have e1 := D0.push 64 (v3 (ps k).1 (ps k).2.1 (ps k).2.2)
            have e2 := e1.push 3 #[.int .i64 k]
            simp only [szA, szH] at e1 e2
            have ia := (i0.alloc (.cells (v3 (ps k).1 (ps k).2.1 (ps k).2.2) 64)).alloc (.cells #[.int .i64 k] 3)
            have qa := (q0.alloc (.cells (v3 (ps k).1 (ps k).2.1 (ps k).2.2) 64)).alloc (.cells #[.int .i64 k] 3)
            have bi := e2.blk (g := (u1.heap.size + 1)) (t := 3) (cs := #[.int .i64 k]) (by repeat (first | exact List.mem_cons_self | apply List.mem_cons_of_mem))
            obtain ⟨vp2, W3, r3, ib, qb, e3⟩ := step_int 116 e2 ia qa bi l4 (by intro p hp; simp only [List.mem_cons, List.not_mem_nil, or_false] at hp; rcases hp with rfl | rfl | rfl; exact own_ne i0 (Nat.le_succ _); exact own_ne i0 (Nat.le_refl _); exact hgr1.2)
            have bp := e3.blk (g := u1.heap.size) (t := 64) (cs := (v3 (ps k).1 (ps k).2.1 (ps k).2.2)) (by repeat (first | exact List.mem_cons_self | apply List.mem_cons_of_mem))
            obtain ⟨va2, W4, r4, iz, qz, dz⟩ := step_pt 169 e3 ib qb bp l4 (by intro p hp; simp only [List.mem_cons, List.not_mem_nil, or_false] at hp; rcases hp with rfl | rfl | rfl; exact own_ne q0 (Nat.le_succ _); exact own_ne q0 (Nat.le_refl _); exact hgr1.1)
            refine walk_turn (v := (.slice (some ⟨u1.heap.size, 0, none⟩) 1 1)) (w' := (u1.drew.alloc (.cells (v3 (ps k).1 (ps k).2.1 (ps k).2.2) 64))) rfl rfl rfl (exec_bs1p _ (.tmp 27) rfl rfl) (Gen.oneH (e1.blk (g := gr) (t := 64) (cs := (v3 (ps k).1 (ps k).2.1 (ps k).2.2)) (by repeat (first | exact List.mem_cons_self | apply List.mem_cons_of_mem))) e1.o) ?_
            try go_simp
            refine walk_turn (v := (.slice (some ⟨(u1.heap.size + 1), 0, none⟩) 1 1)) (w' := ((u1.drew.alloc (.cells (v3 (ps k).1 (ps k).2.1 (ps k).2.2) 64)).alloc (.cells #[.int .i64 k] 3))) rfl rfl rfl ((exec_bs1i _ (.tmp 23) rfl rfl).trans (by simp only [szA, szH]; first | done | rfl)) (Gen.oneH (e2.blk (g := gr) (t := 64) (cs := (v3 (ps k).1 (ps k).2.1 (ps k).2.2)) (by repeat (first | exact List.mem_cons_self | apply List.mem_cons_of_mem))) e2.o) ?_
            try go_simp
            refine walk_turn (v := vp2) (w' := W3) rfl rfl rfl (exec_append 116 (.tmp 22) (.tmp 24) rfl rfl rfl r3) (Gen.oneH (e3.blk (g := gr) (t := 64) (cs := (v3 (ps k).1 (ps k).2.1 (ps k).2.2)) (by repeat (first | exact List.mem_cons_self | apply List.mem_cons_of_mem))) e3.o) ?_
            try go_simp
            clear e1 e2 ia qa bi bp ib qb r3
            refine walk_turn (v := va2) (w' := W4) rfl rfl rfl (exec_append 169 (.tmp 26) (.tmp 28) rfl rfl rfl r4) (Gen.oneH (dz.blk (g := gr) (t := 64) (cs := (v3 (ps k).1 (ps k).2.1 (ps k).2.2)) (by repeat (first | exact List.mem_cons_self | apply List.mem_cons_of_mem))) dz.o) ?_
            try go_simp
            clear e3
            refine walk_read (v := vp2) rfl rfl rfl (fun u hS => by go_simp) ?_
            try go_simp
            refine walk_read (v := va2) rfl rfl rfl (fun u hS => by go_simp) ?_
            try go_simp
            refine walk_end ?_
            have F := fin _ vp2 va2 iz qz dz.o
            clear iz qz dz r4
            generalize (u1.heap.size + 1) = gi
            generalize u1.heap.size = gp
            exact rest gi gp vp2 va2 W4 F
          rcases List.mem_cons.1 hl with rfl | hl
          · refine walk_read (v := u3) rfl rfl rfl (fun u hS => by go_simp) ?_
            try go_simp
            refine walk_read (v := .int .i64 k) rfl rfl rfl (fun u hS => by go_simp) ?_
            try go_simp
            refine walk_read (v := .slice A' (spS ps k).length c') rfl rfl rfl (fun u hS => by go_simp) ?_
            try go_simp
            refine walk_read (v := .agg (v3 (ps k).1 (ps k).2.1 (ps k).2.2)) rfl rfl rfl (fun u hS => exec_loadG (g := gr) (cs := (v3 (ps k).1 (ps k).2.1 (ps k).2.2)) hS rPoint _ rfl rfl (by repeat (first | exact List.mem_cons_self | apply List.mem_cons_of_mem)) rfl) ?_
            try go_simp
            have e1 := D0.push 3 #[.int .i64 k]
            have e2 := e1.push 64 (v3 (ps k).1 (ps k).2.1 (ps k).2.2)
            simp only [szA, szH] at e1 e2
            have ia := (i0.alloc (.cells #[.int .i64 k] 3)).alloc (.cells (v3 (ps k).1 (ps k).2.1 (ps k).2.2) 64)
            have qa := (q0.alloc (.cells #[.int .i64 k] 3)).alloc (.cells (v3 (ps k).1 (ps k).2.1 (ps k).2.2) 64)
            have bi := e2.blk (g := u1.heap.size) (t := 3) (cs := #[.int .i64 k]) (by repeat (first | exact List.mem_cons_self | apply List.mem_cons_of_mem))
            obtain ⟨vp2, W3, r3, ib, qb, e3⟩ := step_int 116 e2 ia qa bi l4 (by intro p hp; simp only [List.mem_cons, List.not_mem_nil, or_false] at hp; rcases hp with rfl | rfl | rfl; exact own_ne i0 (Nat.le_succ _); exact own_ne i0 (Nat.le_refl _); exact hgr1.2)
            have bp := e3.blk (g := (u1.heap.size + 1)) (t := 64) (cs := (v3 (ps k).1 (ps k).2.1 (ps k).2.2)) (by repeat (first | exact List.mem_cons_self | apply List.mem_cons_of_mem))
            obtain ⟨va2, W4, r4, iz, qz, dz⟩ := step_pt 169 e3 ib qb bp l4 (by intro p hp; simp only [List.mem_cons, List.not_mem_nil, or_false] at hp; rcases hp with rfl | rfl | rfl; exact own_ne q0 (Nat.le_succ _); exact own_ne q0 (Nat.le_refl _); exact hgr1.1)
            refine walk_turn (v := (.slice (some ⟨u1.heap.size, 0, none⟩) 1 1)) (w' := (u1.drew.alloc (.cells #[.int .i64 k] 3))) rfl rfl rfl (exec_bs1i _ (.tmp 23) rfl rfl) (Gen.oneH (e1.blk (g := gr) (t := 64) (cs := (v3 (ps k).1 (ps k).2.1 (ps k).2.2)) (by repeat (first | exact List.mem_cons_self | apply List.mem_cons_of_mem))) e1.o) ?_
            try go_simp
            refine walk_turn (v := (.slice (some ⟨(u1.heap.size + 1), 0, none⟩) 1 1)) (w' := ((u1.drew.alloc (.cells #[.int .i64 k] 3)).alloc (.cells (v3 (ps k).1 (ps k).2.1 (ps k).2.2) 64))) rfl rfl rfl ((exec_bs1p _ (.tmp 27) rfl rfl).trans (by simp only [szA, szH]; first | done | rfl)) (Gen.oneH (e2.blk (g := gr) (t := 64) (cs := (v3 (ps k).1 (ps k).2.1 (ps k).2.2)) (by repeat (first | exact List.mem_cons_self | apply List.mem_cons_of_mem))) e2.o) ?_
            try go_simp
            refine walk_turn (v := vp2) (w' := W3) rfl rfl rfl (exec_append 116 (.tmp 22) (.tmp 24) rfl rfl rfl r3) (Gen.oneH (e3.blk (g := gr) (t := 64) (cs := (v3 (ps k).1 (ps k).2.1 (ps k).2.2)) (by repeat (first | exact List.mem_cons_self | apply List.mem_cons_of_mem))) e3.o) ?_
            try go_simp
            clear e1 e2 ia qa bi bp ib qb r3
            refine walk_turn (v := va2) (w' := W4) rfl rfl rfl (exec_append 169 (.tmp 26) (.tmp 28) rfl rfl rfl r4) (Gen.oneH (dz.blk (g := gr) (t := 64) (cs := (v3 (ps k).1 (ps k).2.1 (ps k).2.2)) (by repeat (first | exact List.mem_cons_self | apply List.mem_cons_of_mem))) dz.o) ?_
            try go_simp
            clear e3
            refine walk_read (v := vp2) rfl rfl rfl (fun u hS => by go_simp) ?_
            try go_simp
            refine walk_read (v := va2) rfl rfl rfl (fun u hS => by go_simp) ?_
            try go_simp
            refine walk_end ?_
            have F := fin _ vp2 va2 iz qz dz.o
            clear iz qz dz r4
            generalize (u1.heap.size + 1) = gp
            generalize u1.heap.size = gi
            exact rest gi gp vp2 va2 W4 F
          rcases List.mem_cons.1 hl with rfl | hl
          · refine walk_read (v := u3) rfl rfl rfl (fun u hS => by go_simp) ?_
            try go_simp
            refine walk_read (v := .int .i64 k) rfl rfl rfl (fun u hS => by go_simp) ?_
            try go_simp
            refine walk_read (v := .slice A' (spS ps k).length c') rfl rfl rfl (fun u hS => by go_simp) ?_
            try go_simp
            refine walk_read (v := .agg (v3 (ps k).1 (ps k).2.1 (ps k).2.2)) rfl rfl rfl (fun u hS => exec_loadG (g := gr) (cs := (v3 (ps k).1 (ps k).2.1 (ps k).2.2)) hS rPoint _ rfl rfl (by repeat (first | exact List.mem_cons_self | apply List.mem_cons_of_mem)) rfl) ?_
            try go_simp
            have e1 := D0.push 3 #[.int .i64 k]
            simp only [szH] at e1
            have ia := i0.alloc (.cells #[.int .i64 k] 3)
            have qa := q0.alloc (.cells #[.int .i64 k] 3)
            have bi := e1.blk (g := u1.heap.size) (t := 3) (cs := #[.int .i64 k]) (by repeat (first | exact List.mem_cons_self | apply List.mem_cons_of_mem))
            obtain ⟨vp2, W3, r3, ib, qb, e3⟩ := step_int 116 e1 ia qa bi l4 (by intro p hp; simp only [List.mem_cons, List.not_mem_nil, or_false] at hp; rcases hp with rfl | rfl; exact own_ne i0 (Nat.le_refl _); exact hgr1.2)
            have e4 := e3.push 64 (v3 (ps k).1 (ps k).2.1 (ps k).2.2)
            have ic := ib.alloc (.cells (v3 (ps k).1 (ps k).2.1 (ps k).2.2) 64)
            have qc := qb.alloc (.cells (v3 (ps k).1 (ps k).2.1 (ps k).2.2) 64)
            have bp := e4.blk (g := W3.heap.size) (t := 64) (cs := (v3 (ps k).1 (ps k).2.1 (ps k).2.2)) (by repeat (first | exact List.mem_cons_self | apply List.mem_cons_of_mem))
            obtain ⟨va2, W4, r4, iz, qz, dz⟩ := step_pt 169 e4 ic qc bp l4 (by intro p hp; simp only [List.mem_cons, List.not_mem_nil, or_false] at hp; rcases hp with rfl | rfl | rfl; exact own_ne qb (Nat.le_refl _); exact own_ne q0 (Nat.le_refl _); exact hgr1.1)
            refine walk_turn (v := (.slice (some ⟨u1.heap.size, 0, none⟩) 1 1)) (w' := (u1.drew.alloc (.cells #[.int .i64 k] 3))) rfl rfl rfl (exec_bs1i _ (.tmp 23) rfl rfl) (Gen.oneH (e1.blk (g := gr) (t := 64) (cs := (v3 (ps k).1 (ps k).2.1 (ps k).2.2)) (by repeat (first | exact List.mem_cons_self | apply List.mem_cons_of_mem))) e1.o) ?_
            try go_simp
            refine walk_turn (v := vp2) (w' := W3) rfl rfl rfl (exec_append 116 (.tmp 22) (.tmp 24) rfl rfl rfl r3) (Gen.oneH (e3.blk (g := gr) (t := 64) (cs := (v3 (ps k).1 (ps k).2.1 (ps k).2.2)) (by repeat (first | exact List.mem_cons_self | apply List.mem_cons_of_mem))) e3.o) ?_
            try go_simp
            refine walk_turn (v := (.slice (some ⟨W3.heap.size, 0, none⟩) 1 1)) (w' := (W3.alloc (.cells (v3 (ps k).1 (ps k).2.1 (ps k).2.2) 64))) rfl rfl rfl (exec_bs1p _ (.tmp 27) rfl rfl) (Gen.oneH (e4.blk (g := gr) (t := 64) (cs := (v3 (ps k).1 (ps k).2.1 (ps k).2.2)) (by repeat (first | exact List.mem_cons_self | apply List.mem_cons_of_mem))) e4.o) ?_
            try go_simp
            refine walk_turn (v := va2) (w' := W4) rfl rfl rfl (exec_append 169 (.tmp 26) (.tmp 28) rfl rfl rfl r4) (Gen.oneH (dz.blk (g := gr) (t := 64) (cs := (v3 (ps k).1 (ps k).2.1 (ps k).2.2)) (by repeat (first | exact List.mem_cons_self | apply List.mem_cons_of_mem))) dz.o) ?_
            try go_simp
            clear e1 ia qa bi bp ib qb r3 e3 e4 ic qc
            refine walk_read (v := vp2) rfl rfl rfl (fun u hS => by go_simp) ?_
            try go_simp
            refine walk_read (v := va2) rfl rfl rfl (fun u hS => by go_simp) ?_
            try go_simp
            refine walk_end ?_
            have F := fin _ vp2 va2 iz qz dz.o
            clear iz qz dz r4
            generalize u1.heap.size = gi
            generalize W3.heap.size = gp
            exact rest gi gp vp2 va2 W4 F
          · cases hl
        intro gi gp vp2 va2 u2 Gf
        obtain ⟨iN, qN, oN⟩ := unhide Gf
        obtain ⟨A2, c2, hv2, _⟩ := owns_row (l := (spS ps (k + 1)).map ps) (by rw [List.length_map]; exact qN)
        rw [List.length_map] at hv2
        subst hv2
        have HN := hide iN
        have HQ := hide qN
        have HO := hide oN
        clear D0 i0 q0 hI1 hQ1 O1 B1 Gf iN qN oN hgr1 l4
        have hR := hide (RaiseO A2 (spS ps (k + 1)).length c2)
        have D := hide (Gen.start u2)
        go_wp2_with (first | (go_at_call 172; with_reducible refine (unhide hR _).mono ?_; rintro e w' ⟨he, hb⟩; subst he; have D := hide ((unhide D).keep hb); clear hb))
        go_roundw
        case rel => exact ⟨k + 1, by omega, by go_num, own_below (unhide HN) (unhide D).o, own_below (unhide HQ) (unhide D).o, rfl, (unhide HO).trans ((unhide D).o.mono (unhide HO).size)⟩
        case measure => simp [intOf]; omega
      · have he : sg (spS ps k).length (fun i => ps ((spS ps k).getD i 0)) (ps k) = (0, 0, 0) := by
          rw [hs]
          have hb3 := of_decide_eq_true hbv
          rw [hb3.1, hb3.2.1, hb3.2.2]
        have hsp := hide (show spS ps (k + 1) = spS ps k from if_pos he)
        clear hs he hbv
        go_wp2
        go_roundw
        case rel => exact ⟨k + 1, by omega, by go_num, by rw [unhide hsp]; exact hI1, by rw [unhide hsp]; exact hQ1, by rw [unhide hsp], O1⟩
        case measure => simp [intOf]; omega
    · obtain rfl : k = n := by omega
      have hB2 := hB
      go_wp2
      go_ret
      exact ⟨⟨_, rfl, unhide hI⟩, unhide hB2⟩

end Go.Proofs.YtnemedgdhojhdaaGreat

namespace Go.Proofs.YtnemedgdhojhdaaGreat
open Go.RowKit
set_option maxRecDepth 4000
set_option linter.unusedVariables false

theorem own_int {w : World} {B n size : Nat} {e : TypeId} {v : Value} {xs : List Value} (h : w.ownsRow B e size v n xs) : ∃ A c, v = .slice A n c := by
  rcases h.2 with ⟨rfl, h0⟩ | ⟨g, cap, cur, rfl, _⟩
  · exact ⟨none, 0, by rw [h0]⟩
  · exact ⟨_, _, rfl⟩
theorem own_base {w : World} {B B' n size : Nat} {e : TypeId} {v : Value} {xs : List Value} (h : w.ownsRow B e size v n xs) (hB : B' ≤ B) : w.ownsRow B' e size v n xs := by
  refine ⟨h.1, ?_⟩
  rcases h.2 with hn | ⟨g, cap, cur, rfl, hb, rest⟩
  · exact .inl hn
  · exact .inr ⟨g, cap, cur, rfl, Nat.le_trans hB hb, rest⟩
theorem spreadP_3 (A : Option Addr) (n c : Nat) (w : World) (hR : Hid (∀ u, Below w.heap.size w u → Calls Tryz.prog 147 #[.int .i64 3, .func (Fn.func 148) #[] #[], .slice A n c] u fun x w' => x = .returned (.int .i64 3) ∧ Below u.heap.size u w')) :
    Calls Tryz.prog 109 #[.slice A n c] w fun e w' => e = .returned (.tuple #[.slice none 0 0, .int .i64 3]) ∧ Below w.heap.size w w' := by
  go_enter Tryz.func109, Tryz.ntmps109
  go_upto_region 1 with fail
  have D := hide (Gen.start w)
  go_wp2_with (first | (go_at_call 147; with_reducible refine (unhide hR _ (unhide D).o).mono ?_; rintro e w' ⟨he, hb⟩; subst he; have D := hide ((unhide D).keep hb); clear hb))
  go_ret2
  exact ⟨rfl, (unhide D).o⟩
theorem spreadP_7 (A : Option Addr) (n c : Nat) (w : World) (hR : Hid (∀ u, Below w.heap.size w u → Calls Tryz.prog 147 #[.int .i64 3, .func (Fn.func 148) #[] #[], .slice A n c] u fun x w' => x = .returned (.int .i64 7) ∧ Below u.heap.size u w')) :
    Calls Tryz.prog 109 #[.slice A n c] w fun e w' => e = .returned (.tuple #[.slice none 0 0, .int .i64 7]) ∧ Below w.heap.size w w' := by
  go_enter Tryz.func109, Tryz.ntmps109
  go_upto_region 1 with fail
  have D := hide (Gen.start w)
  go_wp2_with (first | (go_at_call 147; with_reducible refine (unhide hR _ (unhide D).o).mono ?_; rintro e w' ⟨he, hb⟩; subst he; have D := hide ((unhide D).keep hb); clear hb))
  go_ret2
  exact ⟨rfl, (unhide D).o⟩
theorem spreadP_0 (A : Option Addr) (n c m : Nat) (xs : List Value) (w : World) (hR : Hid (∀ u, Below w.heap.size w u → Calls Tryz.prog 147 #[.int .i64 3, .func (Fn.func 148) #[] #[], .slice A n c] u fun x w' => x = .returned (.int .i64 0) ∧ Below u.heap.size u w')) (hS : Hid (∀ u, Below w.heap.size w u → Calls Tryz.prog 149 #[.slice A n c] u fun e w' => (∃ v, e = .returned v ∧ w'.ownsRow u.heap.size 3 1 v m xs) ∧ Below u.heap.size u w')) :
    Calls Tryz.prog 109 #[.slice A n c] w fun e w' => (∃ v, e = .returned (.tuple #[v, .int .i64 0]) ∧ w'.ownsRow w.heap.size 3 1 v m xs) ∧ Below w.heap.size w w' := by
  go_enter Tryz.func109, Tryz.ntmps109
  go_upto_region 1 with fail
  have D := hide (Gen.start w)
  go_wp2_with (first | (go_at_call 147; with_reducible refine (unhide hR _ (unhide D).o).mono ?_; rintro e w' ⟨he, hb⟩; subst he; have D := hide ((unhide D).keep hb); clear hb) | (go_at_call 149; with_reducible refine (unhide hS _ (unhide D).o).mono ?_; rintro e w5 ⟨⟨v, he, hv⟩, hb⟩; subst he; have HV := hide (own_base hv (unhide D).o.size); have D := hide ((unhide D).keep hb); clear hb hv))
  go_ret2
  exact ⟨⟨v, rfl, unhide HV⟩, (unhide D).o⟩
/-- The error of Spread, and of Rank. -/
def spE (n : Nat) (ps : Nat → Pt) : Int := bif allQ n ps then (bif decide ((n : Int) ≤ 256) then 0 else 3) else 7
theorem spE_cases (n : Nat) (ps : Nat → Pt) : spE n ps = 0 ∨ spE n ps = 3 ∨ spE n ps = 7 := by
  unfold spE
  cases allQ n ps
  · exact .inr (.inr rfl)
  · cases decide ((n : Int) ≤ 256)
    · exact .inr (.inl rfl)
    · exact .inl rfl
theorem spE_all {n : Nat} {ps : Nat → Pt} (h : spE n ps = 0) : allQ n ps = true := by
  unfold spE at h
  cases e : allQ n ps
  · rw [e] at h; cases h
  · rfl
theorem RefFewE (A : Option Addr) (n c : Nat) (ps : Nat → Pt) (w : World) (hn : n ≤ 9223372036854775807) (hP : PRow w A n ps) {E : Int} (hE : spE n ps = E) :
    ∀ u, Below w.heap.size w u → Calls Tryz.prog 147 #[.int .i64 3, .func (Fn.func 148) #[] #[], .slice A n c] u fun x w' => x = .returned (.int .i64 E) ∧ Below u.heap.size u w' := fun u hu => by
  have t := RefFew 3 A n c ps u hn (hP.below hu)
  unfold spE at hE
  rw [hE] at t
  exact t
theorem SpreadNo (A : Option Addr) (n c : Nat) (ps : Nat → Pt) (w : World) (hn : n ≤ 9223372036854775807) (hP : PRow w A n ps) (hE : spE n ps ≠ 0) :
    Calls Tryz.prog 109 #[.slice A n c] w fun e w' => e = .returned (.tuple #[.slice none 0 0, .int .i64 (spE n ps)]) ∧ Below w.heap.size w w' := by
  rcases spE_cases n ps with h | h | h
  · exact absurd h hE
  · rw [h]; exact spreadP_3 A n c w (RefFewE A n c ps w hn hP h)
  · rw [h]; exact spreadP_7 A n c w (RefFewE A n c ps w hn hP h)
theorem SpreadYes (A : Option Addr) (n c : Nat) (ps : Nat → Pt) (w : World) (hn : n ≤ 9223372036854775807) (hP : PRow w A n ps) (hE : spE n ps = 0) :
    Calls Tryz.prog 109 #[.slice A n c] w fun e w' => (∃ v, e = .returned (.tuple #[v, .int .i64 0]) ∧ w'.ownsRow w.heap.size 3 1 v (spS ps n).length (cellsI (spS ps n))) ∧ Below w.heap.size w w' :=
  spreadP_0 A n c _ _ w (RefFewE A n c ps w hn hP hE) (fun u hu => spread_core A n c ps u hn (hP.below hu) (allQ_iff.1 (spE_all hE)))
theorem rankP_3 (A : Option Addr) (n c : Nat) (w : World) (hS : Hid (∀ u, Below w.heap.size w u → Calls Tryz.prog 109 #[.slice A n c] u fun e w' => e = .returned (.tuple #[.slice none 0 0, .int .i64 3]) ∧ Below u.heap.size u w')) :
    Calls Tryz.prog 72 #[.slice A n c] w fun e w' => e = .returned (.tuple #[.int .i64 0, .int .i64 3]) ∧ Below w.heap.size w w' := by
  go_enter Tryz.func72, Tryz.ntmps72
  go_upto_region 1 with fail
  have D := hide (Gen.start w)
  go_wp2_with (first | (go_at_call 109; with_reducible refine (unhide hS _ (unhide D).o).mono ?_; rintro e w' ⟨he, hb⟩; subst he; have D := hide ((unhide D).keep hb); clear hb))
  go_ret2
  exact ⟨rfl, (unhide D).o⟩
theorem rankP_7 (A : Option Addr) (n c : Nat) (w : World) (hS : Hid (∀ u, Below w.heap.size w u → Calls Tryz.prog 109 #[.slice A n c] u fun e w' => e = .returned (.tuple #[.slice none 0 0, .int .i64 7]) ∧ Below u.heap.size u w')) :
    Calls Tryz.prog 72 #[.slice A n c] w fun e w' => e = .returned (.tuple #[.int .i64 0, .int .i64 7]) ∧ Below w.heap.size w w' := by
  go_enter Tryz.func72, Tryz.ntmps72
  go_upto_region 1 with fail
  have D := hide (Gen.start w)
  go_wp2_with (first | (go_at_call 109; with_reducible refine (unhide hS _ (unhide D).o).mono ?_; rintro e w' ⟨he, hb⟩; subst he; have D := hide ((unhide D).keep hb); clear hb))
  go_ret2
  exact ⟨rfl, (unhide D).o⟩
theorem rankP_0 (A : Option Addr) (n c m : Nat) (xs : List Value) (w : World) (hm : m ≤ 4) (hS : Hid (∀ u, Below w.heap.size w u → Calls Tryz.prog 109 #[.slice A n c] u fun e w' => (∃ v, e = .returned (.tuple #[v, .int .i64 0]) ∧ w'.ownsRow u.heap.size 3 1 v m xs) ∧ Below u.heap.size u w')) :
    Calls Tryz.prog 72 #[.slice A n c] w fun e w' => e = .returned (.tuple #[.int .i64 ((m : Int) - 1), .int .i64 0]) ∧ Below w.heap.size w w' := by
  have hw : wrap64 ((m : Int) - 1) = (m : Int) - 1 := wrap_self ⟨by omega, by omega⟩
  go_enter Tryz.func72, Tryz.ntmps72
  go_upto_region 1 with fail
  have D := hide (Gen.start w)
  go_wp2_with (first | (go_at_call 109; with_reducible refine (unhide hS _ (unhide D).o).mono ?_; rintro e w5 ⟨⟨v, he, hv⟩, hb⟩; subst he; obtain ⟨A2, c2, rfl⟩ := own_int hv; have D := hide ((unhide D).keep hb); clear hb hv))
  go_ret2
  exact ⟨rfl, (unhide D).o⟩
/-- The rank, or 0. -/
def rkI (n : Nat) (ps : Nat → Pt) : Int := if spE n ps = 0 then ((spS ps n).length : Int) - 1 else 0
theorem RankO (A : Option Addr) (n c : Nat) (ps : Nat → Pt) (w : World) (hn : n ≤ 9223372036854775807) (hP : PRow w A n ps) :
    Calls Tryz.prog 72 #[.slice A n c] w fun e w' => e = .returned (.tuple #[.int .i64 (rkI n ps), .int .i64 (spE n ps)]) ∧ Below w.heap.size w w' := by
  have h0 : spE n ps ≠ 0 → ∀ u, Below w.heap.size w u → Calls Tryz.prog 109 #[.slice A n c] u fun e w' => e = .returned (.tuple #[.slice none 0 0, .int .i64 (spE n ps)]) ∧ Below u.heap.size u w' := fun hE u hu => SpreadNo A n c ps u hn (hP.below hu) hE
  unfold rkI
  rcases spE_cases n ps with h | h | h
  · rw [h, if_pos rfl]
    exact rankP_0 A n c _ _ w (spS_len ps n) (fun u hu => SpreadYes A n c ps u hn (hP.below hu) h)
  · have t := h0 (by rw [h]; decide)
    rw [h] at t ⊢
    rw [if_neg (by decide)]
    exact rankP_3 A n c w t
  · have t := h0 (by rw [h]; decide)
    rw [h] at t ⊢
    rw [if_neg (by decide)]
    exact rankP_7 A n c w t
/-- Are they a simplex? -/
def simB (n : Nat) (ps : Nat → Pt) : Bool := decide ((0 : Int) < n) && (decide ((n : Int) ≤ 4) && (((spS ps n).length : Int) == (n : Int)))
end Go.Proofs.YtnemedgdhojhdaaGreat

namespace Go.Proofs.YtnemedgdhojhdaaGreat
open Go.RowKit
set_option maxRecDepth 4000
set_option linter.unusedVariables false

/-- Which way the last of n points lies from the ones ahead of it. -/
def tuI (n : Nat) (ps : Nat → Pt) : Pt := sg (n - 1) ps (ps (n - 1))
/-- Signs are from -1 to 1. -/
def sml (z : Int) : Prop := -1 ≤ z ∧ z ≤ 1
def smlP (p : Pt) : Prop := sml p.1 ∧ sml p.2.1 ∧ sml p.2.2
/-- Are they strictly other ones in some place? -/
def agB (s t : Pt) : Bool := decide (s.1 * t.1 < 0) || (decide (s.2.1 * t.2.1 < 0) || decide (s.2.2 * t.2.2 < 0))
/-- The cells of the first n points. -/
def cellsN (n : Nat) (ps : Nat → Pt) : List Value := cellsP ((List.range n).map ps)
theorem cellsP_len : ∀ l : List Pt, (cellsP l).length = l.length * 3
  | [] => rfl
  | p :: l => by
    have e : cellsP (p :: l) = .int .i64 p.1 :: .int .i64 p.2.1 :: .int .i64 p.2.2 :: cellsP l := rfl
    rw [e]
    simp only [List.length_cons, cellsP_len l]
    omega
theorem cellsP_one : ∀ l : List Pt, ∀ u ∈ cellsP l, u.oneCell' = true := by
  intro l u hu
  unfold cellsP at hu
  rw [List.mem_flatMap] at hu
  obtain ⟨p, _, h⟩ := hu
  simp only [List.mem_cons, List.not_mem_nil, or_false] at h
  rcases h with rfl | rfl | rfl <;> rfl
theorem cellsP_at : ∀ (l : List Pt) (i : Nat), i < l.length → (cellsP l)[i * 3]? = some (.int .i64 (l.getD i (0, 0, 0)).1) ∧ (cellsP l)[i * 3 + 1]? = some (.int .i64 (l.getD i (0, 0, 0)).2.1) ∧ (cellsP l)[i * 3 + 2]? = some (.int .i64 (l.getD i (0, 0, 0)).2.2) := by
  intro l
  induction l with
  | nil => intro i hi; cases hi
  | cons p l ih =>
    intro i hi
    match i, hi with
    | 0, _ => exact ⟨rfl, rfl, rfl⟩
    | i + 1, hi =>
      have := ih i (by simpa using hi)
      have e : cellsP (p :: l) = .int .i64 p.1 :: .int .i64 p.2.1 :: .int .i64 p.2.2 :: cellsP l := rfl
      rw [e, show (i + 1) * 3 = i * 3 + 1 + 1 + 1 by omega]
      simpa using this
theorem cellsN_lies {w : World} {g off n : Nat} {ps : Nat → Pt} (hr : ∀ i, i < n → w.rangeAt g (off + i * 3) (v3 (ps i).1 (ps i).2.1 (ps i).2.2).toList) : ∀ j u, (cellsN n ps)[j]? = some u → w.cell? ⟨g, off + j, none⟩ = some u := by
  intro j u hj
  have hlen : (cellsN n ps).length = n * 3 := by unfold cellsN; rw [cellsP_len]; simp
  have hjl : j < n * 3 := by rw [← hlen]; exact (List.getElem?_eq_some_iff.1 hj).1
  have hi : j / 3 < n := by omega
  have hd : ((List.range n).map ps).getD (j / 3) (0, 0, 0) = ps (j / 3) := by simp [List.getD, hi]
  obtain ⟨k0, k1, k2⟩ := cellsP_at ((List.range n).map ps) (j / 3) (by simpa using hi)
  rw [hd] at k0 k1 k2
  have hrr := hr (j / 3) hi
  unfold cellsN at hj
  rcases (show j = j / 3 * 3 ∨ j = j / 3 * 3 + 1 ∨ j = j / 3 * 3 + 2 by omega) with e | e | e
  · rw [e] at hj
    rw [k0] at hj
    have := hrr 0 _ rfl
    rw [e]
    exact this.trans hj
  · rw [e] at hj
    rw [k1] at hj
    have := hrr 1 _ rfl
    rw [e, ← Nat.add_assoc]
    exact this.trans hj
  · rw [e] at hj
    rw [k2] at hj
    have := hrr 2 _ rfl
    rw [e, ← Nat.add_assoc]
    exact this.trans hj
end Go.Proofs.YtnemedgdhojhdaaGreat

namespace Go.Proofs.YtnemedgdhojhdaaGreat
open Go.RowKit
set_option maxRecDepth 4000
set_option linter.unusedVariables false

/-- p in the place of the k-th. -/
def upP (ps : Nat → Pt) (k : Nat) (p : Pt) : Nat → Pt := fun i => if i = k then p else ps i
/-- Is p inside of n points? -/
def isI (n : Nat) (ps : Nat → Pt) (p : Pt) : Bool := sameV (sg n ps p).1 (sg n ps p).2.1 (sg n ps p).2.2 0 0 0 && (List.range n).all fun k => !agB (tuI n ps) (tuI n (upP ps k p))
end Go.Proofs.YtnemedgdhojhdaaGreat

namespace Go.Proofs.YtnemedgdhojhdaaGreat
open Go.RowKit
set_option maxRecDepth 4000
set_option linter.unusedVariables false

/-- The first of two that is not 0. -/
def orE (x y : Int) : Int := if x ≠ 0 then x else y
/-- Why it is refused to tell whether p is inside of n points. -/
def insE (n : Nat) (ps : Nat → Pt) (p : Pt) : Int := orE (if chkQ p then 0 else 7) (bif allQ n ps then (bif simB n ps then 0 else 8) else 7)
def insB (n : Nat) (ps : Nat → Pt) (p : Pt) : Bool := insE n ps p == 0 && isI n ps p
/-- Side. -/
def fourB (a b c d : Pt) : Bool := chkQ a && (chkQ b && (chkQ c && chkQ d))
def sdE (a b c d : Pt) : Int := bif fourB a b c d then 0 else 7
def volP (a b c d : Pt) : Int := volI a.1 a.2.1 a.2.2 b.1 b.2.1 b.2.2 c.1 c.2.1 c.2.2 d.1 d.2.1 d.2.2
def sdI (a b c d : Pt) : Int := bif fourB a b c d then sgn (volP a b c d) else 0
end Go.Proofs.YtnemedgdhojhdaaGreat
