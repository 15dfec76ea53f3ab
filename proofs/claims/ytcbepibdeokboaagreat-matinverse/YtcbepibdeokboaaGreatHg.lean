/- A family of walks where reads need not be told apart: only the turns' order counts. No Go in this text. -/
import Derived.Test.YtcbepibdeokboaaGreatHf
namespace Go.Proofs.YtcbepibdeokboaaGreat
open Go.RowKit
set_option maxRecDepth 4000

section
variable {P : Program} {ops : Array Oper} {Q : Exit → Act → World → Prop} {S : World → Prop} {tn : Nat → Bool}

/-- It waits for a turn of the list. -/
def awaits (ops : Array Oper) (tn : Nat → Bool) (j : Nat) (l : List Nat) : Bool := l.any fun k => tn k && waits ops j k
def okWalkT (ops : Array Oper) (tn : Nat → Bool) : List Nat → Bool
  | [] => true
  | i :: r => (!tn i || r.all fun j => awaits ops tn j (i :: r)) && okWalkT ops tn r
/-- A read behind a turn waits for a turn that is left. -/
def readsOk (ops : Array Oper) (tn : Nat → Bool) : List Nat → Bool
  | [] => true
  | i :: r => (!tn i || r.all fun j => tn j || awaits ops tn j (i :: r)) && readsOk ops tn r
theorem okWalkT.walk : ∀ {l : List Nat}, okWalkT ops tn l = true → okWalk ops tn l = true
  | [], _ => rfl
  | i :: r, h => by
    simp only [okWalkT, okWalk, Bool.and_eq_true, Bool.or_eq_true, List.all_eq_true] at h ⊢
    refine ⟨h.1.imp id fun h1 j hj => ?_, okWalkT.walk h.2⟩
    have := h1 j hj
    unfold awaits at this
    rw [List.any_eq_true] at this ⊢
    obtain ⟨k, hk, hw⟩ := this
    exact ⟨k, hk, (Bool.and_eq_true _ _ ▸ hw).2⟩
theorem awaits_rm {j x : Nat} (hx : tn x = false) {p s : List Nat} (h : awaits ops tn j (p ++ x :: s) = true) : awaits ops tn j (p ++ s) = true := by
  unfold awaits at *
  rw [List.any_eq_true] at *
  obtain ⟨k, hk, hw⟩ := h
  refine ⟨k, ?_, hw⟩
  rcases List.mem_append.1 hk with hk | hk
  · exact List.mem_append_left _ hk
  · rcases List.mem_cons.1 hk with e | hk
    · subst e; rw [hx] at hw; cases hw
    · exact List.mem_append_right _ hk
theorem okWalkT_rm {x : Nat} (hx : tn x = false) {s : List Nat} : ∀ {p : List Nat}, okWalkT ops tn (p ++ x :: s) = true → okWalkT ops tn (p ++ s) = true
  | [], h => by simp only [List.nil_append, okWalkT, Bool.and_eq_true] at h; exact h.2
  | i :: p, h => by
    simp only [List.cons_append, okWalkT, Bool.and_eq_true, Bool.or_eq_true, List.all_eq_true] at h ⊢
    refine ⟨h.1.imp id fun h1 j hj => ?_, okWalkT_rm hx h.2⟩
    have := h1 j (by rcases List.mem_append.1 hj with hj | hj; exact List.mem_append_left _ hj; exact List.mem_append_right _ (List.mem_cons_of_mem _ hj))
    exact awaits_rm (p := i :: p) hx this
theorem readsOk_rm {x : Nat} (hx : tn x = false) {s : List Nat} : ∀ {p : List Nat}, readsOk ops tn (p ++ x :: s) = true → readsOk ops tn (p ++ s) = true
  | [], h => by simp only [List.nil_append, readsOk, Bool.and_eq_true] at h; exact h.2
  | i :: p, h => by
    simp only [List.cons_append, readsOk, Bool.and_eq_true, Bool.or_eq_true, List.all_eq_true] at h ⊢
    refine ⟨h.1.imp id fun h1 j hj => ?_, readsOk_rm hx h.2⟩
    have := h1 j (by rcases List.mem_append.1 hj with hj | hj; exact List.mem_append_left _ hj; exact List.mem_append_right _ (List.mem_cons_of_mem _ hj))
    exact this.imp id fun h => awaits_rm (p := i :: p) hx h
/-- A turn behind reads alone goes first: the rest is as it was. -/
theorem readsOk_pull {x : Nat} {s : List Nat} : ∀ {p : List Nat}, (∀ i ∈ p, tn i = false) → readsOk ops tn (p ++ x :: s) = true → readsOk ops tn (p ++ s) = true
  | [], _, h => by simp only [List.nil_append, readsOk, Bool.and_eq_true] at h; exact h.2
  | i :: p, hp, h => by
    simp only [List.cons_append, readsOk, Bool.and_eq_true, hp i (List.mem_cons_self ..), Bool.not_false, Bool.true_or, true_and] at h ⊢
    exact readsOk_pull (fun k hk => hp k (List.mem_cons_of_mem _ hk)) h
theorem pull_reads {x : Nat} {s : List Nat} : ∀ {p : List Nat}, x ∉ p → (∀ i ∈ p, tn i = false) → pull tn x (p ++ x :: s) = some (p ++ s)
  | [], _, _ => by simp [pull]
  | i :: p, hn, hp => by
    have hne : i ≠ x := fun e => hn (by rw [e]; exact List.mem_cons_self ..)
    simp only [List.cons_append, pull, if_neg hne, hp i (List.mem_cons_self ..), Bool.false_eq_true, if_false, pull_reads (fun h => hn (List.mem_cons_of_mem _ h)) (fun k hk => hp k (List.mem_cons_of_mem _ hk)), Option.map_some]
/-- A read that is taken out changes nothing of whether a turn may go first. -/
theorem pull_comm {x t : Nat} (hx : tn x = false) (ht : tn t = true) {s : List Nat} : ∀ {p : List Nat}, x ∉ p → (∀ i ∈ p, tn i = false) → (pull tn t (p ++ x :: s)).bind (pull tn x) = pull tn t (p ++ s) := by
  intro p
  have hxt : x ≠ t := fun e => by rw [e, ht] at hx; cases hx
  induction p with
  | nil =>
    intro _ _
    simp only [List.nil_append, pull, if_neg hxt, hx, Bool.false_eq_true, if_false]
    cases pull tn t s with
    | none => rfl
    | some r => simp [pull]
  | cons i p ih =>
    intro hn hp
    have hix : i ≠ x := fun e => hn (by rw [e]; exact List.mem_cons_self ..)
    have hit : i ≠ t := fun e => by have := hp i (List.mem_cons_self ..); rw [e, ht] at this; cases this
    have hi := hp i (List.mem_cons_self ..)
    have := ih (fun h => hn (List.mem_cons_of_mem _ h)) (fun k hk => hp k (List.mem_cons_of_mem _ hk))
    simp only [List.cons_append, pull, if_neg hit, hi, Bool.false_eq_true, if_false]
    rw [← this]
    cases pull tn t (p ++ x :: s) with
    | none => rfl
    | some r => simp [pull, hix, hi]
/-- Whatever turn comes next, some walk of the family goes on with it. -/
def okFamT (ops : Array Oper) (tn : Nat → Bool) : Nat → List (List Nat) → Bool
  | _, [] => false
  | _, [l] => okWalkT ops tn l
  | 0, _ => false
  | n + 1, l0 :: l1 :: r => l0.all fun j => !tn j || awaits ops tn j l0 || okFamT ops tn n ((l0 :: l1 :: r).filterMap (pull tn j))
/-- The read x stands behind reads alone. -/
def Open (tn : Nat → Bool) (x : Nat) (l : List Nat) : Prop := ∃ p s, l = p ++ x :: s ∧ x ∉ p ∧ ∀ i ∈ p, tn i = false
theorem filterMap_pull {x : Nat} : ∀ {F : List (List Nat)}, (∀ l ∈ F, Open tn x l) → (F.filterMap (pull tn x)).length = F.length
  | [], _ => rfl
  | l :: F, h => by
    obtain ⟨p, s, rfl, hn, hp⟩ := h l (List.mem_cons_self ..)
    rw [List.filterMap_cons, pull_reads hn hp]
    simp [filterMap_pull (fun l hl => h l (List.mem_cons_of_mem _ hl))]
theorem fam_comm {x t : Nat} (hx : tn x = false) (ht : tn t = true) : ∀ {F : List (List Nat)}, (∀ l ∈ F, Open tn x l) → (F.filterMap (pull tn t)).filterMap (pull tn x) = (F.filterMap (pull tn x)).filterMap (pull tn t)
  | [], _ => rfl
  | l :: F, h => by
    obtain ⟨p, s, rfl, hn, hp⟩ := h l (List.mem_cons_self ..)
    have ih := fam_comm hx ht (fun l hl => h l (List.mem_cons_of_mem _ hl))
    have c := pull_comm (s := s) hx ht hn hp
    rw [List.filterMap_cons (f := pull tn x), pull_reads hn hp]
    simp only [List.filterMap_cons (f := pull tn t)]
    rw [← c]
    cases pull tn t (p ++ x :: s) with
    | none => exact ih
    | some r =>
      simp only [Option.bind_some, List.filterMap_cons]
      cases pull tn x r with
      | none => exact ih
      | some r' => simp [ih]
theorem open_pull {x t : Nat} (hx : tn x = false) (ht : tn t = true) {l l' : List Nat} (h : Open tn x l) (hp : pull tn t l = some l') : Open tn x l' := by
  obtain ⟨p, s, rfl, hn, hr⟩ := h
  have hxt : x ≠ t := fun e => by rw [e, ht] at hx; cases hx
  have : ∀ {p : List Nat}, x ∉ p → (∀ i ∈ p, tn i = false) → ∀ {l'}, pull tn t (p ++ x :: s) = some l' → ∃ s', l' = p ++ x :: s' := by
    intro p
    induction p with
    | nil =>
      intro _ _ l' h
      simp only [List.nil_append, pull, if_neg hxt, hx, Bool.false_eq_true, if_false, Option.map_eq_some_iff] at h
      obtain ⟨r, _, rfl⟩ := h
      exact ⟨r, rfl⟩
    | cons i p ih =>
      intro hn hr l' h
      have hi := hr i (List.mem_cons_self ..)
      have hit : i ≠ t := fun e => by rw [e, ht] at hi; cases hi
      simp only [List.cons_append, pull, if_neg hit, hi, Bool.false_eq_true, if_false, Option.map_eq_some_iff] at h
      obtain ⟨r, h1, rfl⟩ := h
      obtain ⟨s', rfl⟩ := ih (fun h => hn (List.mem_cons_of_mem _ h)) (fun k hk => hr k (List.mem_cons_of_mem _ hk)) h1
      exact ⟨s', rfl⟩
  obtain ⟨s', rfl⟩ := this hn hr hp
  exact ⟨p, s', rfl, hn, hr⟩
theorem okFamT_rm {x : Nat} (hx : tn x = false) : ∀ (m : Nat) (F : List (List Nat)), (∀ l ∈ F, Open tn x l) → okFamT ops tn m F = true → okFamT ops tn m (F.filterMap (pull tn x)) = true := by
  intro m
  induction m with
  | zero =>
    intro F hF hk
    match F, hF, hk with
    | [], _, hk => exact absurd hk (by simp [okFamT])
    | [l], hF, hk =>
      obtain ⟨p, s, rfl, hn, hp⟩ := hF l (by simp)
      rw [List.filterMap_cons, pull_reads hn hp]
      exact okWalkT_rm hx hk
    | _ :: _ :: _, _, hk => exact absurd hk (by simp [okFamT])
  | succ m ih =>
    intro F hF hk
    match F, hF, hk with
    | [], _, hk => exact absurd hk (by simp [okFamT])
    | [l], hF, hk =>
      obtain ⟨p, s, rfl, hn, hp⟩ := hF l (by simp)
      rw [List.filterMap_cons, pull_reads hn hp]
      exact okWalkT_rm hx hk
    | l0 :: l1 :: r, hF, hk =>
      have hlen := filterMap_pull hF
      obtain ⟨p, s, rfl, hn, hp⟩ := hF l0 (by simp)
      obtain ⟨p1, s1, rfl, hn1, hp1⟩ := hF l1 (by simp)
      have e : List.filterMap (pull tn x) ((p ++ x :: s) :: (p1 ++ x :: s1) :: r) = (p ++ s) :: (p1 ++ s1) :: List.filterMap (pull tn x) r := by
        rw [List.filterMap_cons, pull_reads hn hp]
        simp only
        rw [List.filterMap_cons, pull_reads hn1 hp1]
      rw [e]
      rw [okFamT, List.all_eq_true] at hk ⊢
      intro t ht
      have ht0 : t ∈ p ++ x :: s := by
        rcases List.mem_append.1 ht with h | h
        · exact List.mem_append_left _ h
        · exact List.mem_append_right _ (List.mem_cons_of_mem _ h)
      have h := hk t ht0
      simp only [Bool.or_eq_true, Bool.not_eq_true'] at h ⊢
      rcases h with (h | h) | h
      · exact .inl (.inl h)
      · exact .inl (.inr (awaits_rm hx h))
      · cases htn : tn t with
        | false => exact .inl (.inl rfl)
        | true =>
          refine .inr ?_
          rw [← e, ← fam_comm hx htn hF]
          refine ih _ (fun l' hl' => ?_) h
          rw [List.mem_filterMap] at hl'
          obtain ⟨l, hl, hp'⟩ := hl'
          exact open_pull hx htn (hF l hl) hp'
theorem readsOk_at : ∀ {p : List Nat} {i : Nat} {r : List Nat}, readsOk ops tn (p ++ i :: r) = true → tn i = true → ∀ j ∈ r, (tn j || awaits ops tn j (i :: r)) = true
  | [], i, r, h, hi, j, hj => by
    simp only [List.nil_append, readsOk, hi, Bool.not_true, Bool.false_or, Bool.and_eq_true, List.all_eq_true] at h
    exact h.1 j hj
  | k :: p, i, r, h, hi, j, hj => by
    simp only [List.cons_append, readsOk, Bool.and_eq_true] at h
    exact readsOk_at h.2 hi j hj
theorem fam_anyT (hs : Region.noSelect ops = true) (he2 : edgesOk ops = true) (hne : ∀ j o (a : Act) (w : World), tn j = true → ops[j]? = some o → ∀ f args w', (execOp a.eval o).run P w ≠ .ok (.enter f args) w') :
    ∀ (fuel : Nat) (F : List (List Nat)) (m : Nat) (listed : Array Bool) (a : Act) (w : World), (∀ l ∈ F, fuel = l.length ∧ (Left ops l [] listed ∧ readsOk ops tn l = true) ∧ Walk P ops S Q tn l a w) → okFamT ops tn m F = true → S w → wpAny P .any ops Q fuel listed a w := by
  intro fuel
  induction fuel with
  | zero =>
    intro F m listed a w hF hk hS
    match F, hF, hk with
    | [l], hF, hk =>
      obtain ⟨h1, h2, h3⟩ := hF l (by simp)
      exact walk_any hs he2 0 l listed a w h1 h2.1 (okWalkT.walk (by cases m <;> exact hk)) h3 hS
    | [], _, hk => exact absurd hk (by cases m <;> simp [okFamT])
    | l0 :: l1 :: rr, hF, hk =>
      obtain ⟨h1, h2, h3⟩ := hF l0 (by simp)
      have e : l0 = [] := List.eq_nil_of_length_eq_zero h1.symm
      subst e
      exact walk_any hs he2 0 [] listed a w rfl h2.1 rfl h3 hS
  | succ fuel ih =>
    intro F m listed a w hF hk hS
    match F, hF, hk with
    | [l], hF, hk =>
      obtain ⟨h1, h2, h3⟩ := hF l (by simp)
      exact walk_any hs he2 (fuel + 1) l listed a w h1 h2.1 (okWalkT.walk (by cases m <;> exact hk)) h3 hS
    | [], _, hk => exact absurd hk (by cases m <;> simp [okFamT])
    | l0 :: l1 :: rr, hF, hk =>
      obtain ⟨hf0, ⟨hl0, hr0⟩, hp0⟩ := hF l0 (by simp)
      refine ⟨fun hr => ?_, fun j hj => ?_⟩
      · exfalso
        cases l0 with
        | nil => simp at hf0
        | cons i r =>
          have hi := hl0.un i (by simp)
          have hlt : i < ops.size := by
            rcases Nat.lt_or_ge i listed.size with h' | h'
            · have := hl0.sz; omega
            · simp [Array.getElem?_eq_none h'] at hi
          obtain ⟨o, ho⟩ := Option.isSome_iff_exists.1 (show (ops[i]?).isSome = true by simp [hlt])
          have : i ∈ Region.ready .any ops listed := by
            refine mem_ready.2 ⟨hi, o, ho, fun e he hbd => ?_⟩
            by_cases hu : listed.getD e.on true = false
            · exfalso
              have hw : waits ops i e.on = true := by
                unfold waits
                rw [ho]
                simp only [Option.map_some, Option.getD_some, Array.any_eq_true']
                exact ⟨e, he, by simp [hbd]⟩
              have hok := hl0.ok
              simp only [okPlan, Bool.and_eq_true, List.all_eq_true] at hok
              rcases hl0.all _ hu with hm | hm
              · rcases List.mem_cons.1 hm with hm | hm
                · rw [hm] at hw; rw [hw] at hok; simp at hok
                · have := hok.1.2 _ hm
                  simp [ahead, hw] at this
              · cases hm
            · have : listed.getD e.on true = true := by simpa using hu
              rcases Nat.lt_or_ge e.on listed.size with h' | h'
              · simpa [h'] using this
              · have := edgesOk_spec he2 ho he
                have := hl0.sz
                omega
          rw [hr] at this
          cases this
      · obtain ⟨hju, _⟩ := mem_ready.1 hj
        have hj0 : j ∈ l0 := by
          rcases hl0.all j hju with hm | hm
          · exact hm
          · cases hm
        have hk2 : ∃ m', okFamT ops tn m' (List.filterMap (pull tn j) (l0 :: l1 :: rr)) = true := by
          cases htj : tn j with
          | true =>
            cases m with
            | zero => exact absurd hk (by simp [okFamT])
            | succ m =>
              rw [okFamT, List.all_eq_true] at hk
              have h := hk j hj0
              have hnw : awaits ops tn j l0 = false := by
                unfold awaits
                rw [List.any_eq_false]
                intro k hk
                rw [not_waits hj (hl0.un k hk), Bool.and_false]
                decide
              rw [hnw, htj, Bool.not_true, Bool.false_or, Bool.false_or] at h
              exact ⟨m, h⟩
          | false =>
            refine ⟨m, okFamT_rm htj m _ (fun l hl => ?_) hk⟩
            obtain ⟨_, ⟨hL, hR⟩, _⟩ := hF l hl
            have hjl : j ∈ l := by
              rcases hL.all j hju with hm | hm
              · exact hm
              · cases hm
            obtain ⟨p, s, rfl, hjp⟩ := List.eq_append_cons_of_mem hjl
            refine ⟨p, s, rfl, hjp, fun i hi => ?_⟩
            cases hti : tn i with
            | false => rfl
            | true =>
              exfalso
              obtain ⟨p1, p2, rfl⟩ := List.append_of_mem hi
              rw [List.append_assoc, List.cons_append] at hR
              have h := readsOk_at hR hti j (by simp)
              rw [htj, Bool.false_or] at h
              unfold awaits at h
              rw [List.any_eq_true] at h
              obtain ⟨k, hk, hw⟩ := h
              have hku : k ∈ (p1 ++ i :: p2) ++ j :: s := by
                rcases List.mem_cons.1 hk with e | hk
                · subst e; simp
                · rcases List.mem_append.1 hk with hk | hk
                  · simp [hk]
                  · rcases List.mem_cons.1 hk with e | hk
                    · subst e; simp
                    · simp [hk]
              rw [not_waits hj (hL.un k hku), Bool.and_false] at hw
              cases hw
        obtain ⟨m', hk2⟩ := hk2
        generalize hFe : List.filterMap (pull tn j) (l0 :: l1 :: rr) = F' at hk2
        have hall : ∀ l' ∈ F', fuel = l'.length ∧ (Left ops l' [] (listed.setIfInBounds j true) ∧ readsOk ops tn l' = true) ∧ Walk P ops S Q tn (j :: l') a w := by
          intro l' hl'
          rw [← hFe, List.mem_filterMap] at hl'
          obtain ⟨l, hlF, hpl⟩ := hl'
          obtain ⟨p, s, rfl, rfl, hrd⟩ := pull_spec hpl
          obtain ⟨hf, ⟨hl, hrk⟩, hp⟩ := hF _ hlF
          have hap : ∀ i ∈ p, apartAt ops i j = true := fun i hi => by
            have := (okPlan.tail hl.ok).2.1 i hi
            simp only [ahead, Bool.and_eq_true, Bool.or_eq_true, not_waits hj (hl.un i (by simp [hi]))] at this
            simpa using this.2
          exact ⟨by simp at hf ⊢; omega, ⟨hl.next, readsOk_pull hrd hrk⟩, hp.front hs p j s a w hrd hap⟩
        match F', hk2, hall with
        | [], hk2, _ => cases m' <;> simp [okFamT] at hk2
        | l' :: r', hk2, hall =>
          obtain ⟨_, _, o, ho, hcase⟩ := hall l' (by simp)
          have hoth : ∀ l2 ∈ l' :: r', fuel = l2.length ∧ (Left ops l2 [] (listed.setIfInBounds j true) ∧ readsOk ops tn l2 = true) ∧ ((Region.wanted o (yielded ops a.tmps) = false ∧ Walk P ops S Q tn l2 (a.put o.dst undef) w) ∨
              (Region.wanted o (yielded ops a.tmps) = true ∧ tn j = false ∧ ∃ v, (∀ u, S u → (execOp a.eval o).run P u = .ok (.value v) u) ∧ Walk P ops S Q tn l2 (a.put o.dst v) w) ∨
              (Region.wanted o (yielded ops a.tmps) = true ∧ tn j = true ∧ GivesK P (fun v w' => S w' ∧ Walk P ops S Q tn l2 (a.put o.dst v) w') ((execOp a.eval o).run P w))) := fun l2 h2 => by
            obtain ⟨q1, q2, o2, ho2, hc2⟩ := hall l2 h2
            rw [ho] at ho2
            cases ho2
            exact ⟨q1, q2, hc2⟩
          clear hall
          unfold wpOp
          simp only [ho]
          rcases hcase with ⟨hwt, _⟩ | ⟨hwt, htj, v, hv, _⟩ | ⟨hwt, htj, hg2⟩
          · simp only [hwt, Bool.false_eq_true, if_false]
            refine ih (l' :: r') m' _ _ w (fun l2 h2 => ?_) hk2 hS
            obtain ⟨q1, q2, hc⟩ := hoth l2 h2
            rcases hc with ⟨_, hr⟩ | ⟨hb, _⟩ | ⟨hb, _⟩
            · exact ⟨q1, q2, hr⟩
            · rw [hwt] at hb; cases hb
            · rw [hwt] at hb; cases hb
          · simp only [hwt, if_true]
            refine .inl (GivesK.wp ?_)
            rw [hv w hS]
            refine ih (l' :: r') m' _ _ w (fun l2 h2 => ?_) hk2 hS
            obtain ⟨q1, q2, hc⟩ := hoth l2 h2
            rcases hc with ⟨hb, _⟩ | ⟨_, _, v2, hv2, hr⟩ | ⟨_, hb, _⟩
            · rw [hwt] at hb; cases hb
            · have := (hv w hS).symm.trans (hv2 w hS)
              cases this
              exact ⟨q1, q2, hr⟩
            · rw [htj] at hb; cases hb
          · simp only [hwt, if_true]
            refine .inl (GivesK.wp ?_)
            have hoth2 : ∀ l2 ∈ l' :: r', fuel = l2.length ∧ (Left ops l2 [] (listed.setIfInBounds j true) ∧ readsOk ops tn l2 = true) ∧ GivesK P (fun v w' => S w' ∧ Walk P ops S Q tn l2 (a.put o.dst v) w') ((execOp a.eval o).run P w) := fun l2 h2 => by
              obtain ⟨q1, q2, hc⟩ := hoth l2 h2
              rcases hc with ⟨hb, _⟩ | ⟨_, hb, _⟩ | ⟨_, _, hg⟩
              · rw [hwt] at hb; cases hb
              · rw [htj] at hb; cases hb
              · exact ⟨q1, q2, hg⟩
            have hn := hne j o a w htj ho
            generalize (execOp a.eval o).run P w = res at *
            cases res with
            | ok n w' =>
              cases n
              case value u =>
                exact ih (l' :: r') m' _ _ w' (fun l2 h2 => ⟨(hoth2 l2 h2).1, (hoth2 l2 h2).2.1, (hoth2 l2 h2).2.2.2⟩) hk2 hg2.1
              case skip =>
                exact ih (l' :: r') m' _ _ w' (fun l2 h2 => ⟨(hoth2 l2 h2).1, (hoth2 l2 h2).2.1, (hoth2 l2 h2).2.2.2⟩) hk2 hg2.1
              case enter f args => exact absurd rfl (hn f args w')
              all_goals exact (show False from hg2).elim
            | halt x w' => exact hg2.elim

/-- The whole region, by a family of walks: of the reads nothing is asked but that they wait for what they stand behind. -/
theorem region_famT {id : Nat} {F : List (List Nat)} {t : List Nat} {a : Act} {w : World} (hm : P.follows .mixedOrders = true) (hs : Region.noSelect ops = true) (he2 : edgesOk ops = true)
    (hok : F.all (fun l => okPlan ops l && (List.range ops.size).all (fun k => l.contains k || [].contains k) && l.all (fun k => decide (k < ops.size)) && (ops.size == l.length) && readsOk ops t.contains l) = true)
    (hw : okFamT ops t.contains ops.size F = true) (hne : ∀ j o (a : Act) (w : World), t.contains j = true → ops[j]? = some o → ∀ f args w', (execOp a.eval o).run P w ≠ .ok (.enter f args) w')
    (hS : S w.drew) (hp : ∀ l ∈ F, Walk P ops S Q t.contains l a w.drew) : (Code.region id ops true).wp P Q a w := by
  refine wp_region_any hm ?_
  rw [List.all_eq_true] at hok
  refine fam_anyT hs he2 hne ops.size F ops.size _ a _ (fun l hl => ?_) hw hS
  have h := hok l hl
  simp only [Bool.and_eq_true, beq_iff_eq] at h
  obtain ⟨⟨⟨⟨h1, h2⟩, h3⟩, h4⟩, h5⟩ := h
  exact ⟨h4, ⟨left_of_replicate h1 h2 (by simpa using h3) (by simp), h5⟩, hp l hl⟩
end

end Go.Proofs.YtcbepibdeokboaaGreat
