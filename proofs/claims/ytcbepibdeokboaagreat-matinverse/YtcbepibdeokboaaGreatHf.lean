/- A drawn region in which a turn may come at several places: a family of walks, one for each order of the turns. No Go in this text. -/
import Derived.Test.YtcbepibdeokboaaGreatRd
namespace Go.Proofs.YtcbepibdeokboaaGreat
open Go.RowKit
set_option maxRecDepth 4000

section
variable {P : Program} {ops : Array Oper} {Q : Exit → Act → World → Prop} {S : World → Prop} {tn : Nat → Bool}

/-- The list without j, where nothing but reads stands ahead of it. -/
def pull (tn : Nat → Bool) (j : Nat) : List Nat → Option (List Nat)
  | [] => none
  | i :: r => if i = j then some r else if tn i then none else (pull tn j r).map (i :: ·)
theorem pull_spec {j : Nat} : ∀ {l l' : List Nat}, pull tn j l = some l' → ∃ p s, l = p ++ j :: s ∧ l' = p ++ s ∧ ∀ i ∈ p, tn i = false
  | [], _, h => by cases h
  | i :: r, l', h => by
    unfold pull at h
    by_cases e : i = j
    · rw [if_pos e] at h
      cases h
      exact ⟨[], r, by rw [e]; rfl, rfl, fun _ hk => by cases hk⟩
    · rw [if_neg e] at h
      cases ht : tn i with
      | true => rw [ht] at h; cases h
      | false =>
        rw [ht] at h
        simp only [Bool.false_eq_true, if_false, Option.map_eq_some_iff] at h
        obtain ⟨r', h1, rfl⟩ := h
        obtain ⟨p, s, rfl, rfl, hp⟩ := pull_spec h1
        exact ⟨i :: p, s, rfl, rfl, fun k hk => by rcases List.mem_cons.1 hk with e | hk; (subst e; exact ht); exact hp k hk⟩
/-- Whatever comes next, some walk of the family goes on with it. -/
def okFam (ops : Array Oper) (tn : Nat → Bool) : Nat → List (List Nat) → Bool
  | _, [] => false
  | _, [l] => okWalk ops tn l
  | 0, _ => false
  | n + 1, l0 :: l1 :: r => l0.all fun j => l0.any (fun k => waits ops j k) || okFam ops tn n ((l0 :: l1 :: r).filterMap (pull tn j))

theorem fam_any (hs : Region.noSelect ops = true) (he2 : edgesOk ops = true) (hne : ∀ j o (a : Act) (w : World), tn j = true → ops[j]? = some o → ∀ f args w', (execOp a.eval o).run P w ≠ .ok (.enter f args) w') :
    ∀ (fuel : Nat) (F : List (List Nat)) (listed : Array Bool) (a : Act) (w : World), (∀ l ∈ F, fuel = l.length ∧ Left ops l [] listed ∧ Walk P ops S Q tn l a w) → okFam ops tn fuel F = true → S w → wpAny P .any ops Q fuel listed a w := by
  intro fuel
  induction fuel with
  | zero =>
    intro F listed a w hF hk hS
    match F, hF, hk with
    | [l], hF, hk =>
      obtain ⟨h1, h2, h3⟩ := hF l (by simp)
      exact walk_any hs he2 0 l listed a w h1 h2 hk h3 hS
    | [], _, hk => exact absurd hk (by simp [okFam])
    | _ :: _ :: _, _, hk => exact absurd hk (by simp [okFam])
  | succ fuel ih =>
    intro F listed a w hF hk hS
    match F, hF, hk with
    | [l], hF, hk =>
      obtain ⟨h1, h2, h3⟩ := hF l (by simp)
      exact walk_any hs he2 (fuel + 1) l listed a w h1 h2 hk h3 hS
    | [], _, hk => exact absurd hk (by simp [okFam])
    | l0 :: l1 :: rr, hF, hk =>
      obtain ⟨hf0, hl0, hp0⟩ := hF l0 (by simp)
      rw [okFam, List.all_eq_true] at hk
      refine ⟨fun hr => ?_, fun j hj => ?_⟩
      · exfalso
        cases l0 with
        | nil => simp at hf0
        | cons i r =>
          have hi := hl0.un i (by simp)
          have hlt : i < ops.size := by
            rcases Nat.lt_or_ge i listed.size with h' | h'
            · have := hl0.sz; omega
            · simp [Array.getElem?_eq_none h'] at hi
          obtain ⟨o, ho⟩ := Option.isSome_iff_exists.1 (show (ops[i]?).isSome = true by simp [hlt])
          have : i ∈ Region.ready .any ops listed := by
            refine mem_ready.2 ⟨hi, o, ho, fun e he hbd => ?_⟩
            by_cases hu : listed.getD e.on true = false
            · exfalso
              have hw : waits ops i e.on = true := by
                unfold waits
                rw [ho]
                simp only [Option.map_some, Option.getD_some, Array.any_eq_true']
                exact ⟨e, he, by simp [hbd]⟩
              have hok := hl0.ok
              simp only [okPlan, Bool.and_eq_true, List.all_eq_true] at hok
              rcases hl0.all _ hu with hm | hm
              · rcases List.mem_cons.1 hm with hm | hm
                · rw [hm] at hw; rw [hw] at hok; simp at hok
                · have := hok.1.2 _ hm
                  simp [ahead, hw] at this
              · cases hm
            · have : listed.getD e.on true = true := by simpa using hu
              rcases Nat.lt_or_ge e.on listed.size with h' | h'
              · simpa [h'] using this
              · have := edgesOk_spec he2 ho he
                have := hl0.sz
                omega
          rw [hr] at this
          cases this
      · obtain ⟨hju, _⟩ := mem_ready.1 hj
        have hj0 : j ∈ l0 := by
          rcases hl0.all j hju with hm | hm
          · exact hm
          · cases hm
        have hk2 := hk j hj0
        have hnw : l0.any (fun k => waits ops j k) = false := by
          rw [List.any_eq_false]
          intro k hk
          rw [not_waits hj (hl0.un k hk)]
          decide
        rw [hnw, Bool.false_or] at hk2
        generalize hFe : List.filterMap (pull tn j) (l0 :: l1 :: rr) = F' at hk2
        have hall : ∀ l' ∈ F', fuel = l'.length ∧ Left ops l' [] (listed.setIfInBounds j true) ∧ Walk P ops S Q tn (j :: l') a w := by
          intro l' hl'
          rw [← hFe, List.mem_filterMap] at hl'
          obtain ⟨l, hlF, hpl⟩ := hl'
          obtain ⟨p, s, rfl, rfl, hrd⟩ := pull_spec hpl
          obtain ⟨hf, hl, hp⟩ := hF _ hlF
          have hap : ∀ i ∈ p, apartAt ops i j = true := fun i hi => by
            have := (okPlan.tail hl.ok).2.1 i hi
            simp only [ahead, Bool.and_eq_true, Bool.or_eq_true, not_waits hj (hl.un i (by simp [hi]))] at this
            simpa using this.2
          exact ⟨by simp at hf ⊢; omega, hl.next, hp.front hs p j s a w hrd hap⟩
        match F', hk2, hall with
        | [], hk2, _ => cases fuel <;> simp [okFam] at hk2
        | l' :: r', hk2, hall =>
          obtain ⟨_, _, o, ho, hcase⟩ := hall l' (by simp)
          have hoth : ∀ l2 ∈ l' :: r', fuel = l2.length ∧ Left ops l2 [] (listed.setIfInBounds j true) ∧ ((Region.wanted o (yielded ops a.tmps) = false ∧ Walk P ops S Q tn l2 (a.put o.dst undef) w) ∨
              (Region.wanted o (yielded ops a.tmps) = true ∧ tn j = false ∧ ∃ v, (∀ u, S u → (execOp a.eval o).run P u = .ok (.value v) u) ∧ Walk P ops S Q tn l2 (a.put o.dst v) w) ∨
              (Region.wanted o (yielded ops a.tmps) = true ∧ tn j = true ∧ GivesK P (fun v w' => S w' ∧ Walk P ops S Q tn l2 (a.put o.dst v) w') ((execOp a.eval o).run P w))) := fun l2 h2 => by
            obtain ⟨q1, q2, o2, ho2, hc2⟩ := hall l2 h2
            rw [ho] at ho2
            cases ho2
            exact ⟨q1, q2, hc2⟩
          clear hall
          unfold wpOp
          simp only [ho]
          rcases hcase with ⟨hwt, _⟩ | ⟨hwt, htj, v, hv, _⟩ | ⟨hwt, htj, hg2⟩
          · simp only [hwt, Bool.false_eq_true, if_false]
            refine ih (l' :: r') _ _ w (fun l2 h2 => ?_) hk2 hS
            obtain ⟨q1, q2, hc⟩ := hoth l2 h2
            rcases hc with ⟨_, hr⟩ | ⟨hb, _⟩ | ⟨hb, _⟩
            · exact ⟨q1, q2, hr⟩
            · rw [hwt] at hb; cases hb
            · rw [hwt] at hb; cases hb
          · simp only [hwt, if_true]
            refine .inl (GivesK.wp ?_)
            rw [hv w hS]
            refine ih (l' :: r') _ _ w (fun l2 h2 => ?_) hk2 hS
            obtain ⟨q1, q2, hc⟩ := hoth l2 h2
            rcases hc with ⟨hb, _⟩ | ⟨_, _, v2, hv2, hr⟩ | ⟨_, hb, _⟩
            · rw [hwt] at hb; cases hb
            · have := (hv w hS).symm.trans (hv2 w hS)
              cases this
              exact ⟨q1, q2, hr⟩
            · rw [htj] at hb; cases hb
          · simp only [hwt, if_true]
            refine .inl (GivesK.wp ?_)
            have hoth2 : ∀ l2 ∈ l' :: r', fuel = l2.length ∧ Left ops l2 [] (listed.setIfInBounds j true) ∧ GivesK P (fun v w' => S w' ∧ Walk P ops S Q tn l2 (a.put o.dst v) w') ((execOp a.eval o).run P w) := fun l2 h2 => by
              obtain ⟨q1, q2, hc⟩ := hoth l2 h2
              rcases hc with ⟨hb, _⟩ | ⟨_, hb, _⟩ | ⟨_, _, hg⟩
              · rw [hwt] at hb; cases hb
              · rw [htj] at hb; cases hb
              · exact ⟨q1, q2, hg⟩
            have hn := hne j o a w htj ho
            generalize (execOp a.eval o).run P w = res at *
            cases res with
            | ok n w' =>
              cases n
              case value u =>
                exact ih (l' :: r') _ _ w' (fun l2 h2 => ⟨(hoth2 l2 h2).1, (hoth2 l2 h2).2.1, (hoth2 l2 h2).2.2.2⟩) hk2 hg2.1
              case skip =>
                exact ih (l' :: r') _ _ w' (fun l2 h2 => ⟨(hoth2 l2 h2).1, (hoth2 l2 h2).2.1, (hoth2 l2 h2).2.2.2⟩) hk2 hg2.1
              case enter f args => exact absurd rfl (hn f args w')
              all_goals exact (show False from hg2).elim
            | halt x w' => exact hg2.elim

/-- The whole region, by a family of walks. -/
theorem region_fam {id : Nat} {F : List (List Nat)} {t : List Nat} {a : Act} {w : World} (hm : P.follows .mixedOrders = true) (hs : Region.noSelect ops = true) (he2 : edgesOk ops = true)
    (hok : F.all (fun l => okPlan ops l && (List.range ops.size).all (fun k => l.contains k || [].contains k) && l.all (fun k => decide (k < ops.size)) && (ops.size == l.length)) = true)
    (hw : okFam ops t.contains ops.size F = true) (hne : ∀ j o (a : Act) (w : World), t.contains j = true → ops[j]? = some o → ∀ f args w', (execOp a.eval o).run P w ≠ .ok (.enter f args) w')
    (hS : S w.drew) (hp : ∀ l ∈ F, Walk P ops S Q t.contains l a w.drew) : (Code.region id ops true).wp P Q a w := by
  refine wp_region_any hm ?_
  rw [List.all_eq_true] at hok
  refine fam_any hs he2 hne ops.size F _ a _ (fun l hl => ?_) hw hS
  have h := hok l hl
  simp only [Bool.and_eq_true, beq_iff_eq] at h
  obtain ⟨⟨⟨h1, h2⟩, h3⟩, h4⟩ := h
  exact ⟨h4, left_of_replicate h1 h2 (by simpa using h3) (by simp), hp l hl⟩
theorem ne_value {x : Sem Value} {w w' : World} {f : FuncId} {args : Array Value} : (do pure (Next.value (← x)) : Sem Next).run P w ≠ .ok (.enter f args) w' := by
  intro h
  rw [Sem.run_bind] at h
  cases hx : x.run P w with
  | ok v w1 => rw [hx] at h; cases h
  | halt s w1 => rw [hx] at h; cases h
theorem ne_skip {x : Sem Unit} {w w' : World} {f : FuncId} {args : Array Value} : (do x; pure Next.skip : Sem Next).run P w ≠ .ok (.enter f args) w' := by
  intro h
  rw [Sem.run_bind] at h
  cases hx : x.run P w with
  | ok v w1 => rw [hx] at h; cases h
  | halt s w1 => rw [hx] at h; cases h
theorem ne_alloc {o : Oper} {t : TypeId} (ho : o.op = .alloc t) (a : Act) (w : World) (f : FuncId) (args : Array Value) (w' : World) : (execOp a.eval o).run P w ≠ .ok (.enter f args) w' := by
  unfold execOp
  simp only [ho]
  exact ne_value
theorem ne_store {o : Oper} {t : TypeId} {x y : Operand} (ho : o.op = .store t x y) (a : Act) (w : World) (f : FuncId) (args : Array Value) (w' : World) : (execOp a.eval o).run P w ≠ .ok (.enter f args) w' := by
  unfold execOp
  simp only [ho]
  exact ne_skip
theorem ne_buildSlice {o : Oper} {t : TypeId} {n : Nat} {ps : Array (Nat × Operand)} (ho : o.op = .buildSlice t n ps) (a : Act) (w : World) (f : FuncId) (args : Array Value) (w' : World) : (execOp a.eval o).run P w ≠ .ok (.enter f args) w' := by
  unfold execOp
  simp only [ho]
  exact ne_value
/-- What is behind, once for all ways that lead to it. -/
theorem share3 {G H : Nat → Nat → World → Prop} {R : Prop} (main : (∀ c d u, H c d u → G c d u) → R) (rest : ∀ c d u, H c d u → G c d u) : R := main rest
end

end Go.Proofs.YtcbepibdeokboaaGreat
