/- Drawn regions whose tuples are taken apart late: an operation that takes a place out of a tuple may be waited for by a store that doesn't wait for it. No Go in this text. -/
import Derived.Test.YtnemedgdhojhdaaGreatBo
namespace Go.Proofs.YtnemedgdhojhdaaGreat
open Go.RowKit
set_option maxRecDepth 4000

section
variable {P : Program} {ops : Array Oper} {Q : Exit → Act → World → Prop} {S : World → Prop} {E : Act → Prop}

/-- It waits for these, too. -/
def Oper.wait (o : Oper) (Z : List Nat) : Oper := { o with after := o.after ++ (Z.map fun z => ({ on := z, ground := .data } : Edge)).toArray }
/-- The operation t waits for all of Z. -/
def waitFor (ops : Array Oper) (t : Nat) (Z : List Nat) : Array Oper := ops.mapIdx fun i o => if i = t then Oper.wait o Z else o
theorem waitFor_ne {t j : Nat} {Z : List Nat} (h : j ≠ t) : (waitFor ops t Z)[j]? = ops[j]? := by
  unfold waitFor
  simp [h]
theorem waitFor_at {t : Nat} {Z : List Nat} {o : Oper} (h : ops[t]? = some o) : (waitFor ops t Z)[t]? = some (Oper.wait o Z) := by
  unfold waitFor
  simp [h]
theorem waitFor_dst {t j : Nat} {Z : List Nat} : ((waitFor ops t Z)[j]?).bind (·.dst) = (ops[j]?).bind (·.dst) := by
  by_cases h : j = t
  · subst h
    cases ho : ops[j]? with
    | none => unfold waitFor; simp [ho]
    | some o => rw [waitFor_at ho]; rfl
  · rw [waitFor_ne h]
theorem yielded_wait {t : Nat} {Z : List Nat} (tmps : Array Value) : yielded (waitFor ops t Z) tmps = yielded ops tmps := by
  funext j
  unfold yielded
  rw [waitFor_dst]
theorem wpOp_wait {t j : Nat} {Z : List Nat} {a : Act} {w : World} {K : Act → World → Prop} (h : wpOp P (waitFor ops t Z) Q j K a w) : wpOp P ops Q j K a w := by
  unfold wpOp at *
  rw [yielded_wait] at h
  by_cases hj : j = t
  · subst hj
    cases ho : ops[j]? with
    | none =>
      have e : (waitFor ops j Z)[j]? = none := by unfold waitFor; simp [ho]
      rw [e] at h
      exact h
    | some o =>
      rw [waitFor_at ho] at h
      exact h
  · rw [waitFor_ne hj] at h
    exact h
theorem ready_wait_ne {t j : Nat} {Z : List Nat} {listed : Array Bool} (h : j ≠ t) : j ∈ Region.ready .any (waitFor ops t Z) listed ↔ j ∈ Region.ready .any ops listed := by
  rw [mem_ready, mem_ready, waitFor_ne h]
theorem ready_wait_all {t : Nat} {Z : List Nat} {listed : Array Bool} (hZ : ∀ z ∈ Z, listed.getD z false = true) (h : t ∈ Region.ready .any ops listed) : t ∈ Region.ready .any (waitFor ops t Z) listed := by
  rw [mem_ready] at *
  obtain ⟨h1, o, ho, h2⟩ := h
  refine ⟨h1, _, waitFor_at ho, fun e he hb => ?_⟩
  unfold Oper.wait at he
  rcases Array.mem_append.1 he with he | he
  · exact h2 e he hb
  · simp only [List.mem_toArray, List.mem_map] at he
    obtain ⟨z, hz, rfl⟩ := he
    exact hZ z hz
/-- Whoever is ready with the wait is without. -/
theorem ready_of_wait {t j : Nat} {Z : List Nat} {listed : Array Bool} (h : j ∈ Region.ready .any (waitFor ops t Z) listed) : j ∈ Region.ready .any ops listed := by
  by_cases hj : j = t
  · subst hj
    rw [mem_ready] at *
    obtain ⟨h1, o, ho, h2⟩ := h
    cases ho2 : ops[j]? with
    | none =>
      have e : (waitFor ops j Z)[j]? = none := by unfold waitFor; simp [ho2]
      rw [e] at ho
      cases ho
    | some o2 =>
      rw [waitFor_at ho2] at ho
      cases ho
      exact ⟨h1, o2, rfl, fun e he hb => h2 e (by unfold Oper.wait; exact Array.mem_append.2 (.inl he)) hb⟩
  · exact (ready_wait_ne hj).1 h
/-- It takes a place out of a tuple, and is not guarded. -/
def takesApart (ops : Array Oper) (z : Nat) : Bool := match ops[z]? with
  | some o => (match o.op with | .extract _ _ => true | _ => false) && o.guard.isNone
  | none => false
theorem takesApart_spec {z : Nat} (h : takesApart ops z = true) : ∃ o x k, ops[z]? = some o ∧ o.op = .extract x k ∧ o.guard = none := by
  unfold takesApart at h
  cases ho : ops[z]? with
  | none => rw [ho] at h; cases h
  | some o =>
    rw [ho] at h
    simp only [Bool.and_eq_true, Option.isNone_iff_eq_none] at h
    cases hop : o.op <;> rw [hop] at h <;> first | (exact ⟨o, _, _, rfl, hop, h.2⟩) | (cases h.1)
theorem extract_run (x : Value) (k : Nat) : (∃ v, ∀ u, (Instr.extract x k).run P u = .ok v u) ∨ (∀ w', ∃ h, (Instr.extract x k).run P w' = .halt h w' ∧ ∀ c, h ≠ .panic c) := by
  cases x with
  | tuple vs =>
    cases hv : vs[k]? with
    | some v => exact .inl ⟨v, fun u => by simp [Instr.extract, hv]⟩
    | none => exact .inr fun w' => by simp [Instr.extract, hv]
  | _ => exact .inr fun w' => by simp [Instr.extract]
/-- What is asked of Z. -/
def lateOk (ops : Array Oper) (t : Nat) (Z : List Nat) : Bool :=
  Z.all fun z => takesApart ops z && z != t && ((List.range ops.size).all fun j => j == z || waits ops z j || waits ops j z || apartAt ops z j) && (List.range ops.size).all fun k => !waits ops z k || waits ops t k
theorem waits_listed {listed : Array Bool} {j k : Nat} (hj : j ∈ Region.ready .any ops listed) (hw : waits ops j k = true) : listed.getD k false = true := by
  obtain ⟨_, o, ho, h⟩ := mem_ready.1 hj
  unfold waits at hw
  rw [ho] at hw
  simp only [Option.map_some, Option.getD_some, Array.any_eq_true'] at hw
  obtain ⟨e, he, hb⟩ := hw
  simp only [Bool.and_eq_true, beq_iff_eq] at hb
  exact hb.2 ▸ h e he hb.1
theorem late_any (hs : Region.noSelect ops = true) (he2 : edgesOk ops = true) {t : Nat} {Z : List Nat} (hZ : lateOk ops t Z = true) (hL : ¬ LetsOut Q) (hQ : ∀ d v c a w, Q (.panic c) (Act.put a d v) w → Q (.panic c) a w) :
    ∀ (fuel : Nat) (listed : Array Bool) (a : Act) (w : World), listed.size = ops.size → wpAny P .any (waitFor ops t Z) Q fuel listed a w → wpAny P .any ops Q fuel listed a w := by
  unfold lateOk at hZ
  rw [List.all_eq_true] at hZ
  -- if t may come, and some of Z has not, that one may come
  have late : ∀ (listed : Array Bool), listed.size = ops.size → t ∈ Region.ready .any ops listed → (∀ z ∈ Z, listed.getD z false = true) ∨ ∃ z ∈ Z, z ∈ Region.ready .any ops listed := by
    intro listed hsz ht
    by_cases hall : ∀ z ∈ Z, listed.getD z false = true
    · exact .inl hall
    · right
      simp only [Classical.not_forall] at hall
      obtain ⟨z, hz, hu⟩ := hall
      have h := hZ z hz
      simp only [Bool.and_eq_true, List.all_eq_true, List.mem_range, Bool.or_eq_true, Bool.not_eq_true'] at h
      obtain ⟨o, x, k, ho, hop, hg⟩ := takesApart_spec h.1.1.1
      have hlt : z < ops.size := (Array.getElem?_eq_some_iff.1 ho).1
      refine ⟨z, hz, mem_ready.2 ⟨?_, o, ho, fun e he hb => ?_⟩⟩
      · have hlt2 : z < listed.size := by omega
        simp [hlt2] at hu ⊢
        exact hu
      · have hwz : waits ops z e.on = true := by
          unfold waits
          rw [ho]
          simp only [Option.map_some, Option.getD_some, Array.any_eq_true']
          exact ⟨e, he, by simp [hb]⟩
        rcases h.2 e.on (edgesOk_spec he2 ho he) with h' | h'
        · rw [h'] at hwz; cases hwz
        · exact waits_listed ht h'
  intro fuel
  induction fuel with
  | zero =>
    intro listed a w hsz H
    refine ⟨?_, H.2⟩
    cases hr : Region.ready .any ops listed with
    | nil => rfl
    | cons j r =>
      exfalso
      have hj : j ∈ Region.ready .any ops listed := by rw [hr]; exact List.mem_cons_self ..
      have hno : ∀ k, k ∉ Region.ready .any (waitFor ops t Z) listed := fun k hk => by rw [H.1] at hk; cases hk
      by_cases hjt : j = t
      · subst hjt
        rcases late listed hsz hj with h | ⟨z, hz, hzr⟩
        · exact hno _ (ready_wait_all h hj)
        · have h := hZ z hz
          simp only [Bool.and_eq_true, bne_iff_ne, ne_eq] at h
          exact hno _ ((ready_wait_ne h.1.1.2).2 hzr)
      · exact hno _ ((ready_wait_ne hjt).2 hj)
  | succ fuel ih =>
    intro listed a w hsz H
    by_cases hcase : t ∈ Region.ready .any ops listed ∧ ∃ z ∈ Z, z ∈ Region.ready .any ops listed
    · obtain ⟨_, z, hz, hzr⟩ := hcase
      have h := hZ z hz
      simp only [Bool.and_eq_true, bne_iff_ne, ne_eq] at h
      obtain ⟨⟨⟨h1, h2⟩, h3⟩, _⟩ := h
      obtain ⟨o, x, k, ho, hop, hg⟩ := takesApart_spec h1
      have H2 := wpOp_wait (H.2 z ((ready_wait_ne h2).2 hzr))
      unfold wpOp at H2
      rw [ho] at H2
      have hw : Region.wanted o (yielded ops a.tmps) = true := by unfold Region.wanted; rw [hg]
      simp only [hw, if_true] at H2
      rcases H2 with H2 | ⟨_, H2⟩
      · unfold Oper.wp at H2
        have e : ∀ u, (execOp a.eval o).run P u = ((Instr.extract (a.eval x) k) >>= fun v => (pure (.value v) : Sem Next)).run P u := fun u => by
          unfold execOp
          rw [hop]
        rcases extract_run (P := P) (a.eval x) k with ⟨v, hv⟩ | hv
        · have hy : Yields P ops o v a := .inl ⟨hw, fun u => by rw [e u, Sem.run_bind, hv u]; rfl⟩
          have hrun : (execOp a.eval o).run P w = .ok (.value v) w := by rw [e w, Sem.run_bind, hv w]; rfl
          rw [hrun] at H2
          simp only [Oper.upon] at H2
          have hfree : ∀ j oj, ops[j]? = some oj → j ≠ z → listed.getD j true = false → (∀ e ∈ oj.after, Region.binds .any e = true → e.on ≠ z) → o.apart ops oj = true := fun j oj hj hne hun hno =>
            by
              rw [List.all_eq_true] at h3
              have h4 := h3 j (List.mem_range.2 (Array.getElem?_eq_some_iff.1 hj).1)
              simp only [Bool.or_eq_true, beq_iff_eq] at h4
              rcases h4 with ((h4 | h4) | h4) | h4
              · exact absurd h4 hne
              · exfalso
                have h5 := waits_listed hzr h4
                have hlt : j < listed.size := by rw [hsz]; exact (Array.getElem?_eq_some_iff.1 hj).1
                simp [hlt] at h5 hun
                rw [h5] at hun
                cases hun
              · exfalso
                unfold waits at h4
                rw [hj] at h4
                simp only [Option.map_some, Option.getD_some, Array.any_eq_true'] at h4
                obtain ⟨e, he, hb⟩ := h4
                simp only [Bool.and_eq_true, beq_iff_eq] at hb
                exact hno e he hb.1 hb.2
              · simpa [apartAt, ho, hj] using h4
          exact wpAny_first ho (Region.noSelect_spec hs) (fun c a w hq => hQ o.dst v c a w hq) fuel listed a w hfree hzr hy (ih _ _ _ (by simpa using hsz) H2)
        · exfalso
          obtain ⟨hh, he, hp⟩ := hv w
          have hrun : (execOp a.eval o).run P w = .halt hh w := by rw [e w, Sem.run_bind, he]; rfl
          rw [hrun] at H2
          cases hh with
          | panic c => exact hp c rfl
          | _ => exact H2.elim
      · exact absurd H2 hL
    · refine ⟨fun hr => H.1 ?_, fun j hj => ?_⟩
      · cases hr2 : Region.ready .any (waitFor ops t Z) listed with
        | nil => rfl
        | cons j r =>
          have : j ∈ Region.ready .any ops listed := ready_of_wait (by rw [hr2]; exact List.mem_cons_self ..)
          rw [hr] at this
          cases this
      · have hj2 : j ∈ Region.ready .any (waitFor ops t Z) listed := by
          by_cases hjt : j = t
          · subst hjt
            rcases late listed hsz hj with h | h
            · exact ready_wait_all h hj
            · exact absurd ⟨hj, h⟩ hcase
          · exact (ready_wait_ne hjt).2 hj
        exact wpOp_mono (fun a' w' h => ih _ a' w' (by simpa using hsz) h) (wpOp_wait (H.2 j hj2))

theorem DoesB.wait {t : Nat} {Z : List Nat} {o : Oper} {v : Value} {a : Act} (h : DoesB P ops S o v a) : DoesB P (waitFor ops t Z) S o v a := by
  unfold DoesB at *
  rw [yielded_wait]
  exact h
theorem PlanB.wait {t : Nat} {Z : List Nat} {E' : Act → Prop} (hE : ∀ a, E a → E' a) : ∀ {l : List Nat} {a : Act}, (∀ i ∈ l, i ≠ t) → PlanB P ops S E l a → PlanB P (waitFor ops t Z) S E' l a
  | [], a, _, h => hE a h
  | i :: r, a, hl, h => by
    obtain ⟨o, v, ho, hd, hr⟩ := h
    exact ⟨o, v, (waitFor_ne (hl i (List.mem_cons_self ..))).trans ho, hd.wait, PlanB.wait hE (fun k hk => hl k (List.mem_cons_of_mem _ hk)) hr⟩
theorem wpList_waitFor {t : Nat} {Z : List Nat} : ∀ (T : List Nat) (a : Act) (w : World), wpList P ops Q (opsOf ops T) a w → wpList P (waitFor ops t Z) Q (opsOf (waitFor ops t Z) T) a w
  | [], _, _, h => h
  | i :: r, a, w, h => by
    have ih := fun a w => wpList_waitFor (t := t) (Z := Z) r a w
    unfold opsOf at h ⊢
    cases ho : ops[i]? with
    | none =>
      have e : (waitFor ops t Z)[i]? = none := by unfold waitFor; simp [ho]
      rw [ho] at h
      rw [e]
      exact ih a w h
    | some o =>
      have e : ∃ o', (waitFor ops t Z)[i]? = some o' ∧ (o' = o ∨ o' = Oper.wait o Z) := by
        by_cases hi : i = t
        · subst hi; exact ⟨_, waitFor_at ho, .inr rfl⟩
        · exact ⟨o, (waitFor_ne hi).trans ho, .inl rfl⟩
      obtain ⟨o', e, ho'⟩ := e
      rw [ho] at h
      rw [e]
      have hw : Region.wanted o' (yielded (waitFor ops t Z) a.tmps) = Region.wanted o (yielded ops a.tmps) := by
        rw [yielded_wait]
        rcases ho' with rfl | rfl <;> rfl
      simp only [wpList] at h ⊢
      rw [hw]
      split
      · rename_i h1
        rw [if_pos h1] at h
        rcases h with h | h
        · left
          have := Oper.wp_mono (fun a w => ih a w) h
          rcases ho' with rfl | rfl
          · exact this
          · exact this
        · right
          rcases ho' with rfl | rfl
          · exact h
          · exact h
      · rename_i h1
        rw [if_neg h1] at h
        rcases ho' with rfl | rfl
        · exact ih _ _ h
        · exact ih _ _ h
theorem pa_wait {t : Nat} {Z : List Nat} (c : Nat → Nat) : ∀ (l : List Nat) (a : Act), pa (waitFor ops t Z) c l a = pa ops c l a
  | [], _ => rfl
  | i :: r, a => by
    unfold pa
    have e : dstOf (waitFor ops t Z) i = dstOf ops i := waitFor_dst
    rw [e]
    exact pa_wait c r _
/-- region_allocs, where places of tuples are taken late: the first of the tail waits for Z. -/
theorem region_allocsL {id : Nat} {l A T : List Nat} {ft : Nat} {Z : List Nat} {t : TypeId} {z : Array Value} {base : Nat} {a : Act} {w : World} (hm : P.follows .mixedOrders = true) (hs0 : Region.noSelect ops = true) (he0 : edgesOk ops = true) (hZ : lateOk ops ft Z = true) (hs : Region.noSelect (waitFor ops ft Z) = true) (he2 : edgesOk (waitFor ops ft Z) = true)
    (hT : tailOk (waitFor ops ft Z) T = true) (hok : okPlan (waitFor ops ft Z) l = true) (hall : (List.range (waitFor ops ft Z).size).all (fun k => l.contains k || (A ++ T).contains k) = true) (hlt : (l ++ (A ++ T)).all (fun k => decide (k < (waitFor ops ft Z).size)) = true)
    (hap : l.all (fun k => !(A ++ T).contains k && (A ++ T).all fun j => !waits (waitFor ops ft Z) k j) = true) (hlen : (l.length + A.length + T.length == (waitFor ops ft Z).size) = true) (hc : allocOk2 (waitFor ops ft Z) l A T = true)
    (hL : ¬ LetsOut Q) (hQ : ∀ d v c a w, Q (.panic c) (Act.put a d v) w → Q (.panic c) a w)
    (hft : (A.all (fun i => i != ft) && l.all (fun i => i != ft)) = true) (hal : ∀ i ∈ A, ∃ o, ops[i]? = some o ∧ o.guard = none ∧ ∀ (a : Act) (w : World), (execOp a.eval o).run P w = .ok (.value (ptr w.heap.size)) (w.alloc (.cells z t)))
    (hSB : ∀ w w', S w → Below w.heap.size w w' → S w') (hbase : ∀ w, S w → base ≤ w.heap.size) (hS : S w.drew)
    (hp : PlanB P ops S (AtTail S t z base ops (wpList P ops Q (opsOf ops T)) [] (fun _ => 0) A) l a) : (Code.region id ops true).wp P Q a w := by
  refine wp_region_any hm ?_
  refine late_any hs0 he0 hZ hL hQ ops.size _ a _ (by simp) ?_
  simp only [allocOk2, Bool.and_eq_true, List.all_eq_true, List.any_eq_true, Bool.not_eq_true', Bool.or_eq_true, beq_iff_eq, decide_eq_true_eq] at hc
  obtain ⟨⟨h1, h2⟩, h3⟩ := hc
  have hl := left_of_replicate hok hall hlt hap
  simp only [Bool.and_eq_true, List.all_eq_true, bne_iff_ne, ne_eq] at hft
  have hp := PlanB.wait (t := ft) (Z := Z) (E' := AtTail S t z base (waitFor ops ft Z) (wpList P (waitFor ops ft Z) Q (opsOf (waitFor ops ft Z) T)) [] (fun _ => 0) A) (fun a' h c hc w' hS' hB hI => by
    rw [pa_wait]
    exact wpList_waitFor T _ _ (h c hc w' hS' hB hI)) (fun i hi => hft.2 i hi) hp
  have hal : ∀ i ∈ A, ∃ o, (waitFor ops ft Z)[i]? = some o ∧ o.guard = none ∧ ∀ (a : Act) (w : World), (execOp a.eval o).run P w = .ok (.value (ptr w.heap.size)) (w.alloc (.cells z t)) := fun i hi => by
    obtain ⟨o, ho, h⟩ := hal i hi
    exact ⟨o, (waitFor_ne (hft.1 i hi)).trans ho, h⟩
  have hsz : (waitFor ops ft Z).size = ops.size := by unfold waitFor; simp
  have := allocs_any2 hs he2 hT hSB hbase (waitFor ops ft Z).size l A [] (fun _ => 0) _ a _ (by simpa using (beq_iff_eq.1 hlen).symm) hl hal (by
    intro i hi k hk
    exact (h1 i hi).1.1.1 k (by rcases hk with hk | hk; exact List.mem_append_left _ hk; exact List.mem_append_right _ hk)) (fun i hi k hk => (h1 i hi).1.1.2 k hk) (by
    intro i hi k hk hne
    rcases (h1 i hi).1.2 k hk with e | e
    · exact absurd e hne
    · exact e) (by
    intro i hi
    have := (h1 i hi).2
    exact ⟨by simpa using this, by simp⟩) h3 (fun i hi => (h2 i hi).imp (fun h => h) fun h => ⟨h.1, fun k hk => h.2 k hk⟩) hp hS (fun i hi => by cases hi) (fun i hi => by cases hi)
  rw [hsz] at this
  exact this
end

end Go.Proofs.YtnemedgdhojhdaaGreat
