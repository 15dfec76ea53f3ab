/- Drawn regions whose tuples are taken apart late: an operation that takes a place out of a tuple may be waited for by a store that doesn't wait for it. No Go in this text. The document's layer 4: At, Column, Turned, Add; the law MatSums. The document's layer 4: Apply, Mul, with, over, Solve, Inverse; the laws MatMul, MatInverse. For every matrix m and every vector v (int64 numbers) the law MatInverse returns true, and its arguments read behind the call as they did before. No condition. -/
import Derived.Test.YtcbepibdeokboaaGreatBo
import Derived.Test.YtcbepibdeokboaaGreatSy
import Derived.Test.YtcbepibdeokboaaGreatNl
import Derived.Test.YtcbepibdeokboaaGreatNp
import Derived.Test.YtcbepibdeokboaaGreatNz
namespace Go.Proofs.YtcbepibdeokboaaGreat
open Go.RowKit
set_option maxRecDepth 4000

section
variable {P : Program} {ops : Array Oper} {Q : Exit → Act → World → Prop} {S : World → Prop} {E : Act → Prop}

/-- It waits for these, too. -/
def Oper.wait (o : Oper) (Z : List Nat) : Oper := { o with after := o.after ++ (Z.map fun z => ({ on := z, ground := .data } : Edge)).toArray }
/-- The operation t waits for all of Z. -/
def waitFor (ops : Array Oper) (t : Nat) (Z : List Nat) : Array Oper := ops.mapIdx fun i o => if i = t then Oper.wait o Z else o
theorem waitFor_ne {t j : Nat} {Z : List Nat} (h : j ≠ t) : (waitFor ops t Z)[j]? = ops[j]? := by
  unfold waitFor
  simp [h]
theorem waitFor_at {t : Nat} {Z : List Nat} {o : Oper} (h : ops[t]? = some o) : (waitFor ops t Z)[t]? = some (Oper.wait o Z) := by
  unfold waitFor
  simp [h]
theorem waitFor_dst {t j : Nat} {Z : List Nat} : ((waitFor ops t Z)[j]?).bind (·.dst) = (ops[j]?).bind (·.dst) := by
  by_cases h : j = t
  · subst h
    cases ho : ops[j]? with
    | none => unfold waitFor; simp [ho]
    | some o => rw [waitFor_at ho]; rfl
  · rw [waitFor_ne h]
theorem yielded_wait {t : Nat} {Z : List Nat} (tmps : Array Value) : yielded (waitFor ops t Z) tmps = yielded ops tmps := by
  funext j
  unfold yielded
  rw [waitFor_dst]
theorem wp_wait {o : Oper} {Z : List Nat} {a : Act} {w : World} {K : Act → World → Prop} : (Oper.wait o Z).wp P a w K Q ↔ o.wp P a w K Q := Iff.rfl
theorem wpOp_wait {t j : Nat} {Z : List Nat} {a : Act} {w : World} {K : Act → World → Prop} (h : wpOp P (waitFor ops t Z) Q j K a w) : wpOp P ops Q j K a w := by
  unfold wpOp at *
  rw [yielded_wait] at h
  by_cases hj : j = t
  · subst hj
    cases ho : ops[j]? with
    | none =>
      have e : (waitFor ops j Z)[j]? = none := by unfold waitFor; simp [ho]
      rw [e] at h
      exact h
    | some o =>
      rw [waitFor_at ho] at h
      exact h
  · rw [waitFor_ne hj] at h
    exact h
theorem ready_wait_ne {t j : Nat} {Z : List Nat} {listed : Array Bool} (h : j ≠ t) : j ∈ Region.ready .any (waitFor ops t Z) listed ↔ j ∈ Region.ready .any ops listed := by
  rw [mem_ready, mem_ready, waitFor_ne h]
theorem ready_wait_all {t : Nat} {Z : List Nat} {listed : Array Bool} (hZ : ∀ z ∈ Z, listed.getD z false = true) (h : t ∈ Region.ready .any ops listed) : t ∈ Region.ready .any (waitFor ops t Z) listed := by
  rw [mem_ready] at *
  obtain ⟨h1, o, ho, h2⟩ := h
  refine ⟨h1, _, waitFor_at ho, fun e he hb => ?_⟩
  unfold Oper.wait at he
  rcases Array.mem_append.1 he with he | he
  · exact h2 e he hb
  · simp only [List.mem_toArray, List.mem_map] at he
    obtain ⟨z, hz, rfl⟩ := he
    exact hZ z hz
/-- Whoever is ready with the wait is without. -/
theorem ready_of_wait {t j : Nat} {Z : List Nat} {listed : Array Bool} (h : j ∈ Region.ready .any (waitFor ops t Z) listed) : j ∈ Region.ready .any ops listed := by
  by_cases hj : j = t
  · subst hj
    rw [mem_ready] at *
    obtain ⟨h1, o, ho, h2⟩ := h
    cases ho2 : ops[j]? with
    | none =>
      have e : (waitFor ops j Z)[j]? = none := by unfold waitFor; simp [ho2]
      rw [e] at ho
      cases ho
    | some o2 =>
      rw [waitFor_at ho2] at ho
      cases ho
      exact ⟨h1, o2, rfl, fun e he hb => h2 e (by unfold Oper.wait; exact Array.mem_append.2 (.inl he)) hb⟩
  · exact (ready_wait_ne hj).1 h
/-- It takes a place out of a tuple, and is not guarded. -/
def takesApart (ops : Array Oper) (z : Nat) : Bool := match ops[z]? with
  | some o => (match o.op with | .extract _ _ => true | _ => false) && o.guard.isNone
  | none => false
theorem takesApart_spec {z : Nat} (h : takesApart ops z = true) : ∃ o x k, ops[z]? = some o ∧ o.op = .extract x k ∧ o.guard = none := by
  unfold takesApart at h
  cases ho : ops[z]? with
  | none => rw [ho] at h; cases h
  | some o =>
    rw [ho] at h
    simp only [Bool.and_eq_true, Option.isNone_iff_eq_none] at h
    cases hop : o.op <;> rw [hop] at h <;> first | (exact ⟨o, _, _, rfl, hop, h.2⟩) | (cases h.1)
theorem extract_run (x : Value) (k : Nat) : (∃ v, ∀ u, (Instr.extract x k).run P u = .ok v u) ∨ (∀ w', ∃ h, (Instr.extract x k).run P w' = .halt h w' ∧ ∀ c, h ≠ .panic c) := by
  cases x with
  | tuple vs =>
    cases hv : vs[k]? with
    | some v => exact .inl ⟨v, fun u => by simp [Instr.extract, hv]⟩
    | none => exact .inr fun w' => by simp [Instr.extract, hv]
  | _ => exact .inr fun w' => by simp [Instr.extract]
/-- What is asked of Z. -/
def lateOk (ops : Array Oper) (t : Nat) (Z : List Nat) : Bool :=
  Z.all fun z => takesApart ops z && z != t && ((List.range ops.size).all fun j => j == z || waits ops z j || waits ops j z || apartAt ops z j) && (List.range ops.size).all fun k => !waits ops z k || waits ops t k
theorem waits_listed {listed : Array Bool} {j k : Nat} (hj : j ∈ Region.ready .any ops listed) (hw : waits ops j k = true) : listed.getD k false = true := by
  obtain ⟨_, o, ho, h⟩ := mem_ready.1 hj
  unfold waits at hw
  rw [ho] at hw
  simp only [Option.map_some, Option.getD_some, Array.any_eq_true'] at hw
  obtain ⟨e, he, hb⟩ := hw
  simp only [Bool.and_eq_true, beq_iff_eq] at hb
  exact hb.2 ▸ h e he hb.1
theorem late_any (hs : Region.noSelect ops = true) (he2 : edgesOk ops = true) {t : Nat} {Z : List Nat} (hZ : lateOk ops t Z = true) (hL : ¬ LetsOut Q) (hQ : ∀ d v c a w, Q (.panic c) (Act.put a d v) w → Q (.panic c) a w) :
    ∀ (fuel : Nat) (listed : Array Bool) (a : Act) (w : World), listed.size = ops.size → wpAny P .any (waitFor ops t Z) Q fuel listed a w → wpAny P .any ops Q fuel listed a w := by
  unfold lateOk at hZ
  rw [List.all_eq_true] at hZ
  -- if t may come, and some of Z has not, that one may come
  have late : ∀ (listed : Array Bool), listed.size = ops.size → t ∈ Region.ready .any ops listed → (∀ z ∈ Z, listed.getD z false = true) ∨ ∃ z ∈ Z, z ∈ Region.ready .any ops listed := by
    intro listed hsz ht
    by_cases hall : ∀ z ∈ Z, listed.getD z false = true
    · exact .inl hall
    · right
      simp only [Classical.not_forall] at hall
      obtain ⟨z, hz, hu⟩ := hall
      have h := hZ z hz
      simp only [Bool.and_eq_true, List.all_eq_true, List.mem_range, Bool.or_eq_true, Bool.not_eq_true'] at h
      obtain ⟨o, x, k, ho, hop, hg⟩ := takesApart_spec h.1.1.1
      have hlt : z < ops.size := (Array.getElem?_eq_some_iff.1 ho).1
      refine ⟨z, hz, mem_ready.2 ⟨?_, o, ho, fun e he hb => ?_⟩⟩
      · have hlt2 : z < listed.size := by omega
        simp [hlt2] at hu ⊢
        exact hu
      · have hwz : waits ops z e.on = true := by
          unfold waits
          rw [ho]
          simp only [Option.map_some, Option.getD_some, Array.any_eq_true']
          exact ⟨e, he, by simp [hb]⟩
        rcases h.2 e.on (edgesOk_spec he2 ho he) with h' | h'
        · rw [h'] at hwz; cases hwz
        · exact waits_listed ht h'
  intro fuel
  induction fuel with
  | zero =>
    intro listed a w hsz H
    refine ⟨?_, H.2⟩
    cases hr : Region.ready .any ops listed with
    | nil => rfl
    | cons j r =>
      exfalso
      have hj : j ∈ Region.ready .any ops listed := by rw [hr]; exact List.mem_cons_self ..
      have hno : ∀ k, k ∉ Region.ready .any (waitFor ops t Z) listed := fun k hk => by rw [H.1] at hk; cases hk
      by_cases hjt : j = t
      · subst hjt
        rcases late listed hsz hj with h | ⟨z, hz, hzr⟩
        · exact hno _ (ready_wait_all h hj)
        · have h := hZ z hz
          simp only [Bool.and_eq_true, bne_iff_ne, ne_eq] at h
          exact hno _ ((ready_wait_ne h.1.1.2).2 hzr)
      · exact hno _ ((ready_wait_ne hjt).2 hj)
  | succ fuel ih =>
    intro listed a w hsz H
    by_cases hcase : t ∈ Region.ready .any ops listed ∧ ∃ z ∈ Z, z ∈ Region.ready .any ops listed
    · obtain ⟨_, z, hz, hzr⟩ := hcase
      have h := hZ z hz
      simp only [Bool.and_eq_true, bne_iff_ne, ne_eq] at h
      obtain ⟨⟨⟨h1, h2⟩, h3⟩, _⟩ := h
      obtain ⟨o, x, k, ho, hop, hg⟩ := takesApart_spec h1
      have H2 := wpOp_wait (H.2 z ((ready_wait_ne h2).2 hzr))
      unfold wpOp at H2
      rw [ho] at H2
      have hw : Region.wanted o (yielded ops a.tmps) = true := by unfold Region.wanted; rw [hg]
      simp only [hw, if_true] at H2
      rcases H2 with H2 | ⟨_, H2⟩
      · unfold Oper.wp at H2
        have e : ∀ u, (execOp a.eval o).run P u = ((Instr.extract (a.eval x) k) >>= fun v => (pure (.value v) : Sem Next)).run P u := fun u => by
          unfold execOp
          rw [hop]
        rcases extract_run (P := P) (a.eval x) k with ⟨v, hv⟩ | hv
        · have hy : Yields P ops o v a := .inl ⟨hw, fun u => by rw [e u, Sem.run_bind, hv u]; rfl⟩
          have hrun : (execOp a.eval o).run P w = .ok (.value v) w := by rw [e w, Sem.run_bind, hv w]; rfl
          rw [hrun] at H2
          simp only [Oper.upon] at H2
          have hfree : ∀ j oj, ops[j]? = some oj → j ≠ z → listed.getD j true = false → (∀ e ∈ oj.after, Region.binds .any e = true → e.on ≠ z) → o.apart ops oj = true := fun j oj hj hne hun hno =>
            by
              rw [List.all_eq_true] at h3
              have h4 := h3 j (List.mem_range.2 (Array.getElem?_eq_some_iff.1 hj).1)
              simp only [Bool.or_eq_true, beq_iff_eq] at h4
              rcases h4 with ((h4 | h4) | h4) | h4
              · exact absurd h4 hne
              · exfalso
                have h5 := waits_listed hzr h4
                have hlt : j < listed.size := by rw [hsz]; exact (Array.getElem?_eq_some_iff.1 hj).1
                simp [hlt] at h5 hun
                rw [h5] at hun
                cases hun
              · exfalso
                unfold waits at h4
                rw [hj] at h4
                simp only [Option.map_some, Option.getD_some, Array.any_eq_true'] at h4
                obtain ⟨e, he, hb⟩ := h4
                simp only [Bool.and_eq_true, beq_iff_eq] at hb
                exact hno e he hb.1 hb.2
              · simpa [apartAt, ho, hj] using h4
          exact wpAny_first ho (Region.noSelect_spec hs) (fun c a w hq => hQ o.dst v c a w hq) fuel listed a w hfree hzr hy (ih _ _ _ (by simpa using hsz) H2)
        · exfalso
          obtain ⟨hh, he, hp⟩ := hv w
          have hrun : (execOp a.eval o).run P w = .halt hh w := by rw [e w, Sem.run_bind, he]; rfl
          rw [hrun] at H2
          cases hh with
          | panic c => exact hp c rfl
          | _ => exact H2.elim
      · exact absurd H2 hL
    · refine ⟨fun hr => H.1 ?_, fun j hj => ?_⟩
      · cases hr2 : Region.ready .any (waitFor ops t Z) listed with
        | nil => rfl
        | cons j r =>
          have : j ∈ Region.ready .any ops listed := ready_of_wait (by rw [hr2]; exact List.mem_cons_self ..)
          rw [hr] at this
          cases this
      · have hj2 : j ∈ Region.ready .any (waitFor ops t Z) listed := by
          by_cases hjt : j = t
          · subst hjt
            rcases late listed hsz hj with h | h
            · exact ready_wait_all h hj
            · exact absurd ⟨hj, h⟩ hcase
          · exact (ready_wait_ne hjt).2 hj
        exact wpOp_mono (fun a' w' h => ih _ a' w' (by simpa using hsz) h) (wpOp_wait (H.2 j hj2))

theorem DoesB.wait {t : Nat} {Z : List Nat} {o : Oper} {v : Value} {a : Act} (h : DoesB P ops S o v a) : DoesB P (waitFor ops t Z) S o v a := by
  unfold DoesB at *
  rw [yielded_wait]
  exact h
theorem PlanB.wait {t : Nat} {Z : List Nat} {E' : Act → Prop} (hE : ∀ a, E a → E' a) : ∀ {l : List Nat} {a : Act}, (∀ i ∈ l, i ≠ t) → PlanB P ops S E l a → PlanB P (waitFor ops t Z) S E' l a
  | [], a, _, h => hE a h
  | i :: r, a, hl, h => by
    obtain ⟨o, v, ho, hd, hr⟩ := h
    exact ⟨o, v, (waitFor_ne (hl i (List.mem_cons_self ..))).trans ho, hd.wait, PlanB.wait hE (fun k hk => hl k (List.mem_cons_of_mem _ hk)) hr⟩
theorem wpList_waitFor {t : Nat} {Z : List Nat} : ∀ (T : List Nat) (a : Act) (w : World), wpList P ops Q (opsOf ops T) a w → wpList P (waitFor ops t Z) Q (opsOf (waitFor ops t Z) T) a w
  | [], _, _, h => h
  | i :: r, a, w, h => by
    have ih := fun a w => wpList_waitFor (t := t) (Z := Z) r a w
    unfold opsOf at h ⊢
    cases ho : ops[i]? with
    | none =>
      have e : (waitFor ops t Z)[i]? = none := by unfold waitFor; simp [ho]
      rw [ho] at h
      rw [e]
      exact ih a w h
    | some o =>
      have e : ∃ o', (waitFor ops t Z)[i]? = some o' ∧ (o' = o ∨ o' = Oper.wait o Z) := by
        by_cases hi : i = t
        · subst hi; exact ⟨_, waitFor_at ho, .inr rfl⟩
        · exact ⟨o, (waitFor_ne hi).trans ho, .inl rfl⟩
      obtain ⟨o', e, ho'⟩ := e
      rw [ho] at h
      rw [e]
      have hw : Region.wanted o' (yielded (waitFor ops t Z) a.tmps) = Region.wanted o (yielded ops a.tmps) := by
        rw [yielded_wait]
        rcases ho' with rfl | rfl <;> rfl
      simp only [wpList] at h ⊢
      rw [hw]
      split
      · rename_i h1
        rw [if_pos h1] at h
        rcases h with h | h
        · left
          have := Oper.wp_mono (fun a w => ih a w) h
          rcases ho' with rfl | rfl
          · exact this
          · exact this
        · right
          rcases ho' with rfl | rfl
          · exact h
          · exact h
      · rename_i h1
        rw [if_neg h1] at h
        rcases ho' with rfl | rfl
        · exact ih _ _ h
        · exact ih _ _ h
theorem pa_wait {t : Nat} {Z : List Nat} (c : Nat → Nat) : ∀ (l : List Nat) (a : Act), pa (waitFor ops t Z) c l a = pa ops c l a
  | [], _ => rfl
  | i :: r, a => by
    unfold pa
    have e : dstOf (waitFor ops t Z) i = dstOf ops i := waitFor_dst
    rw [e]
    exact pa_wait c r _
/-- region_allocs, where places of tuples are taken late: the first of the tail waits for Z. -/
theorem region_allocsL {id : Nat} {l A T : List Nat} {ft : Nat} {Z : List Nat} {t : TypeId} {z : Array Value} {base : Nat} {a : Act} {w : World} (hm : P.follows .mixedOrders = true) (hs0 : Region.noSelect ops = true) (he0 : edgesOk ops = true) (hZ : lateOk ops ft Z = true) (hs : Region.noSelect (waitFor ops ft Z) = true) (he2 : edgesOk (waitFor ops ft Z) = true)
    (hT : tailOk (waitFor ops ft Z) T = true) (hok : okPlan (waitFor ops ft Z) l = true) (hall : (List.range (waitFor ops ft Z).size).all (fun k => l.contains k || (A ++ T).contains k) = true) (hlt : (l ++ (A ++ T)).all (fun k => decide (k < (waitFor ops ft Z).size)) = true)
    (hap : l.all (fun k => !(A ++ T).contains k && (A ++ T).all fun j => !waits (waitFor ops ft Z) k j) = true) (hlen : (l.length + A.length + T.length == (waitFor ops ft Z).size) = true) (hc : allocOk2 (waitFor ops ft Z) l A T = true)
    (hL : ¬ LetsOut Q) (hQ : ∀ d v c a w, Q (.panic c) (Act.put a d v) w → Q (.panic c) a w)
    (hft : (A.all (fun i => i != ft) && l.all (fun i => i != ft)) = true) (hal : ∀ i ∈ A, ∃ o, ops[i]? = some o ∧ o.guard = none ∧ ∀ (a : Act) (w : World), (execOp a.eval o).run P w = .ok (.value (ptr w.heap.size)) (w.alloc (.cells z t)))
    (hSB : ∀ w w', S w → Below w.heap.size w w' → S w') (hbase : ∀ w, S w → base ≤ w.heap.size) (hS : S w.drew)
    (hp : PlanB P ops S (AtTail S t z base ops (wpList P ops Q (opsOf ops T)) [] (fun _ => 0) A) l a) : (Code.region id ops true).wp P Q a w := by
  refine wp_region_any hm ?_
  refine late_any hs0 he0 hZ hL hQ ops.size _ a _ (by simp) ?_
  simp only [allocOk2, Bool.and_eq_true, List.all_eq_true, List.any_eq_true, Bool.not_eq_true', Bool.or_eq_true, beq_iff_eq, decide_eq_true_eq] at hc
  obtain ⟨⟨h1, h2⟩, h3⟩ := hc
  have hl := left_of_replicate hok hall hlt hap
  simp only [Bool.and_eq_true, List.all_eq_true, bne_iff_ne, ne_eq] at hft
  have hp := PlanB.wait (t := ft) (Z := Z) (E' := AtTail S t z base (waitFor ops ft Z) (wpList P (waitFor ops ft Z) Q (opsOf (waitFor ops ft Z) T)) [] (fun _ => 0) A) (fun a' h c hc w' hS' hB hI => by
    rw [pa_wait]
    exact wpList_waitFor T _ _ (h c hc w' hS' hB hI)) (fun i hi => hft.2 i hi) hp
  have hal : ∀ i ∈ A, ∃ o, (waitFor ops ft Z)[i]? = some o ∧ o.guard = none ∧ ∀ (a : Act) (w : World), (execOp a.eval o).run P w = .ok (.value (ptr w.heap.size)) (w.alloc (.cells z t)) := fun i hi => by
    obtain ⟨o, ho, h⟩ := hal i hi
    exact ⟨o, (waitFor_ne (hft.1 i hi)).trans ho, h⟩
  have hsz : (waitFor ops ft Z).size = ops.size := by unfold waitFor; simp
  have := allocs_any2 hs he2 hT hSB hbase (waitFor ops ft Z).size l A [] (fun _ => 0) _ a _ (by simpa using (beq_iff_eq.1 hlen).symm) hl hal (by
    intro i hi k hk
    exact (h1 i hi).1.1.1 k (by rcases hk with hk | hk; exact List.mem_append_left _ hk; exact List.mem_append_right _ hk)) (fun i hi k hk => (h1 i hi).1.1.2 k hk) (by
    intro i hi k hk hne
    rcases (h1 i hi).1.2 k hk with e | e
    · exact absurd e hne
    · exact e) (by
    intro i hi
    have := (h1 i hi).2
    exact ⟨by simpa using this, by simp⟩) h3 (fun i hi => (h2 i hi).imp (fun h => h) fun h => ⟨h.1, fun k hk => h.2 k hk⟩) hp hS (fun i hi => by cases hi) (fun i hi => by cases hi)
  rw [hsz] at this
  exact this
end

end Go.Proofs.YtcbepibdeokboaaGreat

namespace Go.Proofs.YtcbepibdeokboaaGreat
open Go.RowKit
set_option maxRecDepth 4000
set_option linter.unusedVariables false

theorem at4_00 (X : Nat → Int) (w : World) : Calls Tryz.prog 65 #[.agg (m9 X), .int .i64 0, .int .i64 0] w fun e w' => e = .returned (.int .i64 (X 0)) ∧ Below w.heap.size w w' := by
  go_enter Tryz.func65, Tryz.ntmps65
  go_upto_region 1 with fail
  have D := hide ((Gen.start w).push 27 (m9 X))
  go_wp2_with (first | (with_reducible refine at_list ?_; apply ldF (unhide D) _ rfl rfl rfl (by repeat (first | exact List.mem_cons_self | apply List.mem_cons_of_mem)) rfl) | (with_reducible refine at_list ?_;  refine wpList_value rfl (exec_ix3 (k := 0) _ (.tmp 10) (.tmp 9) (by decide) rfl rfl rfl) ?_))
  go_ret
  exact ⟨rfl, (unhide D).o⟩
theorem at4_01 (X : Nat → Int) (w : World) : Calls Tryz.prog 65 #[.agg (m9 X), .int .i64 0, .int .i64 1] w fun e w' => e = .returned (.int .i64 (X 1)) ∧ Below w.heap.size w w' := by
  go_enter Tryz.func65, Tryz.ntmps65
  go_upto_region 1 with fail
  have D := hide ((Gen.start w).push 27 (m9 X))
  go_wp2_with (first | (with_reducible refine at_list ?_; apply ldF (unhide D) _ rfl rfl rfl (by repeat (first | exact List.mem_cons_self | apply List.mem_cons_of_mem)) rfl) | (with_reducible refine at_list ?_;  refine wpList_value rfl (exec_ix3 (k := 0) _ (.tmp 17) (.tmp 16) (by decide) rfl rfl rfl) ?_))
  go_ret
  exact ⟨rfl, (unhide D).o⟩
theorem at4_02 (X : Nat → Int) (w : World) : Calls Tryz.prog 65 #[.agg (m9 X), .int .i64 0, .int .i64 2] w fun e w' => e = .returned (.int .i64 (X 2)) ∧ Below w.heap.size w w' := by
  go_enter Tryz.func65, Tryz.ntmps65
  go_upto_region 1 with fail
  have D := hide ((Gen.start w).push 27 (m9 X))
  go_wp2_with (first | (with_reducible refine at_list ?_; apply ldF (unhide D) _ rfl rfl rfl (by repeat (first | exact List.mem_cons_self | apply List.mem_cons_of_mem)) rfl) | (with_reducible refine at_list ?_;  refine wpList_value rfl (exec_ix3 (k := 0) _ (.tmp 22) (.tmp 21) (by decide) rfl rfl rfl) ?_))
  go_ret
  exact ⟨rfl, (unhide D).o⟩
theorem at4_10 (X : Nat → Int) (w : World) : Calls Tryz.prog 65 #[.agg (m9 X), .int .i64 1, .int .i64 0] w fun e w' => e = .returned (.int .i64 (X 3)) ∧ Below w.heap.size w w' := by
  go_enter Tryz.func65, Tryz.ntmps65
  go_upto_region 1 with fail
  have D := hide ((Gen.start w).push 27 (m9 X))
  go_wp2_with (first | (with_reducible refine at_list ?_; apply ldF (unhide D) _ rfl rfl rfl (by repeat (first | exact List.mem_cons_self | apply List.mem_cons_of_mem)) rfl) | (with_reducible refine at_list ?_;  refine wpList_value rfl (exec_ix3 (k := 1) _ (.tmp 10) (.tmp 9) (by decide) rfl rfl rfl) ?_))
  go_ret
  exact ⟨rfl, (unhide D).o⟩
theorem at4_11 (X : Nat → Int) (w : World) : Calls Tryz.prog 65 #[.agg (m9 X), .int .i64 1, .int .i64 1] w fun e w' => e = .returned (.int .i64 (X 4)) ∧ Below w.heap.size w w' := by
  go_enter Tryz.func65, Tryz.ntmps65
  go_upto_region 1 with fail
  have D := hide ((Gen.start w).push 27 (m9 X))
  go_wp2_with (first | (with_reducible refine at_list ?_; apply ldF (unhide D) _ rfl rfl rfl (by repeat (first | exact List.mem_cons_self | apply List.mem_cons_of_mem)) rfl) | (with_reducible refine at_list ?_;  refine wpList_value rfl (exec_ix3 (k := 1) _ (.tmp 17) (.tmp 16) (by decide) rfl rfl rfl) ?_))
  go_ret
  exact ⟨rfl, (unhide D).o⟩
theorem at4_12 (X : Nat → Int) (w : World) : Calls Tryz.prog 65 #[.agg (m9 X), .int .i64 1, .int .i64 2] w fun e w' => e = .returned (.int .i64 (X 5)) ∧ Below w.heap.size w w' := by
  go_enter Tryz.func65, Tryz.ntmps65
  go_upto_region 1 with fail
  have D := hide ((Gen.start w).push 27 (m9 X))
  go_wp2_with (first | (with_reducible refine at_list ?_; apply ldF (unhide D) _ rfl rfl rfl (by repeat (first | exact List.mem_cons_self | apply List.mem_cons_of_mem)) rfl) | (with_reducible refine at_list ?_;  refine wpList_value rfl (exec_ix3 (k := 1) _ (.tmp 22) (.tmp 21) (by decide) rfl rfl rfl) ?_))
  go_ret
  exact ⟨rfl, (unhide D).o⟩
theorem at4_20 (X : Nat → Int) (w : World) : Calls Tryz.prog 65 #[.agg (m9 X), .int .i64 2, .int .i64 0] w fun e w' => e = .returned (.int .i64 (X 6)) ∧ Below w.heap.size w w' := by
  go_enter Tryz.func65, Tryz.ntmps65
  go_upto_region 1 with fail
  have D := hide ((Gen.start w).push 27 (m9 X))
  go_wp2_with (first | (with_reducible refine at_list ?_; apply ldF (unhide D) _ rfl rfl rfl (by repeat (first | exact List.mem_cons_self | apply List.mem_cons_of_mem)) rfl) | (with_reducible refine at_list ?_;  refine wpList_value rfl (exec_ix3 (k := 2) _ (.tmp 10) (.tmp 9) (by decide) rfl rfl rfl) ?_))
  go_ret
  exact ⟨rfl, (unhide D).o⟩
theorem at4_21 (X : Nat → Int) (w : World) : Calls Tryz.prog 65 #[.agg (m9 X), .int .i64 2, .int .i64 1] w fun e w' => e = .returned (.int .i64 (X 7)) ∧ Below w.heap.size w w' := by
  go_enter Tryz.func65, Tryz.ntmps65
  go_upto_region 1 with fail
  have D := hide ((Gen.start w).push 27 (m9 X))
  go_wp2_with (first | (with_reducible refine at_list ?_; apply ldF (unhide D) _ rfl rfl rfl (by repeat (first | exact List.mem_cons_self | apply List.mem_cons_of_mem)) rfl) | (with_reducible refine at_list ?_;  refine wpList_value rfl (exec_ix3 (k := 2) _ (.tmp 17) (.tmp 16) (by decide) rfl rfl rfl) ?_))
  go_ret
  exact ⟨rfl, (unhide D).o⟩
theorem at4_22 (X : Nat → Int) (w : World) : Calls Tryz.prog 65 #[.agg (m9 X), .int .i64 2, .int .i64 2] w fun e w' => e = .returned (.int .i64 (X 8)) ∧ Below w.heap.size w w' := by
  go_enter Tryz.func65, Tryz.ntmps65
  go_upto_region 1 with fail
  have D := hide ((Gen.start w).push 27 (m9 X))
  go_wp2_with (first | (with_reducible refine at_list ?_; apply ldF (unhide D) _ rfl rfl rfl (by repeat (first | exact List.mem_cons_self | apply List.mem_cons_of_mem)) rfl) | (with_reducible refine at_list ?_;  refine wpList_value rfl (exec_ix3 (k := 2) _ (.tmp 22) (.tmp 21) (by decide) rfl rfl rfl) ?_))
  go_ret
  exact ⟨rfl, (unhide D).o⟩
set_option maxHeartbeats 2000000 in
theorem column4_0 (X : Nat → Int) (w : World) : Calls Tryz.prog 42 #[.agg (m9 X), .int .i64 0] w fun e w' => e = .returned (.agg (v3 (X 0) (X 3) (X 6))) ∧ Below w.heap.size w w' := by
  have h0 : Hid (Ans 65 #[.agg (m9 X), .int .i64 0, .int .i64 0] (.int .i64 (X 0))) := fun u => at4_00 X u
  have h1 : Hid (Ans 65 #[.agg (m9 X), .int .i64 1, .int .i64 0] (.int .i64 (X 3))) := fun u => at4_10 X u
  have h2 : Hid (Ans 65 #[.agg (m9 X), .int .i64 2, .int .i64 0] (.int .i64 (X 6))) := fun u => at4_20 X u
  go_enter Tryz.func42, Tryz.ntmps42
  go_upto_region 1 with fail
  have D := hide (((Gen.start w).push 27 (m9 X)).push 24 (v3 0 0 0))
  simp only [szA] at D
  refine region_last (S := Gen w _) (f := 10) (l := [0, 1, 2, 3, 4, 5, 6, 7, 8, 9]) (by kernel_rfl) (by kernel_rfl) (by kernel_rfl) (by kernel_rfl) (by kernel_rfl) (by kernel_rfl) (by kernel_rfl) (by kernel_rfl) (by kernel_rfl) (by kernel_rfl) rfl rfl (unhide D).drew ?_
  clear D
  refine plan_read (v := .agg (m9 X)) rfl rfl (fun u hS => exec_loadG hS rMat _ rfl rfl (by repeat (first | exact List.mem_cons_self | apply List.mem_cons_of_mem)) rfl) ?_
  try go_simp
  refine plan_read (v := .int .i64 0) rfl rfl (fun u hS => by go_simp) ?_
  try go_simp
  refine plan_call (v := .int .i64 (X 0)) (f := 65) (args := #[.agg (m9 X), .int .i64 0, .int .i64 0]) rfl rfl (fun u hS => by go_simp) (fun u hS => (unhide h0 u).mono fun _ _ ⟨he, hb⟩ => ⟨he, hS.keep hb⟩) ?_
  try go_simp
  refine plan_read (v := .agg (m9 X)) rfl rfl (fun u hS => exec_loadG hS rMat _ rfl rfl (by repeat (first | exact List.mem_cons_self | apply List.mem_cons_of_mem)) rfl) ?_
  try go_simp
  refine plan_read (v := .int .i64 0) rfl rfl (fun u hS => by go_simp) ?_
  try go_simp
  refine plan_call (v := .int .i64 (X 3)) (f := 65) (args := #[.agg (m9 X), .int .i64 1, .int .i64 0]) rfl rfl (fun u hS => by go_simp) (fun u hS => (unhide h1 u).mono fun _ _ ⟨he, hb⟩ => ⟨he, hS.keep hb⟩) ?_
  try go_simp
  refine plan_read (v := .agg (m9 X)) rfl rfl (fun u hS => exec_loadG hS rMat _ rfl rfl (by repeat (first | exact List.mem_cons_self | apply List.mem_cons_of_mem)) rfl) ?_
  try go_simp
  refine plan_read (v := .int .i64 0) rfl rfl (fun u hS => by go_simp) ?_
  try go_simp
  refine plan_call (v := .int .i64 (X 6)) (f := 65) (args := #[.agg (m9 X), .int .i64 2, .int .i64 0]) rfl rfl (fun u hS => by go_simp) (fun u hS => (unhide h2 u).mono fun _ _ ⟨he, hb⟩ => ⟨he, hS.keep hb⟩) ?_
  try go_simp
  refine plan_read (v := .agg (v3 (X 0) (X 3) (X 6))) rfl rfl (fun u hS => by go_simp) ?_
  try go_simp
  refine plan_last (fun u hS => ?_)
  refine wp_store_row 24 (.tmp 4) (.tmp 14) rfl _ (v3 (X 0) (X 3) (X 6)) rfl rfl 24 (v3 0 0 0) (hS.blk (by repeat (first | exact List.mem_cons_self | apply List.mem_cons_of_mem))) iVec3 rfl (v3_one _ _ _) ?_
  have B := hide ((hS.blk (g := w.heap.size + 1) (t := 24) (cs := (v3 0 0 0)) (by repeat (first | exact List.mem_cons_self | apply List.mem_cons_of_mem))).row (v3 (X 0) (X 3) (X 6)))
  have O := hide (below_row hS.o (show w.heap.size ≤ w.heap.size + 1 by omega) (v3 (X 0) (X 3) (X 6)))
  clear hS
  go_wp2
  exact resG rVec (unhide B) rfl rfl rfl rfl ⟨rfl, unhide O⟩
set_option maxHeartbeats 2000000 in
theorem column4_1 (X : Nat → Int) (w : World) : Calls Tryz.prog 42 #[.agg (m9 X), .int .i64 1] w fun e w' => e = .returned (.agg (v3 (X 1) (X 4) (X 7))) ∧ Below w.heap.size w w' := by
  have h0 : Hid (Ans 65 #[.agg (m9 X), .int .i64 0, .int .i64 1] (.int .i64 (X 1))) := fun u => at4_01 X u
  have h1 : Hid (Ans 65 #[.agg (m9 X), .int .i64 1, .int .i64 1] (.int .i64 (X 4))) := fun u => at4_11 X u
  have h2 : Hid (Ans 65 #[.agg (m9 X), .int .i64 2, .int .i64 1] (.int .i64 (X 7))) := fun u => at4_21 X u
  go_enter Tryz.func42, Tryz.ntmps42
  go_upto_region 1 with fail
  have D := hide (((Gen.start w).push 27 (m9 X)).push 24 (v3 0 0 0))
  simp only [szA] at D
  refine region_last (S := Gen w _) (f := 10) (l := [0, 1, 2, 3, 4, 5, 6, 7, 8, 9]) (by kernel_rfl) (by kernel_rfl) (by kernel_rfl) (by kernel_rfl) (by kernel_rfl) (by kernel_rfl) (by kernel_rfl) (by kernel_rfl) (by kernel_rfl) (by kernel_rfl) rfl rfl (unhide D).drew ?_
  clear D
  refine plan_read (v := .agg (m9 X)) rfl rfl (fun u hS => exec_loadG hS rMat _ rfl rfl (by repeat (first | exact List.mem_cons_self | apply List.mem_cons_of_mem)) rfl) ?_
  try go_simp
  refine plan_read (v := .int .i64 1) rfl rfl (fun u hS => by go_simp) ?_
  try go_simp
  refine plan_call (v := .int .i64 (X 1)) (f := 65) (args := #[.agg (m9 X), .int .i64 0, .int .i64 1]) rfl rfl (fun u hS => by go_simp) (fun u hS => (unhide h0 u).mono fun _ _ ⟨he, hb⟩ => ⟨he, hS.keep hb⟩) ?_
  try go_simp
  refine plan_read (v := .agg (m9 X)) rfl rfl (fun u hS => exec_loadG hS rMat _ rfl rfl (by repeat (first | exact List.mem_cons_self | apply List.mem_cons_of_mem)) rfl) ?_
  try go_simp
  refine plan_read (v := .int .i64 1) rfl rfl (fun u hS => by go_simp) ?_
  try go_simp
  refine plan_call (v := .int .i64 (X 4)) (f := 65) (args := #[.agg (m9 X), .int .i64 1, .int .i64 1]) rfl rfl (fun u hS => by go_simp) (fun u hS => (unhide h1 u).mono fun _ _ ⟨he, hb⟩ => ⟨he, hS.keep hb⟩) ?_
  try go_simp
  refine plan_read (v := .agg (m9 X)) rfl rfl (fun u hS => exec_loadG hS rMat _ rfl rfl (by repeat (first | exact List.mem_cons_self | apply List.mem_cons_of_mem)) rfl) ?_
  try go_simp
  refine plan_read (v := .int .i64 1) rfl rfl (fun u hS => by go_simp) ?_
  try go_simp
  refine plan_call (v := .int .i64 (X 7)) (f := 65) (args := #[.agg (m9 X), .int .i64 2, .int .i64 1]) rfl rfl (fun u hS => by go_simp) (fun u hS => (unhide h2 u).mono fun _ _ ⟨he, hb⟩ => ⟨he, hS.keep hb⟩) ?_
  try go_simp
  refine plan_read (v := .agg (v3 (X 1) (X 4) (X 7))) rfl rfl (fun u hS => by go_simp) ?_
  try go_simp
  refine plan_last (fun u hS => ?_)
  refine wp_store_row 24 (.tmp 4) (.tmp 14) rfl _ (v3 (X 1) (X 4) (X 7)) rfl rfl 24 (v3 0 0 0) (hS.blk (by repeat (first | exact List.mem_cons_self | apply List.mem_cons_of_mem))) iVec3 rfl (v3_one _ _ _) ?_
  have B := hide ((hS.blk (g := w.heap.size + 1) (t := 24) (cs := (v3 0 0 0)) (by repeat (first | exact List.mem_cons_self | apply List.mem_cons_of_mem))).row (v3 (X 1) (X 4) (X 7)))
  have O := hide (below_row hS.o (show w.heap.size ≤ w.heap.size + 1 by omega) (v3 (X 1) (X 4) (X 7)))
  clear hS
  go_wp2
  exact resG rVec (unhide B) rfl rfl rfl rfl ⟨rfl, unhide O⟩
set_option maxHeartbeats 2000000 in
theorem column4_2 (X : Nat → Int) (w : World) : Calls Tryz.prog 42 #[.agg (m9 X), .int .i64 2] w fun e w' => e = .returned (.agg (v3 (X 2) (X 5) (X 8))) ∧ Below w.heap.size w w' := by
  have h0 : Hid (Ans 65 #[.agg (m9 X), .int .i64 0, .int .i64 2] (.int .i64 (X 2))) := fun u => at4_02 X u
  have h1 : Hid (Ans 65 #[.agg (m9 X), .int .i64 1, .int .i64 2] (.int .i64 (X 5))) := fun u => at4_12 X u
  have h2 : Hid (Ans 65 #[.agg (m9 X), .int .i64 2, .int .i64 2] (.int .i64 (X 8))) := fun u => at4_22 X u
  go_enter Tryz.func42, Tryz.ntmps42
  go_upto_region 1 with fail
  have D := hide (((Gen.start w).push 27 (m9 X)).push 24 (v3 0 0 0))
  simp only [szA] at D
  refine region_last (S := Gen w _) (f := 10) (l := [0, 1, 2, 3, 4, 5, 6, 7, 8, 9]) (by kernel_rfl) (by kernel_rfl) (by kernel_rfl) (by kernel_rfl) (by kernel_rfl) (by kernel_rfl) (by kernel_rfl) (by kernel_rfl) (by kernel_rfl) (by kernel_rfl) rfl rfl (unhide D).drew ?_
  clear D
  refine plan_read (v := .agg (m9 X)) rfl rfl (fun u hS => exec_loadG hS rMat _ rfl rfl (by repeat (first | exact List.mem_cons_self | apply List.mem_cons_of_mem)) rfl) ?_
  try go_simp
  refine plan_read (v := .int .i64 2) rfl rfl (fun u hS => by go_simp) ?_
  try go_simp
  refine plan_call (v := .int .i64 (X 2)) (f := 65) (args := #[.agg (m9 X), .int .i64 0, .int .i64 2]) rfl rfl (fun u hS => by go_simp) (fun u hS => (unhide h0 u).mono fun _ _ ⟨he, hb⟩ => ⟨he, hS.keep hb⟩) ?_
  try go_simp
  refine plan_read (v := .agg (m9 X)) rfl rfl (fun u hS => exec_loadG hS rMat _ rfl rfl (by repeat (first | exact List.mem_cons_self | apply List.mem_cons_of_mem)) rfl) ?_
  try go_simp
  refine plan_read (v := .int .i64 2) rfl rfl (fun u hS => by go_simp) ?_
  try go_simp
  refine plan_call (v := .int .i64 (X 5)) (f := 65) (args := #[.agg (m9 X), .int .i64 1, .int .i64 2]) rfl rfl (fun u hS => by go_simp) (fun u hS => (unhide h1 u).mono fun _ _ ⟨he, hb⟩ => ⟨he, hS.keep hb⟩) ?_
  try go_simp
  refine plan_read (v := .agg (m9 X)) rfl rfl (fun u hS => exec_loadG hS rMat _ rfl rfl (by repeat (first | exact List.mem_cons_self | apply List.mem_cons_of_mem)) rfl) ?_
  try go_simp
  refine plan_read (v := .int .i64 2) rfl rfl (fun u hS => by go_simp) ?_
  try go_simp
  refine plan_call (v := .int .i64 (X 8)) (f := 65) (args := #[.agg (m9 X), .int .i64 2, .int .i64 2]) rfl rfl (fun u hS => by go_simp) (fun u hS => (unhide h2 u).mono fun _ _ ⟨he, hb⟩ => ⟨he, hS.keep hb⟩) ?_
  try go_simp
  refine plan_read (v := .agg (v3 (X 2) (X 5) (X 8))) rfl rfl (fun u hS => by go_simp) ?_
  try go_simp
  refine plan_last (fun u hS => ?_)
  refine wp_store_row 24 (.tmp 4) (.tmp 14) rfl _ (v3 (X 2) (X 5) (X 8)) rfl rfl 24 (v3 0 0 0) (hS.blk (by repeat (first | exact List.mem_cons_self | apply List.mem_cons_of_mem))) iVec3 rfl (v3_one _ _ _) ?_
  have B := hide ((hS.blk (g := w.heap.size + 1) (t := 24) (cs := (v3 0 0 0)) (by repeat (first | exact List.mem_cons_self | apply List.mem_cons_of_mem))).row (v3 (X 2) (X 5) (X 8)))
  have O := hide (below_row hS.o (show w.heap.size ≤ w.heap.size + 1 by omega) (v3 (X 2) (X 5) (X 8)))
  clear hS
  go_wp2
  exact resG rVec (unhide B) rfl rfl rfl rfl ⟨rfl, unhide O⟩
theorem RRowsT (X : Nat → Int) : Ans 20 #[.agg (v3 (X 0) (X 3) (X 6)), .agg (v3 (X 1) (X 4) (X 7)), .agg (v3 (X 2) (X 5) (X 8))] (.agg (m9 (tr X))) := RRowsZ (X 0) (X 3) (X 6) (X 1) (X 4) (X 7) (X 2) (X 5) (X 8)
set_option maxHeartbeats 2000000 in
theorem rturned_core (X : Nat → Int) (w : World) : Calls Tryz.prog 19 #[.agg (m9 X)] w fun e w' => e = .returned (.agg (m9 (tr X))) ∧ Below w.heap.size w w' := by
  have h0 : Hid (Ans 42 #[.agg (m9 X), .int .i64 0] (.agg (v3 (X 0) (X 3) (X 6)))) := fun u => column4_0 X u
  have h1 : Hid (Ans 42 #[.agg (m9 X), .int .i64 1] (.agg (v3 (X 1) (X 4) (X 7)))) := fun u => column4_1 X u
  have h2 : Hid (Ans 42 #[.agg (m9 X), .int .i64 2] (.agg (v3 (X 2) (X 5) (X 8)))) := fun u => column4_2 X u
  have hR := hide (RRowsT X)
  go_enter Tryz.func19, Tryz.ntmps19
  go_upto_region 1 with fail
  have D := hide (((Gen.start w).push 27 (m9 X)).push 27 zM)
  simp only [szA] at D
  refine region_last (S := Gen w _) (f := 7) (l := [0, 1, 2, 3, 4, 5, 6]) (by kernel_rfl) (by kernel_rfl) (by kernel_rfl) (by kernel_rfl) (by kernel_rfl) (by kernel_rfl) (by kernel_rfl) (by kernel_rfl) (by kernel_rfl) (by kernel_rfl) rfl rfl (unhide D).drew ?_
  clear D
  refine plan_read (v := .agg (m9 X)) rfl rfl (fun u hS => exec_loadG (g := w.heap.size) (cs := m9 X) hS rMat _ rfl rfl (by repeat (first | exact List.mem_cons_self | apply List.mem_cons_of_mem)) rfl) ?_
  try go_simp
  refine plan_call (v := .agg (v3 (X 0) (X 3) (X 6))) (f := 42) (args := #[.agg (m9 X), .int .i64 0]) rfl rfl (fun u hS => by go_simp) (fun u hS => (unhide h0 u).mono fun _ _ ⟨he, hb⟩ => ⟨he, hS.keep hb⟩) ?_
  try go_simp
  refine plan_read (v := .agg (m9 X)) rfl rfl (fun u hS => exec_loadG (g := w.heap.size) (cs := m9 X) hS rMat _ rfl rfl (by repeat (first | exact List.mem_cons_self | apply List.mem_cons_of_mem)) rfl) ?_
  try go_simp
  refine plan_call (v := .agg (v3 (X 1) (X 4) (X 7))) (f := 42) (args := #[.agg (m9 X), .int .i64 1]) rfl rfl (fun u hS => by go_simp) (fun u hS => (unhide h1 u).mono fun _ _ ⟨he, hb⟩ => ⟨he, hS.keep hb⟩) ?_
  try go_simp
  refine plan_read (v := .agg (m9 X)) rfl rfl (fun u hS => exec_loadG (g := w.heap.size) (cs := m9 X) hS rMat _ rfl rfl (by repeat (first | exact List.mem_cons_self | apply List.mem_cons_of_mem)) rfl) ?_
  try go_simp
  refine plan_call (v := .agg (v3 (X 2) (X 5) (X 8))) (f := 42) (args := #[.agg (m9 X), .int .i64 2]) rfl rfl (fun u hS => by go_simp) (fun u hS => (unhide h2 u).mono fun _ _ ⟨he, hb⟩ => ⟨he, hS.keep hb⟩) ?_
  try go_simp
  refine plan_call (v := .agg (m9 (tr X))) (f := 20) (args := #[.agg (v3 (X 0) (X 3) (X 6)), .agg (v3 (X 1) (X 4) (X 7)), .agg (v3 (X 2) (X 5) (X 8))]) rfl rfl (fun u hS => by go_simp) (fun u hS => (unhide hR u).mono fun _ _ ⟨he, hb⟩ => ⟨he, hS.keep hb⟩) ?_
  try go_simp
  refine plan_last (fun u hS => ?_)
  have B0 := hide (hS.blk (g := w.heap.size + 1) (t := 27) (cs := zM) (by repeat (first | exact List.mem_cons_self | apply List.mem_cons_of_mem)))
  refine wp_store_row 27 (.tmp 2) (.tmp 9) rfl _ (m9 (tr X)) rfl rfl 27 zM (unhide B0) rMat.i rfl (m9_one _) ?_
  have B := hide ((unhide B0).row (m9 (tr X)))
  have O := hide (below_row hS.o (show w.heap.size ≤ w.heap.size + 1 by omega) (m9 (tr X)))
  clear hS B0
  go_wp2
  exact resG rMat (unhide B) rfl rfl rfl rfl ⟨rfl, unhide O⟩
theorem RTurnedZ (X : Nat → Int) : Ans 19 #[.agg (m9 X)] (.agg (m9 (tr X))) := fun w => rturned_core X w
theorem RRowsF (f : Nat → Int) : Ans 20 #[.agg (v3 (f 0) (f 1) (f 2)), .agg (v3 (f 3) (f 4) (f 5)), .agg (v3 (f 6) (f 7) (f 8))] (.agg (m9 f)) := RRowsZ (f 0) (f 1) (f 2) (f 3) (f 4) (f 5) (f 6) (f 7) (f 8)
end Go.Proofs.YtcbepibdeokboaaGreat

namespace Go.Proofs.YtcbepibdeokboaaGreat
open Go.RowKit
set_option maxRecDepth 4000
set_option linter.unusedVariables false

theorem sameV_selfC (x y z : Int) : sameV x y z x y z = true := by simp [sameV]
theorem Gen.one1 {u w0 : World} {g0 : Nat} {t0 : TypeId} {c0 : Array Value} (h0 : Blk u g0 t0 c0) (o : Below w0.heap.size w0 u) : Gen w0 [(g0, t0, c0)] u := ⟨fun p hp => by
  simp only [List.mem_cons, List.not_mem_nil, or_false] at hp
  subst hp
  exact h0, o⟩
/-- A row in the place i. -/
def updC (Y : Nat → Int) (i : Nat) (a b c : Int) (j : Nat) : Int := if j / 3 = i then (if j % 3 = 0 then a else if j % 3 = 1 then b else c) else Y j
theorem updC_put (Y : Nat → Int) {i : Nat} (hi : i < 3) (a b c : Int) : putC (m9 Y) (i * 3) (v3 a b c).toList = m9 (updC Y i a b c) := by
  rcases (show i = 0 ∨ i = 1 ∨ i = 2 by omega) with rfl | rfl | rfl <;> simp [putC, updC]
theorem Gen.setUC {w0 w : World} {l : List (Nat × TypeId × Array Value)} {g : Nat} {t : TypeId} {Y : Nat → Int} {i : Nat} (hi : i < 3) (a b c : Int) (d : Gen w0 ((g, t, m9 Y) :: l) w) (hg : w0.heap.size ≤ g) (hl : ∀ p ∈ l, p.1 ≠ g) : Gen w0 ((g, t, m9 (updC Y i a b c)) :: l) (w.setCells g (i * 3) (v3 a b c).toList) := by
  refine ⟨fun p hp => ?_, below_cells hg _ _ _ d.o⟩
  rcases List.mem_cons.1 hp with e | hp
  · subst e
    have h := Blk.putC (v3 a b c).toList (i * 3) _ _ (d.at_ _ List.mem_cons_self)
    rwa [updC_put _ hi] at h
  · exact Blk.putOther (hl p hp) _ _ _ (d.at_ p (List.mem_cons_of_mem _ hp))
set_option maxHeartbeats 2000000 in
theorem rapply_core (X f : Nat → Int) (x y z : Int) (w : World) (h0 : Hid (Ans 17 #[.agg (v3 (X 0) (X 1) (X 2)), .agg (v3 x y z)] (.int .i64 (f 0)))) (h1 : Hid (Ans 17 #[.agg (v3 (X 3) (X 4) (X 5)), .agg (v3 x y z)] (.int .i64 (f 1)))) (h2 : Hid (Ans 17 #[.agg (v3 (X 6) (X 7) (X 8)), .agg (v3 x y z)] (.int .i64 (f 2)))) : Calls Tryz.prog 6 #[.agg (m9 X), .agg (v3 x y z)] w fun e w' => e = .returned (.agg (v3 (f 0) (f 1) (f 2))) ∧ Below w.heap.size w w' := by
  go_enter Tryz.func6, Tryz.ntmps6
  go_upto_region 1 with fail
  have D := hide ((((Gen.start w).push 27 (m9 X)).push 24 (v3 x y z)).push 24 (v3 0 0 0))
  simp only [szA] at D
  refine region_last (S := Gen w _) (f := 16) (l := [0, 1, 2, 3, 4, 5, 6, 7, 8, 9, 10, 11, 12, 13, 14, 15]) (by kernel_rfl) (by kernel_rfl) (by kernel_rfl) (by kernel_rfl) (by kernel_rfl) (by kernel_rfl) (by kernel_rfl) (by kernel_rfl) (by kernel_rfl) (by kernel_rfl) rfl rfl (unhide D).drew ?_
  clear D
  refine plan_read (v := ?_) rfl rfl (fun u hS => by go_simp; rfl) ?_
  try go_simp
  refine plan_read (v := .pointer (some ⟨w.heap.size, 0, none⟩)) rfl rfl (fun u hS => exec_ix3 (k := 0) u (.tmp 5) (.const (.int .i64 0)) (by decide) rfl rfl rfl) ?_
  try go_simp
  refine plan_read (v := .agg (v3 (X 0) (X 1) (X 2))) rfl rfl (fun u hS => exec_ldRow (k := 0) (.tmp 6) rfl rfl (hS.blk (g := w.heap.size) (t := 27) (cs := m9 X) (by repeat (first | exact List.mem_cons_self | apply List.mem_cons_of_mem))) (by decide)) ?_
  try go_simp
  refine plan_read (v := .agg (v3 x y z)) rfl rfl (fun u hS => exec_loadG (g := w.heap.size + 1) (cs := v3 x y z) hS rVec _ rfl rfl (by repeat (first | exact List.mem_cons_self | apply List.mem_cons_of_mem)) rfl) ?_
  try go_simp
  refine plan_call (v := .int .i64 (f 0)) (f := 17) (args := #[.agg (v3 (X 0) (X 1) (X 2)), .agg (v3 x y z)]) rfl rfl (fun u hS => by go_simp) (fun u hS => (unhide h0 u).mono fun _ _ ⟨he, hb⟩ => ⟨he, hS.keep hb⟩) ?_
  try go_simp
  refine plan_read (v := ?_) rfl rfl (fun u hS => by go_simp; rfl) ?_
  try go_simp
  refine plan_read (v := .pointer (some ⟨w.heap.size, 3, none⟩)) rfl rfl (fun u hS => exec_ix3 (k := 1) u (.tmp 10) (.const (.int .i64 1)) (by decide) rfl rfl rfl) ?_
  try go_simp
  refine plan_read (v := .agg (v3 (X 3) (X 4) (X 5))) rfl rfl (fun u hS => exec_ldRow (k := 1) (.tmp 11) rfl rfl (hS.blk (g := w.heap.size) (t := 27) (cs := m9 X) (by repeat (first | exact List.mem_cons_self | apply List.mem_cons_of_mem))) (by decide)) ?_
  try go_simp
  refine plan_read (v := .agg (v3 x y z)) rfl rfl (fun u hS => exec_loadG (g := w.heap.size + 1) (cs := v3 x y z) hS rVec _ rfl rfl (by repeat (first | exact List.mem_cons_self | apply List.mem_cons_of_mem)) rfl) ?_
  try go_simp
  refine plan_call (v := .int .i64 (f 1)) (f := 17) (args := #[.agg (v3 (X 3) (X 4) (X 5)), .agg (v3 x y z)]) rfl rfl (fun u hS => by go_simp) (fun u hS => (unhide h1 u).mono fun _ _ ⟨he, hb⟩ => ⟨he, hS.keep hb⟩) ?_
  try go_simp
  refine plan_read (v := ?_) rfl rfl (fun u hS => by go_simp; rfl) ?_
  try go_simp
  refine plan_read (v := .pointer (some ⟨w.heap.size, 6, none⟩)) rfl rfl (fun u hS => exec_ix3 (k := 2) u (.tmp 15) (.const (.int .i64 2)) (by decide) rfl rfl rfl) ?_
  try go_simp
  refine plan_read (v := .agg (v3 (X 6) (X 7) (X 8))) rfl rfl (fun u hS => exec_ldRow (k := 2) (.tmp 16) rfl rfl (hS.blk (g := w.heap.size) (t := 27) (cs := m9 X) (by repeat (first | exact List.mem_cons_self | apply List.mem_cons_of_mem))) (by decide)) ?_
  try go_simp
  refine plan_read (v := .agg (v3 x y z)) rfl rfl (fun u hS => exec_loadG (g := w.heap.size + 1) (cs := v3 x y z) hS rVec _ rfl rfl (by repeat (first | exact List.mem_cons_self | apply List.mem_cons_of_mem)) rfl) ?_
  try go_simp
  refine plan_call (v := .int .i64 (f 2)) (f := 17) (args := #[.agg (v3 (X 6) (X 7) (X 8)), .agg (v3 x y z)]) rfl rfl (fun u hS => by go_simp) (fun u hS => (unhide h2 u).mono fun _ _ ⟨he, hb⟩ => ⟨he, hS.keep hb⟩) ?_
  try go_simp
  refine plan_read (v := .agg (v3 (f 0) (f 1) (f 2))) rfl rfl (fun u hS => by go_simp) ?_
  try go_simp
  refine plan_last (fun u hS => ?_)
  have B0 := hide (hS.blk (g := w.heap.size + 1 + 1) (t := 24) (cs := (v3 0 0 0)) (by repeat (first | exact List.mem_cons_self | apply List.mem_cons_of_mem)))
  refine wp_store_row 24 (.tmp 4) (.tmp 20) rfl _ (v3 (f 0) (f 1) (f 2)) rfl rfl 24 (v3 0 0 0) (unhide B0) iVec3 rfl (v3_one _ _ _) ?_
  have B := hide ((unhide B0).row (v3 (f 0) (f 1) (f 2)))
  have O := hide (below_row hS.o (show w.heap.size ≤ w.heap.size + 1 + 1 by omega) (v3 (f 0) (f 1) (f 2)))
  clear hS B0
  go_wp2
  exact resG rVec (unhide B) rfl rfl rfl rfl ⟨rfl, unhide O⟩
theorem RApplyZ {X : Nat → Int} (hX : ∀ j, I64 (X j)) {x y z : Int} (hx : I64 x) (hy : I64 y) (hz : I64 z) : Ans 6 #[.agg (m9 X), .agg (v3 x y z)] (.agg (v3 (apI X x y z 0) (apI X x y z 1) (apI X x y z 2))) := fun w =>
  rapply_core X (apI X x y z) x y z w (Dot3 _ _ _ _ _ _ (hX _) (hX _) (hX _) hx hy hz) (Dot3 _ _ _ _ _ _ (hX _) (hX _) (hX _) hx hy hz) (Dot3 _ _ _ _ _ _ (hX _) (hX _) (hX _) hx hy hz)
set_option maxHeartbeats 4000000 in
theorem rmul4_core (X Y T f : Nat → Int) (w : World) (hT : Hid (Ans 19 #[.agg (m9 Y)] (.agg (m9 T)))) (h0 : Hid (Ans 6 #[.agg (m9 T), .agg (v3 (X 0) (X 1) (X 2))] (.agg (v3 (f 0) (f 1) (f 2))))) (h1 : Hid (Ans 6 #[.agg (m9 T), .agg (v3 (X 3) (X 4) (X 5))] (.agg (v3 (f 3) (f 4) (f 5))))) (h2 : Hid (Ans 6 #[.agg (m9 T), .agg (v3 (X 6) (X 7) (X 8))] (.agg (v3 (f 6) (f 7) (f 8))))) : Calls Tryz.prog 8 #[.agg (m9 X), .agg (m9 Y)] w fun e w' => e = .returned (.agg (m9 f)) ∧ Below w.heap.size w w' := by
  have hR := hide (RRowsF f)
  go_enter Tryz.func8, Tryz.ntmps8
  go_upto_region 1 with fail
  have D := hide ((((Gen.start w).push 27 (m9 X)).push 27 (m9 Y)).push 27 zM)
  simp only [szA] at D
  go_upto_region 2 with (first | (with_reducible refine at_list ?_; apply ldG (unhide D) rMat _ rfl rfl rfl (by repeat (first | exact List.mem_cons_self | apply List.mem_cons_of_mem)) rfl) | (go_at_call 19; with_reducible refine (unhide hT _).mono ?_; rintro e w' ⟨he, hb⟩; subst he; have D := hide ((unhide D).keep hb); clear hb) | (with_reducible refine at_list ?_; refine stG (unhide D) rMat _ _ rfl rfl rfl rfl rfl rfl (m9_one _) ?_; intro D'; have D := hide D'; clear D'))
  clear hT
  generalize w'.heap.size = gt at *
  refine region_last (S := Gen w _) (f := 16) (l := [0, 1, 2, 3, 4, 5, 6, 7, 8, 9, 10, 11, 12, 13, 14, 15]) (by kernel_rfl) (by kernel_rfl) (by kernel_rfl) (by kernel_rfl) (by kernel_rfl) (by kernel_rfl) (by kernel_rfl) (by kernel_rfl) (by kernel_rfl) (by kernel_rfl) rfl rfl (unhide D).drew ?_
  clear D
  refine plan_read (v := .agg (m9 T)) rfl rfl (fun u hS => exec_loadG (g := gt) (cs := m9 T) hS rMat _ rfl rfl (by repeat (first | exact List.mem_cons_self | apply List.mem_cons_of_mem)) rfl) ?_
  try go_simp
  refine plan_read (v := ?_) rfl rfl (fun u hS => by go_simp; rfl) ?_
  try go_simp
  refine plan_read (v := .pointer (some ⟨w.heap.size, 0, none⟩)) rfl rfl (fun u hS => exec_ix3 (k := 0) u (.tmp 9) (.const (.int .i64 0)) (by decide) rfl rfl rfl) ?_
  try go_simp
  refine plan_read (v := .agg (v3 (X 0) (X 1) (X 2))) rfl rfl (fun u hS => exec_ldRow (k := 0) (.tmp 10) rfl rfl (hS.blk (g := w.heap.size) (t := 27) (cs := m9 X) (by repeat (first | exact List.mem_cons_self | apply List.mem_cons_of_mem))) (by decide)) ?_
  try go_simp
  refine plan_call (v := .agg (v3 (f 0) (f 1) (f 2))) (f := 6) (args := #[.agg (m9 T), .agg (v3 (X 0) (X 1) (X 2))]) rfl rfl (fun u hS => by go_simp) (fun u hS => (unhide h0 u).mono fun _ _ ⟨he, hb⟩ => ⟨he, hS.keep hb⟩) ?_
  try go_simp
  refine plan_read (v := .agg (m9 T)) rfl rfl (fun u hS => exec_loadG (g := gt) (cs := m9 T) hS rMat _ rfl rfl (by repeat (first | exact List.mem_cons_self | apply List.mem_cons_of_mem)) rfl) ?_
  try go_simp
  refine plan_read (v := ?_) rfl rfl (fun u hS => by go_simp; rfl) ?_
  try go_simp
  refine plan_read (v := .pointer (some ⟨w.heap.size, 3, none⟩)) rfl rfl (fun u hS => exec_ix3 (k := 1) u (.tmp 14) (.const (.int .i64 1)) (by decide) rfl rfl rfl) ?_
  try go_simp
  refine plan_read (v := .agg (v3 (X 3) (X 4) (X 5))) rfl rfl (fun u hS => exec_ldRow (k := 1) (.tmp 15) rfl rfl (hS.blk (g := w.heap.size) (t := 27) (cs := m9 X) (by repeat (first | exact List.mem_cons_self | apply List.mem_cons_of_mem))) (by decide)) ?_
  try go_simp
  refine plan_call (v := .agg (v3 (f 3) (f 4) (f 5))) (f := 6) (args := #[.agg (m9 T), .agg (v3 (X 3) (X 4) (X 5))]) rfl rfl (fun u hS => by go_simp) (fun u hS => (unhide h1 u).mono fun _ _ ⟨he, hb⟩ => ⟨he, hS.keep hb⟩) ?_
  try go_simp
  refine plan_read (v := .agg (m9 T)) rfl rfl (fun u hS => exec_loadG (g := gt) (cs := m9 T) hS rMat _ rfl rfl (by repeat (first | exact List.mem_cons_self | apply List.mem_cons_of_mem)) rfl) ?_
  try go_simp
  refine plan_read (v := ?_) rfl rfl (fun u hS => by go_simp; rfl) ?_
  try go_simp
  refine plan_read (v := .pointer (some ⟨w.heap.size, 6, none⟩)) rfl rfl (fun u hS => exec_ix3 (k := 2) u (.tmp 19) (.const (.int .i64 2)) (by decide) rfl rfl rfl) ?_
  try go_simp
  refine plan_read (v := .agg (v3 (X 6) (X 7) (X 8))) rfl rfl (fun u hS => exec_ldRow (k := 2) (.tmp 20) rfl rfl (hS.blk (g := w.heap.size) (t := 27) (cs := m9 X) (by repeat (first | exact List.mem_cons_self | apply List.mem_cons_of_mem))) (by decide)) ?_
  try go_simp
  refine plan_call (v := .agg (v3 (f 6) (f 7) (f 8))) (f := 6) (args := #[.agg (m9 T), .agg (v3 (X 6) (X 7) (X 8))]) rfl rfl (fun u hS => by go_simp) (fun u hS => (unhide h2 u).mono fun _ _ ⟨he, hb⟩ => ⟨he, hS.keep hb⟩) ?_
  try go_simp
  refine plan_call (v := .agg (m9 f)) (f := 20) (args := #[.agg (v3 (f 0) (f 1) (f 2)), .agg (v3 (f 3) (f 4) (f 5)), .agg (v3 (f 6) (f 7) (f 8))]) rfl rfl (fun u hS => by go_simp) (fun u hS => (unhide hR u).mono fun _ _ ⟨he, hb⟩ => ⟨he, hS.keep hb⟩) ?_
  try go_simp
  refine plan_last (fun u hS => ?_)
  have B0 := hide (hS.blk (g := w.heap.size + 1 + 1) (t := 27) (cs := zM) (by repeat (first | exact List.mem_cons_self | apply List.mem_cons_of_mem)))
  refine wp_store_row 27 (.tmp 4) (.tmp 23) rfl _ (m9 f) rfl rfl 27 zM (unhide B0) rMat.i rfl (m9_one _) ?_
  have B := hide ((unhide B0).row (m9 f))
  have O := hide (below_row hS.o (show w.heap.size ≤ w.heap.size + 1 + 1 by omega) (m9 f))
  clear hS B0
  go_wp2
  exact resG rMat (unhide B) rfl rfl rfl rfl ⟨rfl, unhide O⟩
theorem ap_mu (X Y : Nat → Int) (i k : Nat) (hi : i < 3) (hk : k < 3) : apI (tr Y) (X (i * 3)) (X (i * 3 + 1)) (X (i * 3 + 2)) k = muI X Y (i * 3 + k) := by
  have e1 : (i * 3 + k) / 3 = i := by omega
  have e2 : (i * 3 + k) % 3 = k := by omega
  unfold apI muI
  rw [e1, e2, Int.mul_comm (tr Y (k * 3)), Int.mul_comm (tr Y (k * 3 + 1)), Int.mul_comm (tr Y (k * 3 + 2))]
theorem RApplyMu {X Y : Nat → Int} (hX : ∀ j, I64 (X j)) (hY : ∀ j, I64 (Y j)) (i : Nat) (hi : i < 3) : Ans 6 #[.agg (m9 (tr Y)), .agg (v3 (X (i * 3)) (X (i * 3 + 1)) (X (i * 3 + 2)))] (.agg (v3 (muI X Y (i * 3)) (muI X Y (i * 3 + 1)) (muI X Y (i * 3 + 2)))) := by
  have t := RApplyZ (X := tr Y) (tr_64 hY) (hX (i * 3)) (hX (i * 3 + 1)) (hX (i * 3 + 2))
  rw [ap_mu X Y i 0 hi (by decide), ap_mu X Y i 1 hi (by decide), ap_mu X Y i 2 hi (by decide)] at t
  exact t
theorem RMulMZ {X Y : Nat → Int} (hX : ∀ j, I64 (X j)) (hY : ∀ j, I64 (Y j)) : Ans 8 #[.agg (m9 X), .agg (m9 Y)] (.agg (m9 (muI X Y))) := fun w =>
  rmul4_core X Y (tr Y) (muI X Y) w (RTurnedZ Y) (RApplyMu hX hY 0 (by decide)) (RApplyMu hX hY 1 (by decide)) (RApplyMu hX hY 2 (by decide))
set_option maxHeartbeats 4000000 in
theorem matMul_core (X Y R : Nat → Int) (x y z p q r : Int) (w : World) (e0 : sameV p q r p q r = true) (e1 : sameM R R = true) (h1 : Hid (Ans 5 #[.agg (m9 X), .agg (v3 x y z)] (.agg (v3 p q r)))) (h2 : Hid (Ans 6 #[.agg (m9 X), .agg (v3 x y z)] (.agg (v3 p q r))))
    (h3 : Hid (Ans 7 #[.agg (m9 X), .agg (m9 Y)] (.agg (m9 R)))) (h4 : Hid (Ans 8 #[.agg (m9 X), .agg (m9 Y)] (.agg (m9 R)))) (hW : Hid (Ans 9 #[] (.bool true))) :
    Calls Tryz.prog 3 #[.agg (m9 X), .agg (m9 Y), .agg (v3 x y z)] w fun e w' => e = .returned (.bool true) ∧ Below w.heap.size w w' := by
  go_enter Tryz.func3, Tryz.ntmps3
  go_upto_region 1 with fail
  have D := hide ((((Gen.start w).push 27 (m9 X)).push 27 (m9 Y)).push 24 (v3 x y z))
  simp only [szA] at D
  refine region_plan (S := Gen w _) (l := [0, 1, 2, 3, 4, 5, 6, 7, 8, 9, 10, 11, 12, 13, 14, 15, 16, 17, 18, 19]) (by kernel_rfl) (by kernel_rfl) (by kernel_rfl) (by kernel_rfl) (by kernel_rfl) (by kernel_rfl) (by kernel_rfl) (unhide D).drew ?_
  clear D
  refine plan_read (v := .agg (m9 X)) rfl rfl (fun u hS => exec_loadG (g := w.heap.size) (cs := m9 X) hS rMat _ rfl rfl (by repeat (first | exact List.mem_cons_self | apply List.mem_cons_of_mem)) rfl) ?_
  try go_simp
  refine plan_read (v := .agg (v3 x y z)) rfl rfl (fun u hS => exec_loadG hS rVec _ rfl rfl (by repeat (first | exact List.mem_cons_self | apply List.mem_cons_of_mem)) rfl) ?_
  try go_simp
  refine plan_call (v := .agg (v3 p q r)) (f := 5) (args := #[.agg (m9 X), .agg (v3 x y z)]) rfl rfl (fun u hS => by go_simp) (fun u hS => (unhide h1 u).mono fun _ _ ⟨he, hb⟩ => ⟨he, hS.keep hb⟩) ?_
  try go_simp
  refine plan_read (v := .agg (m9 X)) rfl rfl (fun u hS => exec_loadG (g := w.heap.size) (cs := m9 X) hS rMat _ rfl rfl (by repeat (first | exact List.mem_cons_self | apply List.mem_cons_of_mem)) rfl) ?_
  try go_simp
  refine plan_read (v := .agg (v3 x y z)) rfl rfl (fun u hS => exec_loadG hS rVec _ rfl rfl (by repeat (first | exact List.mem_cons_self | apply List.mem_cons_of_mem)) rfl) ?_
  try go_simp
  refine plan_call (v := .agg (v3 p q r)) (f := 6) (args := #[.agg (m9 X), .agg (v3 x y z)]) rfl rfl (fun u hS => by go_simp) (fun u hS => (unhide h2 u).mono fun _ _ ⟨he, hb⟩ => ⟨he, hS.keep hb⟩) ?_
  try go_simp
  refine plan_read (v := .bool true) rfl rfl (fun u hS => exec_eql_vec _ _ _ e0 rfl rfl rfl) ?_
  try go_simp
  refine plan_read (v := .bool true) rfl rfl (fun u hS => by go_simp) ?_
  try go_simp
  refine plan_read (v := .agg (m9 X)) rfl rfl (fun u hS => exec_loadG (g := w.heap.size) (cs := m9 X) hS rMat _ rfl rfl (by repeat (first | exact List.mem_cons_self | apply List.mem_cons_of_mem)) rfl) ?_
  try go_simp
  refine plan_read (v := .agg (m9 Y)) rfl rfl (fun u hS => exec_loadG (g := w.heap.size + 1) (cs := m9 Y) hS rMat _ rfl rfl (by repeat (first | exact List.mem_cons_self | apply List.mem_cons_of_mem)) rfl) ?_
  try go_simp
  refine plan_call (v := .agg (m9 R)) (f := 7) (args := #[.agg (m9 X), .agg (m9 Y)]) rfl rfl (fun u hS => by go_simp) (fun u hS => (unhide h3 u).mono fun _ _ ⟨he, hb⟩ => ⟨he, hS.keep hb⟩) ?_
  try go_simp
  refine plan_read (v := .agg (m9 X)) rfl rfl (fun u hS => exec_loadG (g := w.heap.size) (cs := m9 X) hS rMat _ rfl rfl (by repeat (first | exact List.mem_cons_self | apply List.mem_cons_of_mem)) rfl) ?_
  try go_simp
  refine plan_read (v := .agg (m9 Y)) rfl rfl (fun u hS => exec_loadG (g := w.heap.size + 1) (cs := m9 Y) hS rMat _ rfl rfl (by repeat (first | exact List.mem_cons_self | apply List.mem_cons_of_mem)) rfl) ?_
  try go_simp
  refine plan_call (v := .agg (m9 R)) (f := 8) (args := #[.agg (m9 X), .agg (m9 Y)]) rfl rfl (fun u hS => by go_simp) (fun u hS => (unhide h4 u).mono fun _ _ ⟨he, hb⟩ => ⟨he, hS.keep hb⟩) ?_
  try go_simp
  refine plan_read (v := .bool true) rfl rfl (fun u hS => exec_eql_mat _ _ _ e1 rfl rfl rfl) ?_
  try go_simp
  refine plan_read (v := .bool true) rfl rfl (fun u hS => by go_simp) ?_
  try go_simp
  refine plan_read (v := .bool true) rfl rfl (fun u hS => by go_simp) ?_
  try go_simp
  refine plan_call (v := .bool true) (f := 9) (args := #[]) rfl rfl (fun u hS => by go_simp) (fun u hS => (unhide hW u).mono fun _ _ ⟨he, hb⟩ => ⟨he, hS.keep hb⟩) ?_
  try go_simp
  refine plan_read (v := .bool true) rfl rfl (fun u hS => by go_simp) ?_
  try go_simp
  refine plan_read (v := .bool true) rfl rfl (fun u hS => by go_simp) ?_
  try go_simp
  refine plan_end (fun u hS => ?_)
  have O := hide hS.o
  clear hS
  go_wp2
  go_ret
  exact ⟨rfl, unhide O⟩
theorem matMul_walk (X0 X1 : Nat → Int) (x2 y2 z2 : Int) (k0 : ∀ j, (Lit.int .i64 (X0 j)).wf = true) (k1 : ∀ j, (Lit.int .i64 (X1 j)).wf = true) (k2 : (Lit.int .i64 x2).wf = true) (l2 : (Lit.int .i64 y2).wf = true) (m2 : (Lit.int .i64 z2).wf = true) (w : World) :
    Calls Tryz.prog 3 #[.agg (m9 X0), .agg (m9 X1), .agg (v3 x2 y2 z2)] w fun e w' => e = .returned (.bool true) ∧ Below w.heap.size w w' := by
  have hX : ∀ j, I64 (X0 j) := fun j => I64.wf (k0 j)
  have hY : ∀ j, I64 (X1 j) := fun j => I64.wf (k1 j)
  exact matMul_core X0 X1 _ x2 y2 z2 _ _ _ w (sameV_selfC _ _ _) (sameM_self _) (ApplyZ hX (I64.wf k2) (I64.wf l2) (I64.wf m2)) (RApplyZ hX (I64.wf k2) (I64.wf l2) (I64.wf m2)) (MulMZ hX hY) (RMulMZ hX hY) Awake4Z
set_option maxHeartbeats 2000000 in
theorem with4_core (X : Nat → Int) (k : Nat) (hk : k < 3) (x y z : Int) (w : World) (h1 : Hid (Ans 19 #[.agg (m9 X)] (.agg (m9 (tr X))))) (h2 : Hid (Ans 19 #[.agg (m9 (updC (tr X) k x y z))] (.agg (m9 (tr (updC (tr X) k x y z)))))) :
    Calls Tryz.prog 34 #[.agg (m9 X), .int .i64 k, .agg (v3 x y z)] w fun e w' => e = .returned (.agg (m9 (tr (updC (tr X) k x y z)))) ∧ Below w.heap.size w w' := by
  go_enter Tryz.func34, Tryz.ntmps34
  go_upto_region 1 with fail
  have D := hide ((((Gen.start w).push 27 (m9 X)).push 24 (v3 x y z)).push 27 zM)
  simp only [szA] at D
  go_upto_region 2 with (first | (with_reducible refine at_list ?_; apply ldG (unhide D) rMat _ rfl rfl rfl (by repeat (first | exact List.mem_cons_self | apply List.mem_cons_of_mem)) rfl) | (go_at_call 19; with_reducible refine (unhide h1 _).mono ?_; rintro e w5 ⟨he, hb⟩; subst he; have D := hide ((unhide D).keep hb); have hwr := hide (unhide D).o.size; have hlr := hide (fun p hp => Nat.ne_of_lt ((unhide D).at_ p hp).lt); clear hb) | (with_reducible refine at_list ?_; refine stG (unhide D) rMat _ _ rfl rfl rfl rfl rfl rfl (m9_one _) ?_; intro D'; have D := hide D'; clear D'))
  clear h1
  generalize w5.heap.size = gt at *
  go_upto_region 2 with fail
  go_wp2_with (first | (with_reducible refine at_list ?_; apply ldG (unhide D) rVec _ rfl rfl rfl (by repeat (first | exact List.mem_cons_self | apply List.mem_cons_of_mem)) rfl) | (with_reducible refine at_list ?_;  refine wpList_value rfl (exec_ix3 (k := k) _ (.tmp 12) (.tmp 10) hk rfl rfl rfl) ?_) | (with_reducible refine at_one ?_))
  unfold Stop
  refine wpList_of_wp rfl (wp_store_mid 24 (.tmp 13) (.tmp 11) rfl gt (k * 3) (v3 x y z) rfl rfl (m9_there ((unhide D).blk (g := gt) (t := 27) (cs := m9 (tr X)) (by repeat (first | exact List.mem_cons_self | apply List.mem_cons_of_mem))) hk) iVec3 (v3_one _ _ _) ?_)
  have D := hide ((unhide D).setUC hk x y z (unhide hwr) (unhide hlr))
  generalize World.setCells _ _ _ _ = w7 at D ⊢
  go_simp
  clear hwr hlr
  go_wp2_with (first | (with_reducible refine at_list ?_; apply ldG (unhide D) rMat _ rfl rfl rfl (by repeat (first | exact List.mem_cons_self | apply List.mem_cons_of_mem)) rfl) | (go_at_call 19; with_reducible refine (unhide h2 _).mono ?_; rintro e w' ⟨he, hb⟩; subst he; have D := hide ((unhide D).keep hb); clear hb) | (with_reducible refine at_list ?_; apply stGend (unhide D) rMat _ _ rfl rfl rfl rfl (by repeat (first | exact List.mem_cons_self | apply List.mem_cons_of_mem)) (by omega) rfl rfl (m9_one _); intro B O))
  exact resG rMat (unhide B) rfl rfl rfl rfl ⟨rfl, unhide O⟩
theorem With4 (X : Nat → Int) (k : Nat) (hk : k < 3) (x y z : Int) : Ans 34 #[.agg (m9 X), .int .i64 k, .agg (v3 x y z)] (.agg (m9 (tr (updC (tr X) k x y z)))) := fun w => with4_core X k hk x y z w (RTurnedZ _) (RTurnedZ _)
set_option maxHeartbeats 4000000 in
theorem over4_core (N M T Q R : Nat) (E : Bool) (v : Int) (w : World) (h1 : Hid (Ans 57 #[.agg (cells8 N), .int .i64 32] (.agg (cells8 T)))) (h2 : Hid (Ans 56 #[.agg (cells8 T), .agg (cells8 M)] (.tuple #[.agg (cells8 Q), .agg (cells8 R), .bool E]))) (h3 : Hid (Ans 58 #[.agg (cells8 Q)] (.int .i64 v))) :
    Calls Tryz.prog 33 #[.agg (cells8 N), .int .i64 32, .agg (cells8 M)] w fun e w' => e = .returned (.int .i64 v) ∧ Below w.heap.size w w' := by
  go_enter Tryz.func33, Tryz.ntmps33
  go_upto_region 1 with fail
  have D := hide (((Gen.start w).push 54 (cells8 N)).push 54 (cells8 M))
  simp only [szA] at D
  generalize hw3 : (w.alloc (.cells (cells8 N) 54)).alloc (.cells (cells8 M) 54) = w3 at D ⊢
  clear hw3
  have D1 : Hid (GenZ w _ w3.heap.size w3.drew) := ⟨(unhide D).drew, Nat.le_refl _⟩
  have hw0 := hide (unhide D).o.size
  clear D
  generalize w3.heap.size = C at D1 hw0
  refine region_allocsL (S := GenZ w _ C) (t := 54) (z := z8) (base := C) (l := [0, 1, 2, 3, 4, 5, 6, 7, 8]) (A := [9, 10]) (T := [11, 12, 13]) (ft := 11) (Z := [7, 8]) (by kernel_rfl) (by kernel_rfl) (by kernel_rfl) (by kernel_rfl) (by kernel_rfl) (by kernel_rfl) (by kernel_rfl) (by kernel_rfl) (by kernel_rfl) (by kernel_rfl) (by kernel_rfl) (by kernel_rfl) (by kernel_rfl) (by rintro ⟨_, _, h⟩; have h1 := And.left h; cases h1) (by intro d v c a w h; exact And.intro (by cases d <;> exact And.left h) (And.right h)) (by kernel_rfl) ?_ (fun _ _ h hb => h.keep hb) (fun _ h => h.s) (unhide D1) ?_
  · intro i hi
    simp at hi
    rcases hi with rfl | rfl
    · exact ⟨_, rfl, rfl, fun a w => by go_simp⟩
    · exact ⟨_, rfl, rfl, fun a w => by go_simp⟩
  clear D1
  refine planB_read (v := .agg (cells8 N)) rfl rfl (fun u hS => exec_loadG (g := w.heap.size) (cs := cells8 N) hS.e rWide _ rfl rfl (by repeat (first | exact List.mem_cons_self | apply List.mem_cons_of_mem)) rfl) ?_
  try go_simp
  refine planB_read (v := .int .i64 32) rfl rfl (fun u hS => by go_simp) ?_
  try go_simp
  refine planB_call (v := .agg (cells8 T)) (f := 57) (args := #[.agg (cells8 N), .int .i64 32]) rfl rfl (fun u hS => by go_simp) (fun u hS => (unhide h1 u).mono fun _ _ ⟨he, hb⟩ => ⟨he, hS.keep hb, hb⟩) ?_
  try go_simp
  refine planB_read (v := .agg (cells8 M)) rfl rfl (fun u hS => exec_loadG (g := w.heap.size + 1) (cs := cells8 M) hS.e rWide _ rfl rfl (by repeat (first | exact List.mem_cons_self | apply List.mem_cons_of_mem)) rfl) ?_
  try go_simp
  refine planB_call (v := .tuple #[.agg (cells8 Q), .agg (cells8 R), .bool E]) (f := 56) (args := #[.agg (cells8 T), .agg (cells8 M)]) rfl rfl (fun u hS => by go_simp) (fun u hS => (unhide h2 u).mono fun _ _ ⟨he, hb⟩ => ⟨he, hS.keep hb, hb⟩) ?_
  try go_simp
  refine planB_read (v := .tuple #[.agg (cells8 Q), .agg (cells8 R), .bool E]) rfl rfl (fun u hS => by go_simp) ?_
  try go_simp
  refine planB_read (v := .agg (cells8 Q)) rfl rfl (fun u hS => by go_simp) ?_
  try go_simp
  refine planB_read (v := .agg (cells8 R)) rfl rfl (fun u hS => by go_simp) ?_
  try go_simp
  refine planB_read (v := .bool E) rfl rfl (fun u hS => by go_simp) ?_
  try go_simp
  refine planB_tail (fun c u hS hB hI => ?_)
  have h4 := hB 9 (by simp)
  have h5 := hB 10 (by simp)
  have hne : c 9 ≠ c 10 := fun hc => by have := hI 9 (by simp) 10 (by simp) hc; omega
  simp only [pa, dstOf, opsOf]
  have O := hide hS.e.o
  generalize c 9 = c4 at h4 hne ⊢
  generalize c 10 = c5 at h5 hne ⊢
  clear hS hB hI
  have hC := unhide hw0
  have D := hide (Gen.one1 ((h4.1.row (cells8 Q)).rowOther (cells8 R) hne) (below_row (below_row (unhide O) (show w.heap.size ≤ c4 by omega) (cells8 Q)) (show w.heap.size ≤ c5 by omega) (cells8 R)))
  have H4 := hide h4.1
  have H5 := hide (h5.1.rowOther (cells8 Q) (Ne.symm hne))
  clear h4 h5 O hC hw0
  refine wpList_store_row rfl 54 (.tmp 7) (.tmp 16) rfl _ (cells8 Q) rfl rfl 54 _ (unhide H4) iWide rfl (cells8_one _) ?_
  refine wpList_store_row rfl 54 (.tmp 8) (.tmp 17) rfl _ (cells8 R) rfl rfl 54 _ (unhide H5) iWide rfl (cells8_one _) ?_
  generalize (u.setRow c4 (cells8 Q)).setRow c5 (cells8 R) = u1 at D ⊢
  clear H4 H5
  go_simp
  go_wp2_with (first | (with_reducible refine at_list ?_; apply ldG (unhide D) rWide _ rfl rfl rfl (by repeat (first | exact List.mem_cons_self | apply List.mem_cons_of_mem)) rfl) | (go_at_call 58; with_reducible refine (unhide h3 _).mono ?_; rintro e w' ⟨he, hb⟩; subst he; have D := hide ((unhide D).keep hb); clear hb))
  go_ret
  exact ⟨rfl, (unhide D).o⟩
theorem Over4 (n d : Int) (hn : Sz 300 n) (hd : Sz 300 d) (h0 : d ≠ 0) : Ans 33 #[V n, .int .i64 32, V d] (.int .i64 (mquo n d 32)) := fun w => by
  have hp : Sz 332 (n * ((2 ^ (32 : Int).toNat : Nat) : Int)) := hn.mul (show Sz 32 _ by unfold Sz; decide)
  have hq : Fit ((n * ((2 ^ (32 : Int).toNat : Nat) : Int)).fdiv d) := (hp.fdiv h0).fit (by decide)
  exact over4_core _ _ _ _ _ _ _ w (Twice3 32 (hn.fit (by decide)) (by decide) (hp.fit (by decide))) (div_refS _ _ hp hd (by decide) (by decide) h0) (WithinR _ hq)
set_option maxHeartbeats 2000000 in
theorem rsolve_none (X : Nat → Int) (x y z : Int) (d0 : Nat) (w : World) (hE : Hid (Ans 31 #[.agg (m9 X)] (.agg (cells8 d0)))) (hS : Hid (Ans 32 #[.agg (cells8 d0)] (.int .i64 0))) :
    Calls Tryz.prog 13 #[.agg (m9 X), .agg (v3 x y z)] w fun e w' => e = .returned (.tuple #[.agg (v3 0 0 0), .bool false]) ∧ Below w.heap.size w w' := by
  go_enter Tryz.func13, Tryz.ntmps13
  go_upto_region 1 with fail
  have D := hide ((((Gen.start w).push 27 (m9 X)).push 24 (v3 x y z)).push 24 (v3 0 0 0))
  simp only [szA] at D
  go_wp2_with (first | (with_reducible refine at_list ?_; apply ldG (unhide D) rMat _ rfl rfl rfl (by repeat (first | exact List.mem_cons_self | apply List.mem_cons_of_mem)) rfl) | (with_reducible refine at_list ?_; apply ldG (unhide D) rWide _ rfl rfl rfl (by repeat (first | exact List.mem_cons_self | apply List.mem_cons_of_mem)) rfl) | (go_at_call 31; with_reducible refine (unhide hE _).mono ?_; rintro e w' ⟨he, hb⟩; subst he; have D := hide ((unhide D).keep hb); clear hb) | (with_reducible refine at_list ?_; refine stG (unhide D) rWide _ _ rfl rfl rfl rfl rfl rfl (cells8_one _) ?_; intro D'; have D := hide D'; clear D') | (go_at_call 32; with_reducible refine (unhide hS _).mono ?_; rintro e w' ⟨he, hb⟩; subst he; have D := hide ((unhide D).keep hb); clear hb) | (with_reducible refine at_list ?_; apply stGend (unhide D) rVec _ _ rfl rfl rfl rfl (by repeat (first | exact List.mem_cons_self | apply List.mem_cons_of_mem)) (by omega) rfl rfl (v3_one _ _ _); intro B O))
  exact resGT rVec (unhide B) rfl rfl rfl rfl rfl ⟨rfl, unhide O⟩
set_option maxHeartbeats 8000000 in
theorem rsolve_core (X W0 W1 W2 : Nat → Int) (x y z f0 f1 f2 s : Int) (d0 E0 E1 E2 : Nat) (w : World) (hs1 : (s == 0) = false) (hs2 : (s != 0) = true) (hs3 : decide (s = 0) = false) (hE : Hid (Ans 31 #[.agg (m9 X)] (.agg (cells8 d0)))) (hS : Hid (Ans 32 #[.agg (cells8 d0)] (.int .i64 s))) (a0 : Hid (Ans 34 #[.agg (m9 X), .int .i64 0, .agg (v3 x y z)] (.agg (m9 W0)))) (b0 : Hid (Ans 31 #[.agg (m9 W0)] (.agg (cells8 E0)))) (c0 : Hid (Ans 33 #[.agg (cells8 E0), .int .i64 32, .agg (cells8 d0)] (.int .i64 f0))) (a1 : Hid (Ans 34 #[.agg (m9 X), .int .i64 1, .agg (v3 x y z)] (.agg (m9 W1)))) (b1 : Hid (Ans 31 #[.agg (m9 W1)] (.agg (cells8 E1)))) (c1 : Hid (Ans 33 #[.agg (cells8 E1), .int .i64 32, .agg (cells8 d0)] (.int .i64 f1))) (a2 : Hid (Ans 34 #[.agg (m9 X), .int .i64 2, .agg (v3 x y z)] (.agg (m9 W2)))) (b2 : Hid (Ans 31 #[.agg (m9 W2)] (.agg (cells8 E2)))) (c2 : Hid (Ans 33 #[.agg (cells8 E2), .int .i64 32, .agg (cells8 d0)] (.int .i64 f2))) :
    Calls Tryz.prog 13 #[.agg (m9 X), .agg (v3 x y z)] w fun e w' => e = .returned (.tuple #[.agg (v3 f0 f1 f2), .bool true]) ∧ Below w.heap.size w w' := by
  go_enter Tryz.func13, Tryz.ntmps13
  go_upto_region 1 with fail
  have D := hide ((((Gen.start w).push 27 (m9 X)).push 24 (v3 x y z)).push 24 (v3 0 0 0))
  simp only [szA] at D
  go_upto_region 2 with (first | (with_reducible refine at_list ?_; apply ldG (unhide D) rMat _ rfl rfl rfl (by repeat (first | exact List.mem_cons_self | apply List.mem_cons_of_mem)) rfl) | (go_at_call 31; with_reducible refine (unhide hE _).mono ?_; rintro e w' ⟨he, hb⟩; subst he; have D := hide ((unhide D).keep hb); clear hb) | (with_reducible refine at_list ?_; refine stG (unhide D) rWide _ _ rfl rfl rfl rfl rfl rfl (cells8_one _) ?_; intro D'; have D := hide D'; clear D'))
  clear hE
  generalize w'.heap.size = gd at *
  go_upto_region 4 with (first | (with_reducible refine at_list ?_; apply ldG (unhide D) rWide _ rfl rfl rfl (by repeat (first | exact List.mem_cons_self | apply List.mem_cons_of_mem)) rfl) | (go_at_call 32; with_reducible refine (unhide hS _).mono ?_; rintro e w' ⟨he, hb⟩; subst he; have D := hide ((unhide D).keep hb); clear hb))
  clear hS
  have D1 : Hid (GenZ w _ _ _) := ⟨(unhide D).drew, Nat.le_refl _⟩
  clear D
  refine region_allocs (S := GenZ w _ _) (t := 54) (z := z8) (base := _) (l := [0, 1, 2, 3, 4, 5, 6, 7, 8, 9, 10, 11, 12, 13, 14, 15, 16, 17, 18]) (A := []) (T := [19, 20]) (by kernel_rfl) (by kernel_rfl) (by kernel_rfl) (by kernel_rfl) (by kernel_rfl) (by kernel_rfl) (by kernel_rfl) (by kernel_rfl) (by kernel_rfl) (by kernel_rfl) (fun i hi => by cases hi) (fun _ _ h hb => h.keep hb) (fun _ h => h.s) (unhide D1) ?_
  clear D1
  refine planB_read (v := .agg (m9 X)) rfl rfl (fun u hS => exec_loadG (g := w.heap.size) (cs := m9 X) hS.e rMat _ rfl rfl (by repeat (first | exact List.mem_cons_self | apply List.mem_cons_of_mem)) rfl) ?_
  try go_simp
  refine planB_read (v := .agg (v3 x y z)) rfl rfl (fun u hS => exec_loadG (g := w.heap.size + 1) (cs := v3 x y z) hS.e rVec _ rfl rfl (by repeat (first | exact List.mem_cons_self | apply List.mem_cons_of_mem)) rfl) ?_
  try go_simp
  refine planB_call (v := .agg (m9 W0)) (f := 34) (args := #[.agg (m9 X), .int .i64 0, .agg (v3 x y z)]) rfl rfl (fun u hS => by go_simp) (fun u hS => (unhide a0 u).mono fun _ _ ⟨he, hb⟩ => ⟨he, hS.keep hb, hb⟩) ?_
  try go_simp
  refine planB_call (v := .agg (cells8 E0)) (f := 31) (args := #[.agg (m9 W0)]) rfl rfl (fun u hS => by go_simp) (fun u hS => (unhide b0 u).mono fun _ _ ⟨he, hb⟩ => ⟨he, hS.keep hb, hb⟩) ?_
  try go_simp
  refine planB_read (v := .agg (cells8 d0)) rfl rfl (fun u hS => exec_loadG (g := gd) (cs := cells8 d0) hS.e rWide _ rfl rfl (by repeat (first | exact List.mem_cons_self | apply List.mem_cons_of_mem)) rfl) ?_
  try go_simp
  refine planB_call (v := .int .i64 f0) (f := 33) (args := #[.agg (cells8 E0), .int .i64 32, .agg (cells8 d0)]) rfl rfl (fun u hS => by go_simp) (fun u hS => (unhide c0 u).mono fun _ _ ⟨he, hb⟩ => ⟨he, hS.keep hb, hb⟩) ?_
  try go_simp
  refine planB_read (v := .agg (m9 X)) rfl rfl (fun u hS => exec_loadG (g := w.heap.size) (cs := m9 X) hS.e rMat _ rfl rfl (by repeat (first | exact List.mem_cons_self | apply List.mem_cons_of_mem)) rfl) ?_
  try go_simp
  refine planB_read (v := .agg (v3 x y z)) rfl rfl (fun u hS => exec_loadG (g := w.heap.size + 1) (cs := v3 x y z) hS.e rVec _ rfl rfl (by repeat (first | exact List.mem_cons_self | apply List.mem_cons_of_mem)) rfl) ?_
  try go_simp
  refine planB_call (v := .agg (m9 W1)) (f := 34) (args := #[.agg (m9 X), .int .i64 1, .agg (v3 x y z)]) rfl rfl (fun u hS => by go_simp) (fun u hS => (unhide a1 u).mono fun _ _ ⟨he, hb⟩ => ⟨he, hS.keep hb, hb⟩) ?_
  try go_simp
  refine planB_call (v := .agg (cells8 E1)) (f := 31) (args := #[.agg (m9 W1)]) rfl rfl (fun u hS => by go_simp) (fun u hS => (unhide b1 u).mono fun _ _ ⟨he, hb⟩ => ⟨he, hS.keep hb, hb⟩) ?_
  try go_simp
  refine planB_read (v := .agg (cells8 d0)) rfl rfl (fun u hS => exec_loadG (g := gd) (cs := cells8 d0) hS.e rWide _ rfl rfl (by repeat (first | exact List.mem_cons_self | apply List.mem_cons_of_mem)) rfl) ?_
  try go_simp
  refine planB_call (v := .int .i64 f1) (f := 33) (args := #[.agg (cells8 E1), .int .i64 32, .agg (cells8 d0)]) rfl rfl (fun u hS => by go_simp) (fun u hS => (unhide c1 u).mono fun _ _ ⟨he, hb⟩ => ⟨he, hS.keep hb, hb⟩) ?_
  try go_simp
  refine planB_read (v := .agg (m9 X)) rfl rfl (fun u hS => exec_loadG (g := w.heap.size) (cs := m9 X) hS.e rMat _ rfl rfl (by repeat (first | exact List.mem_cons_self | apply List.mem_cons_of_mem)) rfl) ?_
  try go_simp
  refine planB_read (v := .agg (v3 x y z)) rfl rfl (fun u hS => exec_loadG (g := w.heap.size + 1) (cs := v3 x y z) hS.e rVec _ rfl rfl (by repeat (first | exact List.mem_cons_self | apply List.mem_cons_of_mem)) rfl) ?_
  try go_simp
  refine planB_call (v := .agg (m9 W2)) (f := 34) (args := #[.agg (m9 X), .int .i64 2, .agg (v3 x y z)]) rfl rfl (fun u hS => by go_simp) (fun u hS => (unhide a2 u).mono fun _ _ ⟨he, hb⟩ => ⟨he, hS.keep hb, hb⟩) ?_
  try go_simp
  refine planB_call (v := .agg (cells8 E2)) (f := 31) (args := #[.agg (m9 W2)]) rfl rfl (fun u hS => by go_simp) (fun u hS => (unhide b2 u).mono fun _ _ ⟨he, hb⟩ => ⟨he, hS.keep hb, hb⟩) ?_
  try go_simp
  refine planB_read (v := .agg (cells8 d0)) rfl rfl (fun u hS => exec_loadG (g := gd) (cs := cells8 d0) hS.e rWide _ rfl rfl (by repeat (first | exact List.mem_cons_self | apply List.mem_cons_of_mem)) rfl) ?_
  try go_simp
  refine planB_call (v := .int .i64 f2) (f := 33) (args := #[.agg (cells8 E2), .int .i64 32, .agg (cells8 d0)]) rfl rfl (fun u hS => by go_simp) (fun u hS => (unhide c2 u).mono fun _ _ ⟨he, hb⟩ => ⟨he, hS.keep hb, hb⟩) ?_
  try go_simp
  refine planB_read (v := .agg (v3 f0 f1 f2)) rfl rfl (fun u hS => by go_simp) ?_
  try go_simp
  refine planB_tail (fun c u hS hB hI => ?_)
  simp only [pa, opsOf]
  have B0 := hide (hS.e.blk (g := w.heap.size + 1 + 1) (t := 24) (cs := v3 0 0 0) (by repeat (first | exact List.mem_cons_self | apply List.mem_cons_of_mem)))
  have B := hide ((unhide B0).row (v3 f0 f1 f2))
  have O := hide (below_row hS.e.o (show w.heap.size ≤ w.heap.size + 1 + 1 by omega) (v3 f0 f1 f2))
  clear hS hB hI
  refine wpList_store_row rfl 24 (.tmp 4) (.tmp 31) rfl _ (v3 f0 f1 f2) rfl rfl 24 _ (unhide B0) iVec3 rfl (v3_one _ _ _) ?_
  clear B0
  generalize u.setRow _ (v3 f0 f1 f2) = u1 at B O ⊢
  go_simp
  go_wp2
  exact resGT rVec (unhide B) rfl rfl rfl rfl rfl ⟨rfl, unhide O⟩
theorem det_with0 (X : Nat → Int) (x y z : Int) : detM (tr (updC (tr X) 0 x y z)) = mnr X 0 0 * x + mnr X 1 0 * y + mnr X 2 0 * z := by
  show x * (X 4 * X 8 - X 5 * X 7) + X 1 * (X 5 * z - y * X 8) + X 2 * (y * X 7 - X 4 * z) = (X 4 * X 8 - X 5 * X 7) * x + (X 7 * X 2 - X 8 * X 1) * y + (X 1 * X 5 - X 2 * X 4) * z
  grind
theorem det_with1 (X : Nat → Int) (x y z : Int) : detM (tr (updC (tr X) 1 x y z)) = mnr X 0 1 * x + mnr X 1 1 * y + mnr X 2 1 * z := by
  show X 0 * (y * X 8 - X 5 * z) + x * (X 5 * X 6 - X 3 * X 8) + X 2 * (X 3 * z - y * X 6) = (X 5 * X 6 - X 3 * X 8) * x + (X 8 * X 0 - X 6 * X 2) * y + (X 2 * X 3 - X 0 * X 5) * z
  grind
theorem det_with2 (X : Nat → Int) (x y z : Int) : detM (tr (updC (tr X) 2 x y z)) = mnr X 0 2 * x + mnr X 1 2 * y + mnr X 2 2 * z := by
  show X 0 * (X 4 * z - y * X 7) + X 1 * (y * X 6 - X 3 * z) + x * (X 3 * X 7 - X 4 * X 6) = (X 3 * X 7 - X 4 * X 6) * x + (X 6 * X 1 - X 7 * X 0) * y + (X 0 * X 4 - X 1 * X 3) * z
  grind
theorem updC_64 {Y : Nat → Int} (hY : ∀ j, I64 (Y j)) {x y z : Int} (hx : I64 x) (hy : I64 y) (hz : I64 z) (i j : Nat) : I64 (updC Y i x y z j) := by
  unfold updC
  repeat' split
  · exact hx
  · exact hy
  · exact hz
  · exact hY _
theorem ExactW {X : Nat → Int} (hX : ∀ j, I64 (X j)) {v : Int} (h : detM X = v) : Ans 31 #[.agg (m9 X)] (V v) := h ▸ Exact4 hX
theorem sgn_ne {d : Int} (h : d ≠ 0) : (sgn d == 0) = false ∧ (sgn d != 0) = true ∧ decide (sgn d = 0) = false := by
  have e : sgn d ≠ 0 := by unfold sgn; repeat' split <;> omega
  simp [e]
theorem RSolveNo {X : Nat → Int} (hX : ∀ j, I64 (X j)) (x y z : Int) (h0 : detM X = 0) : Ans 13 #[.agg (m9 X), .agg (v3 x y z)] (.tuple #[.agg (v3 0 0 0), .bool false]) := fun w => by
  have s : Ans 32 #[V (detM X)] (.int .i64 0) := fun u => by
    have t := refSign (detM X) ((detM_sz hX).fit (by decide)) u
    rw [show sgn (detM X) = 0 by rw [h0]; rfl] at t
    exact t
  exact rsolve_none X x y z _ w (Exact4 hX) s
theorem RSolveYes {X : Nat → Int} (hX : ∀ j, I64 (X j)) {x y z : Int} (hx : I64 x) (hy : I64 y) (hz : I64 z) (h0 : detM X ≠ 0) : Ans 13 #[.agg (m9 X), .agg (v3 x y z)] (.tuple #[.agg (v3 (svI X x y z 0) (svI X x y z 1) (svI X x y z 2)), .bool true]) := fun w => by
  have k := sgn_ne h0
  have hd := (detM_sz hX).mono (show 192 ≤ 300 by decide)
  have s : ∀ k, Sz 300 (mnr X 0 k * x + mnr X 1 k * y + mnr X 2 k * z) := fun k => by
    have s1 := (mnr_sz hX 0 k).mul hx.sz
    have s2 := (mnr_sz hX 1 k).mul hy.sz
    have s3 := (mnr_sz hX 2 k).mul hz.sz
    exact ((s1.add s2).add (s3.mono (by decide))).mono (by decide)
  have hu := fun i => tr_64 (updC_64 (tr_64 hX) hx hy hz i)
  exact rsolve_core X _ _ _ x y z _ _ _ _ _ _ _ _ w k.1 k.2.1 k.2.2 (Exact4 hX) (fun u => refSign _ (hd.fit (by decide)) u) (With4 X 0 (by decide) x y z) (ExactW (hu 0) (det_with0 X x y z)) (Over4 _ _ (s 0) hd h0) (With4 X 1 (by decide) x y z) (ExactW (hu 1) (det_with1 X x y z)) (Over4 _ _ (s 1) hd h0) (With4 X 2 (by decide) x y z) (ExactW (hu 2) (det_with2 X x y z)) (Over4 _ _ (s 2) hd h0)
set_option maxHeartbeats 2000000 in
theorem rinverse_none (X : Nat → Int) (w : World) (s0 : Hid (Ans 13 #[.agg (m9 X), .agg (v3 4294967296 0 0)] (.tuple #[.agg (v3 0 0 0), .bool false]))) (s1 : Hid (Ans 13 #[.agg (m9 X), .agg (v3 0 4294967296 0)] (.tuple #[.agg (v3 0 0 0), .bool false]))) (s2 : Hid (Ans 13 #[.agg (m9 X), .agg (v3 0 0 4294967296)] (.tuple #[.agg (v3 0 0 0), .bool false]))) :
    Calls Tryz.prog 11 #[.agg (m9 X)] w fun e w' => e = .returned (.tuple #[.agg zM, .bool false]) ∧ Below w.heap.size w w' := by
  go_enter Tryz.func11, Tryz.ntmps11
  go_upto_region 1 with fail
  have D := hide (((Gen.start w).push 27 (m9 X)).push 27 zM)
  simp only [szA] at D
  go_upto_region 2 with (first | (with_reducible refine at_list ?_; apply ldG (unhide D) rMat _ rfl rfl rfl (by repeat (first | exact List.mem_cons_self | apply List.mem_cons_of_mem)) rfl) | (go_at_call 13; with_reducible refine (unhide s0 _).mono ?_; rintro e w' ⟨he, hb⟩; subst he; have D := hide ((unhide D).keep hb); clear hb) | (with_reducible refine at_list ?_; refine stG (unhide D) rVec _ _ rfl rfl rfl rfl rfl rfl (v3_one _ _ _) ?_; intro D'; have D := hide D'; clear D'))
  clear s0
  generalize w'.heap.size = g1 at *
  go_upto_region 3 with (first | (with_reducible refine at_list ?_; apply ldG (unhide D) rMat _ rfl rfl rfl (by repeat (first | exact List.mem_cons_self | apply List.mem_cons_of_mem)) rfl) | (go_at_call 13; with_reducible refine (unhide s1 _).mono ?_; rintro e w' ⟨he, hb⟩; subst he; have D := hide ((unhide D).keep hb); clear hb) | (with_reducible refine at_list ?_; refine stG (unhide D) rVec _ _ rfl rfl rfl rfl rfl rfl (v3_one _ _ _) ?_; intro D'; have D := hide D'; clear D'))
  clear s1
  generalize w'.heap.size = g2 at *
  go_upto_region 4 with (first | (with_reducible refine at_list ?_; apply ldG (unhide D) rMat _ rfl rfl rfl (by repeat (first | exact List.mem_cons_self | apply List.mem_cons_of_mem)) rfl) | (go_at_call 13; with_reducible refine (unhide s2 _).mono ?_; rintro e w' ⟨he, hb⟩; subst he; have D := hide ((unhide D).keep hb); clear hb) | (with_reducible refine at_list ?_; refine stG (unhide D) rVec _ _ rfl rfl rfl rfl rfl rfl (v3_one _ _ _) ?_; intro D'; have D := hide D'; clear D'))
  clear s2
  generalize w'.heap.size = g3 at *
  go_wp2_with (first | (with_reducible refine at_list ?_;  refine bd0 27 rfl rfl (show Tryz.prog.built 27 [] = some zM by kernel_rfl) ?_) | (with_reducible refine at_list ?_; apply stGend (unhide D) rMat _ _ rfl rfl rfl rfl (by repeat (first | exact List.mem_cons_self | apply List.mem_cons_of_mem)) (by omega) rfl rfl (m9_one (fun _ => 0)); intro B O))
  exact resGT rMat (unhide B) rfl rfl rfl rfl rfl ⟨rfl, unhide O⟩
theorem tr_tr (f : Nat → Int) : m9 (tr (tr f)) = m9 f := rfl
theorem RTurnedB (f : Nat → Int) : Ans 19 #[.agg (m9 (tr f))] (.agg (m9 f)) := RTurnedZ (tr f)
set_option maxHeartbeats 2000000 in
theorem rinverse_core (X f : Nat → Int) (w : World) (s0 : Hid (Ans 13 #[.agg (m9 X), .agg (v3 4294967296 0 0)] (.tuple #[.agg (v3 (f 0) (f 3) (f 6)), .bool true]))) (s1 : Hid (Ans 13 #[.agg (m9 X), .agg (v3 0 4294967296 0)] (.tuple #[.agg (v3 (f 1) (f 4) (f 7)), .bool true]))) (s2 : Hid (Ans 13 #[.agg (m9 X), .agg (v3 0 0 4294967296)] (.tuple #[.agg (v3 (f 2) (f 5) (f 8)), .bool true]))) (hR : Hid (Ans 20 #[.agg (v3 (f 0) (f 3) (f 6)), .agg (v3 (f 1) (f 4) (f 7)), .agg (v3 (f 2) (f 5) (f 8))] (.agg (m9 (tr f))))) (hT : Hid (Ans 19 #[.agg (m9 (tr f))] (.agg (m9 f)))) :
    Calls Tryz.prog 11 #[.agg (m9 X)] w fun e w' => e = .returned (.tuple #[.agg (m9 f), .bool true]) ∧ Below w.heap.size w w' := by
  go_enter Tryz.func11, Tryz.ntmps11
  go_upto_region 1 with fail
  have D := hide (((Gen.start w).push 27 (m9 X)).push 27 zM)
  simp only [szA] at D
  go_upto_region 2 with (first | (with_reducible refine at_list ?_; apply ldG (unhide D) rMat _ rfl rfl rfl (by repeat (first | exact List.mem_cons_self | apply List.mem_cons_of_mem)) rfl) | (go_at_call 13; with_reducible refine (unhide s0 _).mono ?_; rintro e w' ⟨he, hb⟩; subst he; have D := hide ((unhide D).keep hb); clear hb) | (with_reducible refine at_list ?_; refine stG (unhide D) rVec _ _ rfl rfl rfl rfl rfl rfl (v3_one _ _ _) ?_; intro D'; have D := hide D'; clear D'))
  clear s0
  generalize w'.heap.size = g1 at *
  go_upto_region 3 with (first | (with_reducible refine at_list ?_; apply ldG (unhide D) rMat _ rfl rfl rfl (by repeat (first | exact List.mem_cons_self | apply List.mem_cons_of_mem)) rfl) | (go_at_call 13; with_reducible refine (unhide s1 _).mono ?_; rintro e w' ⟨he, hb⟩; subst he; have D := hide ((unhide D).keep hb); clear hb) | (with_reducible refine at_list ?_; refine stG (unhide D) rVec _ _ rfl rfl rfl rfl rfl rfl (v3_one _ _ _) ?_; intro D'; have D := hide D'; clear D'))
  clear s1
  generalize w'.heap.size = g2 at *
  go_upto_region 4 with (first | (with_reducible refine at_list ?_; apply ldG (unhide D) rMat _ rfl rfl rfl (by repeat (first | exact List.mem_cons_self | apply List.mem_cons_of_mem)) rfl) | (go_at_call 13; with_reducible refine (unhide s2 _).mono ?_; rintro e w' ⟨he, hb⟩; subst he; have D := hide ((unhide D).keep hb); clear hb) | (with_reducible refine at_list ?_; refine stG (unhide D) rVec _ _ rfl rfl rfl rfl rfl rfl (v3_one _ _ _) ?_; intro D'; have D := hide D'; clear D'))
  clear s2
  generalize w'.heap.size = g3 at *
  go_wp2_with (first | (with_reducible refine at_list ?_; apply ldG (unhide D) rVec _ rfl rfl rfl (by repeat (first | exact List.mem_cons_self | apply List.mem_cons_of_mem)) rfl) | (go_at_call 20; with_reducible refine (unhide hR _).mono ?_; rintro e w' ⟨he, hb⟩; subst he; have D := hide ((unhide D).keep hb); clear hb) | (go_at_call 19; with_reducible refine (unhide hT _).mono ?_; rintro e w' ⟨he, hb⟩; subst he; have D := hide ((unhide D).keep hb); clear hb) | (with_reducible refine at_list ?_; apply stGend (unhide D) rMat _ _ rfl rfl rfl rfl (by repeat (first | exact List.mem_cons_self | apply List.mem_cons_of_mem)) (by omega) rfl rfl (m9_one _); intro B O))
  exact resGT rMat (unhide B) rfl rfl rfl rfl rfl ⟨rfl, unhide O⟩
theorem sv_iv0 (X : Nat → Int) (k : Nat) : svI X 4294967296 0 0 k = ivI X (k * 3 + 0) := by
  have e1 : (k * 3 + 0) / 3 = k := by omega
  have e2 : (k * 3 + 0) % 3 = 0 := by omega
  unfold svI ivI
  rw [e1, e2]
  unfold mquo
  generalize mnr X 0 k = m0
  generalize mnr X 1 k = m1
  generalize mnr X 2 k = m2
  have e : (m0 * 4294967296 + m1 * 0 + m2 * 0) * ((2 ^ 32 : Nat) : Int) = m0 * ((2 ^ 64 : Nat) : Int) := by omega
  rw [e]
theorem aw_i0 : I64 0 := ⟨by decide, by decide⟩
theorem RSolveE0 {X : Nat → Int} (hX : ∀ j, I64 (X j)) (h0 : detM X ≠ 0) : Ans 13 #[.agg (m9 X), .agg (v3 4294967296 0 0)] (.tuple #[.agg (v3 (ivI X 0) (ivI X 3) (ivI X 6)), .bool true]) := by
  have t := RSolveYes hX aw_i5 aw_i0 aw_i0 h0
  rw [sv_iv0 X 0, sv_iv0 X 1, sv_iv0 X 2] at t
  exact t
theorem sv_iv1 (X : Nat → Int) (k : Nat) : svI X 0 4294967296 0 k = ivI X (k * 3 + 1) := by
  have e1 : (k * 3 + 1) / 3 = k := by omega
  have e2 : (k * 3 + 1) % 3 = 1 := by omega
  unfold svI ivI
  rw [e1, e2]
  unfold mquo
  generalize mnr X 0 k = m0
  generalize mnr X 1 k = m1
  generalize mnr X 2 k = m2
  have e : (m0 * 0 + m1 * 4294967296 + m2 * 0) * ((2 ^ 32 : Nat) : Int) = m1 * ((2 ^ 64 : Nat) : Int) := by omega
  rw [e]
theorem RSolveE1 {X : Nat → Int} (hX : ∀ j, I64 (X j)) (h0 : detM X ≠ 0) : Ans 13 #[.agg (m9 X), .agg (v3 0 4294967296 0)] (.tuple #[.agg (v3 (ivI X 1) (ivI X 4) (ivI X 7)), .bool true]) := by
  have t := RSolveYes hX aw_i0 aw_i5 aw_i0 h0
  rw [sv_iv1 X 0, sv_iv1 X 1, sv_iv1 X 2] at t
  exact t
theorem sv_iv2 (X : Nat → Int) (k : Nat) : svI X 0 0 4294967296 k = ivI X (k * 3 + 2) := by
  have e1 : (k * 3 + 2) / 3 = k := by omega
  have e2 : (k * 3 + 2) % 3 = 2 := by omega
  unfold svI ivI
  rw [e1, e2]
  unfold mquo
  generalize mnr X 0 k = m0
  generalize mnr X 1 k = m1
  generalize mnr X 2 k = m2
  have e : (m0 * 0 + m1 * 0 + m2 * 4294967296) * ((2 ^ 32 : Nat) : Int) = m2 * ((2 ^ 64 : Nat) : Int) := by omega
  rw [e]
theorem RSolveE2 {X : Nat → Int} (hX : ∀ j, I64 (X j)) (h0 : detM X ≠ 0) : Ans 13 #[.agg (m9 X), .agg (v3 0 0 4294967296)] (.tuple #[.agg (v3 (ivI X 2) (ivI X 5) (ivI X 8)), .bool true]) := by
  have t := RSolveYes hX aw_i0 aw_i0 aw_i5 h0
  rw [sv_iv2 X 0, sv_iv2 X 1, sv_iv2 X 2] at t
  exact t
theorem RInverseYes {X : Nat → Int} (hX : ∀ j, I64 (X j)) (h0 : detM X ≠ 0) : Ans 11 #[.agg (m9 X)] (.tuple #[.agg (m9 (ivI X)), .bool true]) := fun w =>
  rinverse_core X (ivI X) w (RSolveE0 hX h0) (RSolveE1 hX h0) (RSolveE2 hX h0) (RRowsT (ivI X)) (RTurnedB (ivI X))
theorem RInverseNo {X : Nat → Int} (hX : ∀ j, I64 (X j)) (h0 : detM X = 0) : Ans 11 #[.agg (m9 X)] (.tuple #[.agg zM, .bool false]) := fun w =>
  rinverse_none X w (RSolveNo hX _ _ _ h0) (RSolveNo hX _ _ _ h0) (RSolveNo hX _ _ _ h0)
set_option maxHeartbeats 4000000 in
theorem matInverse_true (X R : Nat → Int) (x y z p q r : Int) (w : World) (h0 : Hid (Ans 10 #[.agg (m9 X)] (.tuple #[.agg (m9 R), .bool true]))) (h1 : Hid (Ans 11 #[.agg (m9 X)] (.tuple #[.agg (m9 R), .bool true]))) (h2 : Hid (Ans 12 #[.agg (m9 X), .agg (v3 x y z)] (.tuple #[.agg (v3 p q r), .bool true]))) (h3 : Hid (Ans 13 #[.agg (m9 X), .agg (v3 x y z)] (.tuple #[.agg (v3 p q r), .bool true]))) (h4 : Hid (Ans 9 #[] (.bool true))) : Calls Tryz.prog 4 #[.agg (m9 X), .agg (v3 x y z)] w fun e w' => e = .returned (.bool true) ∧ Below w.heap.size w w' := by
  go_enter Tryz.func4, Tryz.ntmps4
  go_upto_region 1 with fail
  have D := hide ((((Gen.start w).push 27 (m9 X)).push 24 (v3 x y z)))
  simp only [szA] at D
  refine list_start (S := Gen w _) (unhide D) ?_
  clear D
  refine list_read (v := .agg (m9 X)) rfl rfl (fun u hS => exec_loadG (g := w.heap.size) (cs := m9 X) hS rMat _ rfl rfl (by repeat (first | exact List.mem_cons_self | apply List.mem_cons_of_mem)) rfl) ?_
  try go_simp
  refine list_call (v := .tuple #[.agg (m9 R), .bool true]) (f := 10) (args := #[.agg (m9 X)]) rfl rfl (fun u hS => by go_simp) (fun u hS => (unhide h0 u).mono fun _ _ ⟨he, hb⟩ => ⟨he, hS.keep hb⟩) ?_
  try go_simp
  refine list_read (v := .tuple #[.agg (m9 R), .bool true]) rfl rfl (fun u hS => by go_simp) ?_
  try go_simp
  refine list_read (v := .agg (m9 R)) rfl rfl (fun u hS => by go_simp) ?_
  try go_simp
  refine list_read (v := .bool true) rfl rfl (fun u hS => by go_simp) ?_
  try go_simp
  intro u1 hS
  have D := hide hS
  clear hS
  go_upto_region 2 with (first | (with_reducible refine at_list ?_; refine stG (unhide D) rMat _ _ rfl rfl rfl rfl rfl rfl (m9_one _) ?_; intro D'; have D := hide D'; clear D'))
  generalize hz_g1 : u1.heap.size = g1 at *
  clear hz_g1
  refine list_start (S := Gen w _) (unhide D) ?_
  clear D
  refine list_read (v := .agg (m9 X)) rfl rfl (fun u hS => exec_loadG (g := w.heap.size) (cs := m9 X) hS rMat _ rfl rfl (by repeat (first | exact List.mem_cons_self | apply List.mem_cons_of_mem)) rfl) ?_
  try go_simp
  refine list_call (v := .tuple #[.agg (m9 R), .bool true]) (f := 11) (args := #[.agg (m9 X)]) rfl rfl (fun u hS => by go_simp) (fun u hS => (unhide h1 u).mono fun _ _ ⟨he, hb⟩ => ⟨he, hS.keep hb⟩) ?_
  try go_simp
  refine list_read (v := .tuple #[.agg (m9 R), .bool true]) rfl rfl (fun u hS => by go_simp) ?_
  try go_simp
  refine list_read (v := .agg (m9 R)) rfl rfl (fun u hS => by go_simp) ?_
  try go_simp
  refine list_read (v := .bool true) rfl rfl (fun u hS => by go_simp) ?_
  try go_simp
  intro u2 hS
  have D := hide hS
  clear hS
  go_upto_region 3 with (first | (with_reducible refine at_list ?_; refine stG (unhide D) rMat _ _ rfl rfl rfl rfl rfl rfl (m9_one _) ?_; intro D'; have D := hide D'; clear D'))
  generalize hz_g2 : u2.heap.size = g2 at *
  clear hz_g2
  refine list_start (S := Gen w _) (unhide D) ?_
  clear D
  refine list_read (v := .agg (m9 X)) rfl rfl (fun u hS => exec_loadG (g := w.heap.size) (cs := m9 X) hS rMat _ rfl rfl (by repeat (first | exact List.mem_cons_self | apply List.mem_cons_of_mem)) rfl) ?_
  try go_simp
  refine list_read (v := .agg (v3 x y z)) rfl rfl (fun u hS => exec_loadG (g := w.heap.size + 1) (cs := v3 x y z) hS rVec _ rfl rfl (by repeat (first | exact List.mem_cons_self | apply List.mem_cons_of_mem)) rfl) ?_
  try go_simp
  refine list_call (v := .tuple #[.agg (v3 p q r), .bool true]) (f := 12) (args := #[.agg (m9 X), .agg (v3 x y z)]) rfl rfl (fun u hS => by go_simp) (fun u hS => (unhide h2 u).mono fun _ _ ⟨he, hb⟩ => ⟨he, hS.keep hb⟩) ?_
  try go_simp
  refine list_read (v := .tuple #[.agg (v3 p q r), .bool true]) rfl rfl (fun u hS => by go_simp) ?_
  try go_simp
  refine list_read (v := .agg (v3 p q r)) rfl rfl (fun u hS => by go_simp) ?_
  try go_simp
  refine list_read (v := .bool true) rfl rfl (fun u hS => by go_simp) ?_
  try go_simp
  intro u3 hS
  have D := hide hS
  clear hS
  go_upto_region 4 with (first | (with_reducible refine at_list ?_; refine stG (unhide D) rVec _ _ rfl rfl rfl rfl rfl rfl (v3_one _ _ _) ?_; intro D'; have D := hide D'; clear D'))
  generalize hz_g3 : u3.heap.size = g3 at *
  clear hz_g3
  refine list_start (S := Gen w _) (unhide D) ?_
  clear D
  refine list_read (v := .agg (m9 X)) rfl rfl (fun u hS => exec_loadG (g := w.heap.size) (cs := m9 X) hS rMat _ rfl rfl (by repeat (first | exact List.mem_cons_self | apply List.mem_cons_of_mem)) rfl) ?_
  try go_simp
  refine list_read (v := .agg (v3 x y z)) rfl rfl (fun u hS => exec_loadG (g := w.heap.size + 1) (cs := v3 x y z) hS rVec _ rfl rfl (by repeat (first | exact List.mem_cons_self | apply List.mem_cons_of_mem)) rfl) ?_
  try go_simp
  refine list_call (v := .tuple #[.agg (v3 p q r), .bool true]) (f := 13) (args := #[.agg (m9 X), .agg (v3 x y z)]) rfl rfl (fun u hS => by go_simp) (fun u hS => (unhide h3 u).mono fun _ _ ⟨he, hb⟩ => ⟨he, hS.keep hb⟩) ?_
  try go_simp
  refine list_read (v := .tuple #[.agg (v3 p q r), .bool true]) rfl rfl (fun u hS => by go_simp) ?_
  try go_simp
  refine list_read (v := .agg (v3 p q r)) rfl rfl (fun u hS => by go_simp) ?_
  try go_simp
  refine list_read (v := .bool true) rfl rfl (fun u hS => by go_simp) ?_
  try go_simp
  intro u4 hS
  have D := hide hS
  clear hS
  go_upto_region 5 with (first | (with_reducible refine at_list ?_; refine stG (unhide D) rVec _ _ rfl rfl rfl rfl rfl rfl (v3_one _ _ _) ?_; intro D'; have D := hide D'; clear D'))
  generalize hz_g4 : u4.heap.size = g4 at *
  clear hz_g4
  refine list_start (S := Gen w _) (unhide D) ?_
  clear D
  refine list_read (v := .agg (m9 R)) rfl rfl (fun u hS => exec_loadG (g := g1) (cs := m9 R) hS rMat _ rfl rfl (by repeat (first | exact List.mem_cons_self | apply List.mem_cons_of_mem)) rfl) ?_
  try go_simp
  refine list_read (v := .agg (m9 R)) rfl rfl (fun u hS => exec_loadG (g := g2) (cs := m9 R) hS rMat _ rfl rfl (by repeat (first | exact List.mem_cons_self | apply List.mem_cons_of_mem)) rfl) ?_
  try go_simp
  refine list_read (v := .bool true) rfl rfl (fun u hS => exec_eql_mat _ _ _ (sameM_self _) rfl rfl rfl) ?_
  try go_simp
  refine list_read (v := .bool true) rfl rfl (fun u hS => by go_simp) ?_
  try go_simp
  refine list_read (v := .bool true) rfl rfl (fun u hS => by go_simp) ?_
  try go_simp
  refine list_read (v := .bool true) rfl rfl (fun u hS => by go_simp) ?_
  try go_simp
  refine list_read (v := .bool true) rfl rfl (fun u hS => by go_simp) ?_
  try go_simp
  refine list_read (v := .bool true) rfl rfl (fun u hS => by go_simp) ?_
  try go_simp
  refine list_read (v := .bool true) rfl rfl (fun u hS => by go_simp) ?_
  try go_simp
  refine list_read (v := .agg (v3 p q r)) rfl rfl (fun u hS => exec_loadG (g := g3) (cs := v3 p q r) hS rVec _ rfl rfl (by repeat (first | exact List.mem_cons_self | apply List.mem_cons_of_mem)) rfl) ?_
  try go_simp
  refine list_read (v := .agg (v3 p q r)) rfl rfl (fun u hS => exec_loadG (g := g4) (cs := v3 p q r) hS rVec _ rfl rfl (by repeat (first | exact List.mem_cons_self | apply List.mem_cons_of_mem)) rfl) ?_
  try go_simp
  refine list_read (v := .bool true) rfl rfl (fun u hS => exec_eql_vec _ _ _ (sameV_selfC _ _ _) rfl rfl rfl) ?_
  try go_simp
  refine list_read (v := .bool true) rfl rfl (fun u hS => by go_simp) ?_
  try go_simp
  refine list_read (v := .bool true) rfl rfl (fun u hS => by go_simp) ?_
  try go_simp
  refine list_read (v := .bool true) rfl rfl (fun u hS => by go_simp) ?_
  try go_simp
  refine list_read (v := .bool true) rfl rfl (fun u hS => by go_simp) ?_
  try go_simp
  refine list_read (v := .bool true) rfl rfl (fun u hS => by go_simp) ?_
  try go_simp
  refine list_read (v := .bool true) rfl rfl (fun u hS => by go_simp) ?_
  try go_simp
  refine list_read (v := .bool true) rfl rfl (fun u hS => by go_simp) ?_
  try go_simp
  refine list_call (v := .bool true) (f := 9) (args := #[]) rfl rfl (fun u hS => by go_simp) (fun u hS => (unhide h4 u).mono fun _ _ ⟨he, hb⟩ => ⟨he, hS.keep hb⟩) ?_
  try go_simp
  refine list_read (v := .bool true) rfl rfl (fun u hS => by go_simp) ?_
  try go_simp
  refine list_read (v := .bool true) rfl rfl (fun u hS => by go_simp) ?_
  try go_simp
  refine list_end (fun u5 hS => ?_)
  have D := hide hS
  clear hS
  go_wp2
  go_ret
  exact ⟨rfl, (unhide D).o⟩
set_option maxHeartbeats 4000000 in
theorem matInverse_false (X R : Nat → Int) (x y z p q r : Int) (w : World) (h0 : Hid (Ans 10 #[.agg (m9 X)] (.tuple #[.agg (m9 R), .bool false]))) (h1 : Hid (Ans 11 #[.agg (m9 X)] (.tuple #[.agg (m9 R), .bool false]))) (h2 : Hid (Ans 12 #[.agg (m9 X), .agg (v3 x y z)] (.tuple #[.agg (v3 p q r), .bool false]))) (h3 : Hid (Ans 13 #[.agg (m9 X), .agg (v3 x y z)] (.tuple #[.agg (v3 p q r), .bool false]))) (h4 : Hid (Ans 9 #[] (.bool true))) : Calls Tryz.prog 4 #[.agg (m9 X), .agg (v3 x y z)] w fun e w' => e = .returned (.bool true) ∧ Below w.heap.size w w' := by
  go_enter Tryz.func4, Tryz.ntmps4
  go_upto_region 1 with fail
  have D := hide ((((Gen.start w).push 27 (m9 X)).push 24 (v3 x y z)))
  simp only [szA] at D
  refine list_start (S := Gen w _) (unhide D) ?_
  clear D
  refine list_read (v := .agg (m9 X)) rfl rfl (fun u hS => exec_loadG (g := w.heap.size) (cs := m9 X) hS rMat _ rfl rfl (by repeat (first | exact List.mem_cons_self | apply List.mem_cons_of_mem)) rfl) ?_
  try go_simp
  refine list_call (v := .tuple #[.agg (m9 R), .bool false]) (f := 10) (args := #[.agg (m9 X)]) rfl rfl (fun u hS => by go_simp) (fun u hS => (unhide h0 u).mono fun _ _ ⟨he, hb⟩ => ⟨he, hS.keep hb⟩) ?_
  try go_simp
  refine list_read (v := .tuple #[.agg (m9 R), .bool false]) rfl rfl (fun u hS => by go_simp) ?_
  try go_simp
  refine list_read (v := .agg (m9 R)) rfl rfl (fun u hS => by go_simp) ?_
  try go_simp
  refine list_read (v := .bool false) rfl rfl (fun u hS => by go_simp) ?_
  try go_simp
  intro u1 hS
  have D := hide hS
  clear hS
  go_upto_region 2 with (first | (with_reducible refine at_list ?_; refine stG (unhide D) rMat _ _ rfl rfl rfl rfl rfl rfl (m9_one _) ?_; intro D'; have D := hide D'; clear D'))
  generalize hz_g1 : u1.heap.size = g1 at *
  clear hz_g1
  refine list_start (S := Gen w _) (unhide D) ?_
  clear D
  refine list_read (v := .agg (m9 X)) rfl rfl (fun u hS => exec_loadG (g := w.heap.size) (cs := m9 X) hS rMat _ rfl rfl (by repeat (first | exact List.mem_cons_self | apply List.mem_cons_of_mem)) rfl) ?_
  try go_simp
  refine list_call (v := .tuple #[.agg (m9 R), .bool false]) (f := 11) (args := #[.agg (m9 X)]) rfl rfl (fun u hS => by go_simp) (fun u hS => (unhide h1 u).mono fun _ _ ⟨he, hb⟩ => ⟨he, hS.keep hb⟩) ?_
  try go_simp
  refine list_read (v := .tuple #[.agg (m9 R), .bool false]) rfl rfl (fun u hS => by go_simp) ?_
  try go_simp
  refine list_read (v := .agg (m9 R)) rfl rfl (fun u hS => by go_simp) ?_
  try go_simp
  refine list_read (v := .bool false) rfl rfl (fun u hS => by go_simp) ?_
  try go_simp
  intro u2 hS
  have D := hide hS
  clear hS
  go_upto_region 3 with (first | (with_reducible refine at_list ?_; refine stG (unhide D) rMat _ _ rfl rfl rfl rfl rfl rfl (m9_one _) ?_; intro D'; have D := hide D'; clear D'))
  generalize hz_g2 : u2.heap.size = g2 at *
  clear hz_g2
  refine list_start (S := Gen w _) (unhide D) ?_
  clear D
  refine list_read (v := .agg (m9 X)) rfl rfl (fun u hS => exec_loadG (g := w.heap.size) (cs := m9 X) hS rMat _ rfl rfl (by repeat (first | exact List.mem_cons_self | apply List.mem_cons_of_mem)) rfl) ?_
  try go_simp
  refine list_read (v := .agg (v3 x y z)) rfl rfl (fun u hS => exec_loadG (g := w.heap.size + 1) (cs := v3 x y z) hS rVec _ rfl rfl (by repeat (first | exact List.mem_cons_self | apply List.mem_cons_of_mem)) rfl) ?_
  try go_simp
  refine list_call (v := .tuple #[.agg (v3 p q r), .bool false]) (f := 12) (args := #[.agg (m9 X), .agg (v3 x y z)]) rfl rfl (fun u hS => by go_simp) (fun u hS => (unhide h2 u).mono fun _ _ ⟨he, hb⟩ => ⟨he, hS.keep hb⟩) ?_
  try go_simp
  refine list_read (v := .tuple #[.agg (v3 p q r), .bool false]) rfl rfl (fun u hS => by go_simp) ?_
  try go_simp
  refine list_read (v := .agg (v3 p q r)) rfl rfl (fun u hS => by go_simp) ?_
  try go_simp
  refine list_read (v := .bool false) rfl rfl (fun u hS => by go_simp) ?_
  try go_simp
  intro u3 hS
  have D := hide hS
  clear hS
  go_upto_region 4 with (first | (with_reducible refine at_list ?_; refine stG (unhide D) rVec _ _ rfl rfl rfl rfl rfl rfl (v3_one _ _ _) ?_; intro D'; have D := hide D'; clear D'))
  generalize hz_g3 : u3.heap.size = g3 at *
  clear hz_g3
  refine list_start (S := Gen w _) (unhide D) ?_
  clear D
  refine list_read (v := .agg (m9 X)) rfl rfl (fun u hS => exec_loadG (g := w.heap.size) (cs := m9 X) hS rMat _ rfl rfl (by repeat (first | exact List.mem_cons_self | apply List.mem_cons_of_mem)) rfl) ?_
  try go_simp
  refine list_read (v := .agg (v3 x y z)) rfl rfl (fun u hS => exec_loadG (g := w.heap.size + 1) (cs := v3 x y z) hS rVec _ rfl rfl (by repeat (first | exact List.mem_cons_self | apply List.mem_cons_of_mem)) rfl) ?_
  try go_simp
  refine list_call (v := .tuple #[.agg (v3 p q r), .bool false]) (f := 13) (args := #[.agg (m9 X), .agg (v3 x y z)]) rfl rfl (fun u hS => by go_simp) (fun u hS => (unhide h3 u).mono fun _ _ ⟨he, hb⟩ => ⟨he, hS.keep hb⟩) ?_
  try go_simp
  refine list_read (v := .tuple #[.agg (v3 p q r), .bool false]) rfl rfl (fun u hS => by go_simp) ?_
  try go_simp
  refine list_read (v := .agg (v3 p q r)) rfl rfl (fun u hS => by go_simp) ?_
  try go_simp
  refine list_read (v := .bool false) rfl rfl (fun u hS => by go_simp) ?_
  try go_simp
  intro u4 hS
  have D := hide hS
  clear hS
  go_upto_region 5 with (first | (with_reducible refine at_list ?_; refine stG (unhide D) rVec _ _ rfl rfl rfl rfl rfl rfl (v3_one _ _ _) ?_; intro D'; have D := hide D'; clear D'))
  generalize hz_g4 : u4.heap.size = g4 at *
  clear hz_g4
  refine list_start (S := Gen w _) (unhide D) ?_
  clear D
  refine list_read (v := .agg (m9 R)) rfl rfl (fun u hS => exec_loadG (g := g1) (cs := m9 R) hS rMat _ rfl rfl (by repeat (first | exact List.mem_cons_self | apply List.mem_cons_of_mem)) rfl) ?_
  try go_simp
  refine list_read (v := .agg (m9 R)) rfl rfl (fun u hS => exec_loadG (g := g2) (cs := m9 R) hS rMat _ rfl rfl (by repeat (first | exact List.mem_cons_self | apply List.mem_cons_of_mem)) rfl) ?_
  try go_simp
  refine list_read (v := .bool true) rfl rfl (fun u hS => exec_eql_mat _ _ _ (sameM_self _) rfl rfl rfl) ?_
  try go_simp
  refine list_read (v := .bool true) rfl rfl (fun u hS => by go_simp) ?_
  try go_simp
  refine list_read (v := .bool false) rfl rfl (fun u hS => by go_simp) ?_
  try go_simp
  refine list_read (v := .bool false) rfl rfl (fun u hS => by go_simp) ?_
  try go_simp
  refine list_read (v := .bool true) rfl rfl (fun u hS => by go_simp) ?_
  try go_simp
  refine list_read (v := .bool true) rfl rfl (fun u hS => by go_simp) ?_
  try go_simp
  refine list_read (v := .bool true) rfl rfl (fun u hS => by go_simp) ?_
  try go_simp
  refine list_read (v := .agg (v3 p q r)) rfl rfl (fun u hS => exec_loadG (g := g3) (cs := v3 p q r) hS rVec _ rfl rfl (by repeat (first | exact List.mem_cons_self | apply List.mem_cons_of_mem)) rfl) ?_
  try go_simp
  refine list_read (v := .agg (v3 p q r)) rfl rfl (fun u hS => exec_loadG (g := g4) (cs := v3 p q r) hS rVec _ rfl rfl (by repeat (first | exact List.mem_cons_self | apply List.mem_cons_of_mem)) rfl) ?_
  try go_simp
  refine list_read (v := .bool true) rfl rfl (fun u hS => exec_eql_vec _ _ _ (sameV_selfC _ _ _) rfl rfl rfl) ?_
  try go_simp
  refine list_read (v := .bool true) rfl rfl (fun u hS => by go_simp) ?_
  try go_simp
  refine list_read (v := .bool true) rfl rfl (fun u hS => by go_simp) ?_
  try go_simp
  refine list_read (v := .bool false) rfl rfl (fun u hS => by go_simp) ?_
  try go_simp
  refine list_read (v := .bool false) rfl rfl (fun u hS => by go_simp) ?_
  try go_simp
  refine list_read (v := .bool true) rfl rfl (fun u hS => by go_simp) ?_
  try go_simp
  refine list_read (v := .bool true) rfl rfl (fun u hS => by go_simp) ?_
  try go_simp
  refine list_read (v := .bool true) rfl rfl (fun u hS => by go_simp) ?_
  try go_simp
  refine list_call (v := .bool true) (f := 9) (args := #[]) rfl rfl (fun u hS => by go_simp) (fun u hS => (unhide h4 u).mono fun _ _ ⟨he, hb⟩ => ⟨he, hS.keep hb⟩) ?_
  try go_simp
  refine list_read (v := .bool true) rfl rfl (fun u hS => by go_simp) ?_
  try go_simp
  refine list_read (v := .bool true) rfl rfl (fun u hS => by go_simp) ?_
  try go_simp
  refine list_end (fun u5 hS => ?_)
  have D := hide hS
  clear hS
  go_wp2
  go_ret
  exact ⟨rfl, (unhide D).o⟩
theorem matInverse_walk (X0 : Nat → Int) (x1 y1 z1 : Int) (k0 : ∀ j, (Lit.int .i64 (X0 j)).wf = true) (k1 : (Lit.int .i64 x1).wf = true) (l1 : (Lit.int .i64 y1).wf = true) (m1 : (Lit.int .i64 z1).wf = true) (w : World) :
    Calls Tryz.prog 4 #[.agg (m9 X0), .agg (v3 x1 y1 z1)] w fun e w' => e = .returned (.bool true) ∧ Below w.heap.size w w' := by
  have hX : ∀ j, I64 (X0 j) := fun j => I64.wf (k0 j)
  by_cases h0 : detM X0 = 0
  · exact matInverse_false X0 (fun _ => 0) x1 y1 z1 0 0 0 w (InverseNo hX h0) (RInverseNo hX h0) (SolveNo hX _ _ _ h0) (RSolveNo hX _ _ _ h0) Awake4Z
  · exact matInverse_true X0 (ivI X0) x1 y1 z1 _ _ _ w (InverseYes hX h0) (RInverseYes hX h0) (SolveYes hX (I64.wf k1) (I64.wf l1) (I64.wf m1) h0) (RSolveYes hX (I64.wf k1) (I64.wf l1) (I64.wf m1) h0) Awake4Z

end Go.Proofs.YtcbepibdeokboaaGreat

namespace Go.Proofs.YtcbepibdeokboaaGreat
open Go.ChangeShapes Go.WideShapes Go.ChangeAt Go.RowKit
set_option maxRecDepth 4000
set_option linter.unusedVariables false

theorem matInverse_own : ownKnob Tryz.prog.godebug = none := by kernel_rfl

set_option maxRecDepth 100000 in
theorem matInverse_lifted (os : Os) (started : os.Started) (H : Type) (enc : TypeId × Value → H) :
    ReturnsInHanded {} Tryz.checked os 4 .any (Rows.matInverseSpec.pre6 enc Tryz.prog Tryz.f4 Rows.matInverseRow.domain false) (Rows.matInverseSpec.post enc Tryz.prog Tryz.f4 false true false false) := by
  refine returnsInHanded_of_change (C := Tryz.checked) matInverse_own started (by kernel_rfl) Tryz.func4
    (ChangeSpec.witness6 (enc := enc) (C := Tryz.checked) false ⟨#[], #[.agg #[.int .i64 0, .int .i64 0, .int .i64 0, .int .i64 0, .int .i64 0, .int .i64 0, .int .i64 0, .int .i64 0, .int .i64 0], .agg #[.int .i64 0, .int .i64 0, .int .i64 0]], []⟩ 8 (by kernel_rfl) (by kernel_rfl) (by kernel_rfl) (by kernel_rfl)) ?_
  intro W base args ds gs before hval0 hW hcnd _
  have hval : ∀ (j : Nat) t v, Tryz.f4.params[j]? = some t → args[j]? = some v → Value.okWide Tryz.prog W .any base t v := hval0
  have hW' := hW
  obtain ⟨p, q, hA0, hV, rfl, hfz, hnd⟩ := hW
  have hA : DataW.TrodAll enc Tryz.prog W 0 (fun _ => true) true Tryz.f4.params.toList args.toList ds p := hA0
  rw [Tryz.params4] at hA hval
  obtain ⟨v0, vs0, d0, ds0, p0, q0, hargs, rfl, rfl, h0, r0⟩ := trodAll_cons hA
  obtain ⟨v1, vs1, d1, ds1, p1, q1, rfl, rfl, rfl, h1, r1⟩ := trodAll_cons r0
  obtain ⟨rfl, rfl, rfl⟩ := trodAll_nil r1
  obtain rfl : args = #[v0, v1] := by cases args; simp_all
  obtain ⟨rfl, rfl⟩ := trodVars_none hV
  obtain ⟨X0, rfl, rfl, rfl, k0⟩ := open_mat (hval 0 27 v0 rfl rfl) h0
  obtain ⟨x1, y1, z1, rfl, rfl, rfl, k1, l1, m1⟩ := open_vec (hval 1 24 v1 rfl rfl) h1
  clear hA0 hval0
  refine (matInverse_walk X0 x1 y1 z1 k0 k1 l1 m1 W).mono fun e W' ⟨he, bel⟩ => ?_
  subst he
  exact ⟨_, rfl, _, _, _, [], [], [], hW', trodAll_mk1 (shut_bool Tryz.underlying4 _), (trodAll_cons_mk (shut_mat k0) (trodAll_cons_mk (shut_vec k1 l1 m1) trodAll_mk0)), rfl, bel.frame _, fun h => by cases h⟩

theorem matInverse_named : Tryz.pinned.checked.prog.funcNamed Rows.matInverseRow.func = some 4 := by kernel_rfl
theorem matInverse_k1 : (Rows.matInverseRow.wf (OpenSpec.ofChange Rows.matInverseSpec) && laidOutB Tryz.pinned.checked.prog && mapsRowed Tryz.pinned.checked.prog && Tryz.f4.params.all (Tryz.pinned.checked.prog.readableRec ·) && namedTie Tryz.pinned.checked.prog Rows.matInverseRow.named Rows.matInverseSpec.vars) = true := by kernel_rfl
theorem matInverse_k2 : ((Rows.matInverseRow.stops == []) && (Tryz.pinned.checked.prog.stops == []) && (Rows.matInverseRow.knobs == []) && (Tryz.pinned.checked.prog.stopKnobs == [])) = true := by kernel_rfl
theorem matInverse_k3 : (Rows.matInverseRow.inPlace == Tryz.pinned.checked.prog.inPlace 4) = true := by kernel_rfl
theorem matInverse_k4 : (Rows.matInverseRow.unfollowed == Tryz.pinned.checked.prog.unfollowed 4) = true := by kernel_rfl
theorem matInverse_k5 : (Rows.matInverseRow.recurses == Tryz.pinned.checked.prog.recurses 4) = true := by kernel_rfl
theorem matInverse_k6 : (Rows.matInverseRow.named == Tryz.pinned.checked.prog.varsNamed 4) = true := by kernel_rfl
theorem matInverse_k7 : ((Rows.matInverseRow.maps == (Tryz.f4.params.toList ++ Rows.matInverseSpec.plain.varTypes Tryz.pinned.checked.prog).any (Tryz.pinned.checked.prog.mapsRec ·)) && (Rows.matInverseRow.ifaces == (Tryz.f4.params.toList ++ Rows.matInverseSpec.plain.varTypes Tryz.pinned.checked.prog).any (Tryz.pinned.checked.prog.ifacesRec ·)) && (Rows.matInverseRow.mapsOut == Tryz.pinned.checked.prog.mapsAmong Tryz.f4.resultTypes.toList) &&
  (Rows.matInverseRow.loops == (Tryz.f4.params.toList ++ Rows.matInverseSpec.plain.varTypes Tryz.pinned.checked.prog).any (Tryz.pinned.checked.prog.loopsFrom ·)) && (Rows.matInverseRow.wideKeys == (Tryz.f4.params.toList ++ Rows.matInverseSpec.plain.varTypes Tryz.pinned.checked.prog ++ Tryz.f4.resultTypes.toList).any (Tryz.pinned.checked.prog.wideKeysFrom ·)) &&
  Rows.matInverseSpec.vars.all (Tryz.pinned.checked.prog.varReadable ·) && Tryz.f4.resultTypes.all (fun t => Tryz.pinned.checked.prog.readableRec t && decide (t < Tryz.pinned.checked.prog.types.size)) && (Rows.matInverseRow.ifacesOut == Tryz.f4.resultTypes.toList.any (Tryz.pinned.checked.prog.ifacesRec ·)) && (Rows.matInverseRow.loopsOut == Tryz.f4.resultTypes.toList.any (Tryz.pinned.checked.prog.loopsFrom ·)) && (Rows.matInverseRow.plainKeys == Tryz.pinned.checked.prog.plainKeys) && Rows.matInverseRow.shortTexts.isNone) = true := by kernel_rfl
theorem matInverse_k8 : (Rows.matInverseRow.lifted == Rows.matMulRow.lifted) = true := by kernel_rfl
theorem matInverse_k9 : ((Tryz.pinned.checked.prog.make == some Rows.matInverseRow.make) && (Rows.matInverseRow.kinds == (if Rows.matInverseRow.domain.isEmpty then [] else Tryz.f4.params.toList.map fun t => match Tryz.pinned.checked.prog.underlying t with | some (.int k) => some k | _ => none)) && (Rows.matInverseRow.pinned == Rows.matInverseRow.pinnedBy) &&
  (Rows.matInverseRow.veiled == (Tryz.f4.params.toList ++ Rows.matInverseSpec.plain.varTypes Tryz.pinned.checked.prog ++ Tryz.f4.resultTypes.toList).any (Tryz.pinned.checked.prog.veiledRec ·)) && Rows.matInverseRow.veiledFits Tryz.pinned.checked.prog Tryz.f4.params.toList (Tryz.f4.params.toList ++ Rows.matInverseSpec.plain.varTypes Tryz.pinned.checked.prog ++ Tryz.f4.resultTypes.toList)) = true := by kernel_rfl
theorem matInverse_closed : joinedFacts Tryz.pinned.checked.prog 4 Tryz.f4 Rows.matInverseSpec Rows.matInverseRow = true :=
  joined_split ⟨matInverse_k1, matInverse_k2, matInverse_k3, matInverse_k4, matInverse_k5, matInverse_k6, matInverse_k7, seat_heard, seat_enter, lifts_of matInverse_k8, matInverse_k9⟩
theorem matInverse_over : Rows.matInverseRow.holds Tryz.pinned (OpenSpec.ofChange Rows.matInverseSpec) :=
  OpenClaim.holds_of_wide 4 Tryz.f4 rfl rfl rfl rfl rfl rfl rfl ⟨rfl, rfl, rfl, rfl, rfl⟩ rfl rfl rfl rfl rfl matInverse_named Tryz.func4 matInverse_closed
    (of_decide_eq_true (by kernel_rfl)) (by unfold Func.isWrapper; rw [if_neg (of_decide_eq_false (by kernel_rfl))]; exact ⟨rfl, rfl⟩)
    (fun os started H enc _ => matInverse_lifted os started H enc)

/-- The statement. -/
theorem matInverse_holds : Rows.MatInverseSaid := matInverse_over

end Go.Proofs.YtcbepibdeokboaaGreat
