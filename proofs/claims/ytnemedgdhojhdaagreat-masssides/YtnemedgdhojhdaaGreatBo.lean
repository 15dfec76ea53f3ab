/- A range over a function: a round's regions walked as anywhere; blocks across the turn of one that is no cells. -/
import Derived.Test.YtnemedgdhojhdaaGreatTa
import Derived.RangeFuncNested
import Derived.RangeFuncBound
import Derived.RangeFuncCalls
import Derived.RangeFuncLeaves
import Derived.Shelf.Abstract
import Derived.WalkKit
import Derived.OwnWalkIn
import Derived.TacticsInMore
namespace Go.Proofs.YtnemedgdhojhdaaGreat
open Go.RowKit
set_option maxRecDepth 4000
set_option linter.unusedVariables false

/-! Blocks across the turn of one that is no cells. -/
theorem Blk.turned {W W' : World} {g : Nat} {t : TypeId} {cs : Array Value} {row : Option Nat} (h : Blk W g t cs) (hg : W.grownBy W' row) (hr : ∀ r, row = some r → ∃ o : Obj, W.heap[r]? = some o ∧ o.isCells = false) : Blk W' g t cs := by
  have h' : W.heap[g]? = some (.cells cs t (0, 0)) := h
  refine (hg.block g h.lt (fun e => ?_)).trans h'
  obtain ⟨o, ho, hc⟩ := hr g e.symm
  rw [h'] at ho
  cases ho
  cases hc
theorem gen_own {β : Type} {w0 : World} {B : Nat} {f : β → List (Nat × TypeId × Array Value)} (hB : w0.heap.size ≤ B) : OwnFrom B (fun s W => Gen w0 (f s) W) :=
  fun _ _ _ _ hs hg hr => ⟨fun p hp => (hs.at_ p hp).turned hg (fun r e => (hr r e).2), hs.o.grown hg hs.o.size (fun k e => Nat.le_trans hB (hr k e).1)⟩
theorem Below.keepsFrom {B : Nat} {W W' : World} (h : Below W.heap.size W W') : KeepsFrom B W W' :=
  ⟨h.size, fun k o _ hk _ => (h.block k (Array.getElem?_eq_some_iff.1 hk).1).trans hk⟩
theorem KeepsFrom.row {B g : Nat} {W : World} {t : TypeId} {old cs : Array Value} (h : Blk W g t old) : KeepsFrom B W (W.setRow g cs) := by
  refine ⟨by simp, fun k o _ hk ho => ?_⟩
  by_cases e : k = g
  · subst e
    have h' : W.heap[k]? = some (.cells old t (0, 0)) := h
    rw [h'] at hk
    cases hk
    cases ho
  · exact (setRow_other _ _ _ _ e).trans hk
theorem exec_build3 {P : Program} {o : Oper} {a : Act} (w : World) (ty : TypeId) (x y z : Operand) {u v t : Value} {cs : Array Value} (ho : o.op = .build ty #[(0, x), (1, y), (2, z)]) (hx : a.eval x = u) (hy : a.eval y = v) (hz : a.eval z = t) (hb : P.built ty [(0, u), (1, v), (2, t)] = some cs) :
    (execOp a.eval o).run P w = .ok (.value (.agg cs)) w := by
  subst hx hy hz
  unfold execOp
  simp only [ho, Sem.run_bind, run_build w ty (#[(0, x), (1, y), (2, z)].map fun (i, x) => (i, a.eval x)) cs (by simpa using hb), Result.andThen_ok, Sem.run_pure]
theorem exec_ldG {o : Oper} {a : Act} {w w0 : World} {l : List (Nat × TypeId × Array Value)} (d : Gen w0 l w) {ty : TypeId} {k : Nat} (hr : Rw ty k) {g : Nat} {t : TypeId} {cs : Array Value} (x : Operand) (ho : o.op = .load ty x) (hx : a.eval x = ptr g) (hm : (g, t, cs) ∈ l) (hk : cs.size = k) :
    (execOp a.eval o).run Tryz.prog w = .ok (.value (.agg cs)) w := by
  obtain ⟨⟨dd, hu, hd⟩, hi⟩ := hr
  unfold execOp
  simp only [ho, hx, Instr.loadAt, Instr.sureAddr, Sem.run_bind, Sem.run_pure, Result.andThen_ok, run_loadVar_row w g t ty cs (0, 0) dd (d.blk hm) hu (by cases dd <;> first | rfl | cases hd) (hk ▸ hi)]

theorem op_round {l₀ n : Nat} {P : Program} {o : Oper} {a : Act} {w : World} {K K' : Act → World → Prop} {Q : Exit → Act → World → Prop} (hnd : ∀ c, o.op ≠ .defer c) (hK : ∀ a w, K a w → K' a w) (h : o.wp P a w K Q) :
    o.wpIn (Fence.wide.inRound l₀) n P a w K' Q := by
  refine ⟨fun _ _ => trivial, ?_⟩
  have hs : o.semAt (Fence.wide.inRound l₀).round a.eval = execOp a.eval o := Oper.semAt_some l₀ _ _ hnd
  rw [hs]
  unfold Oper.wp at h
  revert h
  generalize (execOp a.eval o).run P w = r
  intro h
  match r, h with
  | .ok (.value v) w', h => exact hK _ _ h
  | .ok .skip w', h => exact hK _ _ h
  | .ok (.defer d) w', h => exact hK _ _ h
  | .ok (.enter f args) w', h =>
    refine ⟨fun e => (by cases e), ?_⟩
    have h' : Calls P f args w' _ := h
    refine CallsIn.inRound l₀ (callsIn_wide.2 (h'.mono ?_))
    intro e w'' hh
    cases e with
    | returned v => exact hK _ _ hh
    | panicked c => exact hh
    | outgrown => exact hh
  | .ok (.row row args) w', h =>
    refine ⟨fun e => (by cases e), ?_⟩
    intro c cs _
    obtain ⟨v, w'', hr, hs⟩ := h c cs
    exact ⟨v, w'', hK _ _ hr, stepsIn_wide.2 hs⟩
  | .halt (.panic v) w', h => exact h
theorem list_round {l₀ n : Nat} {P : Program} {ops : Array Oper} {Q : Exit → Act → World → Prop} (hL : ¬ LetsOut Q) :
    ∀ (l : List Oper) (a : Act) (w : World), (l.all fun o => match o.op with | .defer _ => false | _ => true) = true → wpList P ops Q l a w → wpListIn (Fence.wide.inRound l₀) n P ops Q l a w
  | [], _, _, _, h => h
  | o :: rest, a, w, hd, h => by
    rw [List.all_cons, Bool.and_eq_true] at hd
    unfold wpList at h
    unfold wpListIn
    split at h
    · rename_i hw
      rw [if_pos hw]
      rcases h with h | h
      · exact op_round (fun c e => by rw [e] at hd; simp at hd) (fun a w => list_round hL rest a w hd.2) h
      · exact absurd h.2 hL
    · rename_i hw
      rw [if_neg hw]
      exact ⟨fun _ _ => trivial, list_round hL rest _ w hd.2 h⟩
theorem round_region {l₀ n id : Nat} {P : Program} {l : List Oper} {Q : Exit → Act → World → Prop} {a : Act} {w : World} (hd : (l.all fun o => match o.op with | .defer _ => false | _ => true) = true) (hL : ¬ LetsOut Q)
    (h : wpList P l.toArray Q l a w) : (Code.region id l.toArray false).wpIn (Fence.wide.inRound l₀) n P Q a w :=
  wpIn_region_lit (list_round hL l a w hd h)


/-- A walk stops here. -/
def Stop (p : Prop) : Prop := p
theorem at_three {P : Program} {ops : Array Oper} {Q : Exit → Act → World → Prop} {a : Act} {w : World} {o1 o2 o3 : Oper} (h : Stop (wpList P ops Q [o1, o2, o3] a w)) : wpList P ops Q [o1, o2, o3] a w := h

section
variable {F : Fence} {n : Nat} {ops : Array Oper} {o : Oper} {a : Act} {w : World} {Q : Exit → Act → World → Prop}
theorem at_listIn {P : Program} {l : List Oper} (h : wpListIn F n P ops Q l a w) : wpListIn F n P ops Q l a w := h
end

theorem at_two {P : Program} {ops : Array Oper} {Q : Exit → Act → World → Prop} {a : Act} {w : World} {o1 o2 : Oper} (h : Stop (wpList P ops Q [o1, o2] a w)) : wpList P ops Q [o1, o2] a w := h

section
variable {P : Program} {ops : Array Oper} {Q : Exit → Act → World → Prop} {S : World → Prop} {tn : Nat → Bool} {F : Fence} {n : Nat}

/-- What an operation ends in meets K: also a round. -/
def GivesF (F : Fence) (n : Nat) (P : Program) (K : Value → World → Prop) : Result Next → Prop
  | .ok (.value u) w => K u w
  | .ok .skip w => K undef w
  | .ok (.enter f args) w => CallsIn F (n - 1) P f args w fun e w' => ∃ v, e = .returned v ∧ K v w'
  | .ok (.round l f tmps assign body) w => RoundIn F (n - 1) P l f tmps assign body w fun e w' => ∃ v, e = .returned v ∧ K v w'
  | _ => False
theorem GivesF.mono {K K' : Value → World → Prop} {r : Result Next} (h : GivesF F n P K r) (hk : ∀ v w, K v w → K' v w) : GivesF F n P K' r := by
  cases r with
  | ok n w' =>
    cases n <;> simp only [GivesF] at h ⊢
    case value u => exact hk _ _ h
    case skip => exact hk _ _ h
    case enter f args => exact CallsIn.mono h fun e w'' ⟨v, he, hs⟩ => ⟨v, he, hk _ _ hs⟩
    case round l f tmps assign body => exact RoundIn.mono h fun e w'' ⟨v, he, hs⟩ => ⟨v, he, hk _ _ hs⟩
  | halt x w' => exact h.elim
/-- A fence that lets all by. -/
def Fence.Open (F : Fence) : Prop := (∀ f, F.fn f) ∧ F.depth = none
def noDefer (ops : Array Oper) : Bool := ops.all fun o => match o.op with | .defer _ => false | _ => true
theorem GivesF.wpIn {o : Oper} {a : Act} {w : World} {K : Act → World → Prop} (hF : Fence.Open F) (hnd : ∀ c, o.op ≠ .defer c) (h : GivesF F n P (fun v w' => K (a.put o.dst v) w') ((execOp a.eval o).run P w)) : o.wpIn F n P a w K Q := by
  refine ⟨fun f _ => hF.1 f, ?_⟩
  rw [Oper.semAt_eq _ _ _ hnd]
  generalize (execOp a.eval o).run P w = r at *
  cases r with
  | ok x w' =>
    cases x <;> simp only [GivesF, Oper.uponIn] at h ⊢
    case value u => exact h
    case skip => exact h
    case enter f args => exact ⟨fun e => (by rw [hF.2] at e; cases e), CallsIn.mono h fun e w'' ⟨v, he, hs⟩ => by subst he; exact hs⟩
    case round l f tmps assign body => exact ⟨fun e => (by rw [hF.2] at e; cases e), RoundIn.mono h fun e w'' ⟨v, he, hs⟩ => by subst he; exact hs⟩
  | halt x w' => exact h.elim

/-- The operations of the list, one behind the other, from this frame and this world. -/
def WalkF (F : Fence) (n : Nat) (P : Program) (ops : Array Oper) (Q : Exit → Act → World → Prop) (tn : Nat → Bool) : (World → Prop) → List Nat → Act → World → Prop
  | _, [], a, w => Q .normal a w
  | S, i :: r, a, w => ∃ o, ops[i]? = some o ∧
    ((Region.wanted o (yielded ops a.tmps) = false ∧ WalkF F n P ops Q tn S r (a.put o.dst undef) w) ∨
     (Region.wanted o (yielded ops a.tmps) = true ∧ tn i = false ∧ ∃ v, (∀ u, S u → (execOp a.eval o).run P u = .ok (.value v) u) ∧ WalkF F n P ops Q tn S r (a.put o.dst v) w) ∨
     (Region.wanted o (yielded ops a.tmps) = true ∧ tn i = true ∧ GivesF F n P (fun v w' => ∃ S' : World → Prop, S' w' ∧ WalkF F n P ops Q tn S' r (a.put o.dst v) w') ((execOp a.eval o).run P w)))

theorem WalkF.front (hs : Region.noSelect ops = true) : ∀ (l : List Nat) (j : Nat) (r : List Nat) (a : Act) (w : World), tn j = false → (∀ i ∈ l, tn i = false) → (∀ i ∈ l, apartAt ops i j = true) → WalkF F n P ops Q tn S (l ++ j :: r) a w → WalkF F n P ops Q tn S (j :: (l ++ r)) a w
  | [], _, _, _, _, _, _, _, h => h
  | i :: l, j, r, a, w, hj0, hl, hap, h => by
    have IH := fun a => WalkF.front hs l j r a w hj0 (fun k hk => hl k (List.mem_cons_of_mem _ hk)) (fun k hk => hap k (List.mem_cons_of_mem _ hk))
    obtain ⟨oi, hoi, hi⟩ := h
    have hti := hl i (List.mem_cons_self ..)
    have main : ∀ vi : Value, WalkF F n P ops Q tn S (j :: (l ++ r)) (a.put oi.dst vi) w →
        (∀ a' : Act, (execOp a'.eval oi = execOp a.eval oi) → (Region.wanted oi (yielded ops a'.tmps) = Region.wanted oi (yielded ops a.tmps)) → ∀ w', WalkF F n P ops Q tn S (l ++ r) (a'.put oi.dst vi) w' → WalkF F n P ops Q tn S (i :: (l ++ r)) a' w') →
        WalkF F n P ops Q tn S (j :: (i :: l ++ r)) a w := by
      intro vi hw back
      obtain ⟨oj, hoj, hj⟩ := hw
      have hx : oi.apart ops oj = true := by have := hap i (List.mem_cons_self ..); simpa [apartAt, hoi, hoj] using this
      obtain ⟨h1, h2, h3⟩ := Oper.apart_spec hx
      have e1 : execOp a.eval oj = execOp (a.put oi.dst vi).eval oj := (execOp_put oj (fun cs b => Region.noSelect_spec hs j oj cs b hoj) a oi.dst vi h1).symm
      have e2 : Region.wanted oj (yielded ops a.tmps) = Region.wanted oj (yielded ops (a.put oi.dst vi).tmps) := (wanted_put oj a oi.dst vi h1).symm
      have e3 : ∀ vj, execOp (a.put oj.dst vj).eval oi = execOp a.eval oi := fun vj => execOp_put oi (fun cs b => Region.noSelect_spec hs i oi cs b hoi) a oj.dst vj h3
      have e4 : ∀ vj, Region.wanted oi (yielded ops (a.put oj.dst vj).tmps) = Region.wanted oi (yielded ops a.tmps) := fun vj => wanted_put oi a oj.dst vj h3
      have e5 : ∀ vj, (a.put oi.dst vi).put oj.dst vj = (a.put oj.dst vj).put oi.dst vi := fun vj => Act.put_comm a vi vj h2
      refine ⟨oj, hoj, ?_⟩
      rcases hj with ⟨hw, hr⟩ | ⟨hw, ht, v, hv, hr⟩ | ⟨hw, ht, hg⟩
      · exact .inl ⟨e2.trans hw, back _ (e3 _) (e4 _) _ (e5 _ ▸ hr)⟩
      · exact .inr (.inl ⟨e2.trans hw, ht, v, fun u hu => by rw [e1]; exact hv u hu, back _ (e3 _) (e4 _) _ (e5 _ ▸ hr)⟩)
      · rw [hj0] at ht; cases ht
    rcases hi with ⟨hw, hr⟩ | ⟨hw, ht, v, hv, hr⟩ | ⟨_, ht, _⟩
    · exact main undef (IH _ hr) fun a' he hwt w' hr' => ⟨oi, hoi, .inl ⟨hwt.trans hw, hr'⟩⟩
    · exact main v (IH _ hr) fun a' he hwt w' hr' => ⟨oi, hoi, .inr (.inl ⟨hwt.trans hw, ht, v, fun u hu => by rw [he]; exact hv u hu, hr'⟩)⟩
    · rw [hti] at ht; cases ht

/-- Each turn waits for all that stand ahead of it. -/
def okChain (ops : Array Oper) (tn : Nat → Bool) : List Nat → List Nat → Bool
  | _, [] => true
  | p, j :: s => (!tn j || chain ops j p) && okChain ops tn (p ++ [j]) s
end

/-! A drawn region within a round: what holds of the plain walk holds there. -/
section
variable {P : Program} {ops : Array Oper} {Q : Exit → Act → World → Prop} {S : World → Prop} {l₀ n : Nat}
end

/-! Regions that make memory, whose later stores wait for the first one alone. -/
section
variable {P : Program} {ops : Array Oper} {Q : Exit → Act → World → Prop} {S : World → Prop} {E : Act → Prop}
theorem allocs_any2 (hs : Region.noSelect ops = true) (he2 : edgesOk ops = true) {T : List Nat} {t : TypeId} {z : Array Value} {base : Nat} (hT : tailOk ops T = true)
    (hSB : ∀ w w', S w → Below w.heap.size w w' → S w') (hbase : ∀ w, S w → base ≤ w.heap.size) :
    ∀ (fuel : Nat) (l A D : List Nat) (c0 : Nat → Nat) (listed : Array Bool) (a : Act) (w : World), fuel = l.length + A.length + T.length → Left ops l (A ++ T) listed →
    (∀ i ∈ A, ∃ o, ops[i]? = some o ∧ o.guard = none ∧ ∀ (a : Act) (w : World), (execOp a.eval o).run P w = .ok (.value (ptr w.heap.size)) (w.alloc (.cells z t))) →
    (∀ i ∈ A, ∀ k, k ∈ l ∨ k ∈ A ++ T → waits ops i k = false) → (∀ i ∈ A, ∀ k ∈ l, apartAt ops i k = true) → (∀ i ∈ A, ∀ k ∈ A, i ≠ k → apartAt ops i k = true) → (∀ i ∈ A, i ∉ T ∧ i ∉ D) → A.Nodup →
    (∀ i ∈ T, (∃ t ∈ T, waits ops i t = true) ∨ (chain ops i l = true ∧ ∀ k ∈ A, waits ops i k = true)) →
    PlanB P ops S (AtTail S t z base ops (wpList P ops Q (opsOf ops T)) D c0 A) l a → S w → (∀ i ∈ D, Blk w (c0 i) t z ∧ base ≤ c0 i) → (∀ i ∈ D, ∀ k ∈ D, c0 i = c0 k → i = k) → wpAny P .any ops Q fuel listed a w := by
  intro fuel
  induction fuel with
  | zero =>
    intro l A D c0 listed a w hf hl _ _ _ _ _ _ _ hp hS hD hDi
    have h1 : l = [] := List.eq_nil_of_length_eq_zero (by omega)
    have h2 : A = [] := List.eq_nil_of_length_eq_zero (by omega)
    have h3 : T = [] := List.eq_nil_of_length_eq_zero (by omega)
    subst h1 h2 h3
    exact tail_any he2 [] listed a w hT hl (hp c0 (fun _ _ => rfl) w hS (by simpa using hD) (by simpa using hDi))
  | succ fuel ih =>
    intro l A D c0 listed a w hf hl hal hAw hAl hAA hAT hAn hTw hp hS hD hDi
    by_cases hle : l = [] ∧ A = []
    · obtain ⟨h1, h2⟩ := hle
      subst h1 h2
      have := tail_any (P := P) (Q := Q) he2 T listed a w hT hl (hp c0 (fun _ _ => rfl) w hS (by simpa using hD) (by simpa using hDi))
      rwa [show T.length = fuel + 1 by simp at hf; omega] at this
    · have hTno : ∀ j ∈ T, j ∉ Region.ready .any ops listed := fun j hj hr => by
        rcases hTw j hj with ⟨t', ht', hw⟩ | hTw
        · rw [not_waits hr (hl.uf t' (by simp [ht']))] at hw
          cases hw
        cases l with
        | cons i r =>
          obtain ⟨k, hk, hw⟩ := chain.some (i :: r) hTw.1 (by simp)
          rw [not_waits hr (hl.un k hk)] at hw
          cases hw
        | nil =>
          cases A with
          | nil => exact hle ⟨rfl, rfl⟩
          | cons i r =>
            have := hTw.2 i (by simp)
            rw [not_waits hr (hl.uf i (by simp))] at this
            cases this
      refine ⟨fun hr => ?_, fun j hj => ?_⟩
      · exfalso
        cases A with
        | cons i r =>
          have hu := hl.uf i (by simp)
          obtain ⟨o, ho⟩ := hl.some hu
          have := ready_of he2 hl ho hu (hAw i (by simp))
          rw [hr] at this
          cases this
        | nil =>
          cases l with
          | nil => exact hle ⟨rfl, rfl⟩
          | cons i r =>
            have hu := hl.un i (by simp)
            obtain ⟨o, ho⟩ := hl.some hu
            have hok := hl.ok
            simp only [okPlan, Bool.and_eq_true, List.all_eq_true, Bool.not_eq_true'] at hok
            have := ready_of he2 hl ho hu fun k hk => by
              rcases hk with hk | hk
              · rcases List.mem_cons.1 hk with e | hk
                · subst e; exact hok.1.1
                · have := hok.1.2 k hk
                  simp only [ahead, Bool.and_eq_true, Bool.not_eq_true'] at this
                  exact this.1.1
              · exact hl.wf i (by simp) k hk
            rw [hr] at this
            cases this
      · rcases hl.all j (mem_ready.1 hj).1 with hm | hm
        · obtain ⟨l1, r, rfl⟩ := List.append_of_mem hm
          have hw : ∀ i ∈ l1, waits ops j i = false := fun i hi => not_waits hj (hl.un i (by simp [hi]))
          have hap : ∀ i ∈ l1, apartAt ops i j = true := fun i hi => by
            have := (okPlan.tail hl.ok).2.1 i hi
            simp only [ahead, Bool.and_eq_true, Bool.or_eq_true, hw i hi] at this
            simpa using this.2
          have hsub : ∀ k, k ∈ l1 ++ r → k ∈ l1 ++ j :: r := fun k hk => by rcases List.mem_append.1 hk with hk | hk <;> simp [hk]
          obtain ⟨o, v, ho, hd, hrest⟩ := hp.front hs l1 j r a hap
          refine hd.wpOp ho hS fun w' hS' hb => ?_
          refine ih (l1 ++ r) A D c0 _ _ w' (by simp at hf ⊢; omega) hl.next hal (fun i hi k hk => hAw i hi k (by rcases hk with hk | hk; exact .inl (hsub k hk); exact .inr hk)) (fun i hi k hk => hAl i hi k (hsub k hk)) hAA hAT hAn
            (fun i hi => (hTw i hi).imp (fun h => h) fun h => ⟨chain.next l1 j r h.1 hw, h.2⟩) hrest hS' (fun i hi => ⟨(hD i hi).1.below hb (hD i hi).1.lt, (hD i hi).2⟩) hDi
        · rcases List.mem_append.1 hm with hm | hm
          · obtain ⟨o, ho, hg, hrun⟩ := hal j hm
            obtain ⟨hjT, hjD⟩ := hAT j hm
            have hjm := hm
            obtain ⟨A1, A2, rfl⟩ := List.append_of_mem hm
            have hnd := hAn
            rw [List.nodup_append] at hnd
            have hj12 : j ∉ A1 ++ A2 := by
              intro h
              rcases List.mem_append.1 h with h | h
              · exact hnd.2.2 j h j (by simp) rfl
              · exact (List.nodup_cons.1 hnd.2.1).1 h
            have hsub : ∀ k, k ∈ A1 ++ A2 → k ∈ A1 ++ j :: A2 := fun k hk => by rcases List.mem_append.1 hk with hk | hk <;> simp [hk]
            have hl' : Left ops l (A1 ++ A2 ++ T) (listed.setIfInBounds j true) := by
              have h5 : Left ops l (A1 ++ j :: (A2 ++ T)) listed := by simpa using hl
              have := h5.drop (by
                intro h
                rcases List.mem_append.1 h with h | h
                · exact hj12 (by simp [h])
                · rcases List.mem_append.1 h with h | h
                  · exact hj12 (by simp [h])
                  · exact hjT h)
              simpa using this
            have hbl : Below w.heap.size w (w.alloc (.cells z t)) := (Below.refl _ _).alloc (Nat.le_refl _) _
            unfold wpOp
            simp only [ho]
            rw [if_pos (by simp [Region.wanted, hg])]
            refine .inl ?_
            unfold Oper.wp
            rw [hrun]
            simp only [Oper.upon]
            refine ih l (A1 ++ A2) (j :: D) (fun k => if k = j then w.heap.size else c0 k) _ _ _ (by simp at hf ⊢; omega) hl' (fun i hi => hal i (hsub i hi))
              (fun i hi k hk => hAw i (hsub i hi) k (by
                rcases hk with hk | hk
                · exact .inl hk
                · right
                  rcases List.mem_append.1 hk with hk | hk
                  · exact List.mem_append_left _ (hsub k hk)
                  · exact List.mem_append_right _ hk))
              (fun i hi k hk => hAl i (hsub i hi) k hk) (fun i hi k hk => hAA i (hsub i hi) k (hsub k hk)) ?_ ?_ (fun i hi => (hTw i hi).imp (fun h => h) fun h => ⟨h.1, fun k hk => h.2 k (hsub k hk)⟩) ?_ (hSB _ _ hS hbl) ?_ ?_
            · intro i hi
              refine ⟨(hAT i (hsub i hi)).1, ?_⟩
              intro h
              rcases List.mem_cons.1 h with e | h
              · subst e; exact hj12 hi
              · exact (hAT i (hsub i hi)).2 h
            · rw [List.nodup_append]
              refine ⟨hnd.1, (List.nodup_cons.1 hnd.2.1).2, fun x hx y hy => hnd.2.2 x hx y (by simp [hy])⟩
            · refine PlanB.put hs ho ?_ l a (fun i hi => hAl j hjm i hi) hp
              intro a' hE c hc w' hS' hB hI
              have hcj : c j = w.heap.size := by have := hc j (by simp); simpa using this
              have hmem : ∀ k, k ∈ D ++ (A1 ++ j :: A2) → k ∈ (j :: D) ++ (A1 ++ A2) := fun k hk => by
                simp only [List.mem_append, List.mem_cons] at hk ⊢
                rcases hk with h | h | h | h <;> simp [h]
              have h := hE c (fun i hi => by have := hc i (by simp [hi]); rw [this]; exact if_neg (fun e : i = j => hjD (e ▸ hi))) w' hS' (fun i hi => hB i (hmem i hi)) (fun i hi k hk => hI i (hmem i hi) k (hmem k hk))
              have hd : dstOf ops j = o.dst := by simp [dstOf, ho]
              rw [pa_append] at h ⊢
              rw [pa_put]
              · rw [← hcj, ← hd]; exact h
              · intro i hi s hs'
                have hij : i ≠ j := fun e => by subst e; exact hj12 (by simp [hi])
                have hax := hAA i (by simp [hi]) j hjm hij
                obtain ⟨oi, hoi⟩ := hl.some (hl.uf i (by simp [hi]))
                have hx : oi.apart ops o = true := by simpa [apartAt, hoi, ho] using hax
                obtain ⟨_, h2, _⟩ := Oper.apart_spec hx
                have hdi : oi.dst = some s := by simpa [dstOf, hoi] using hs'
                exact h2 s hdi
            · intro i hi
              rcases List.mem_cons.1 hi with e | hi
              · subst e
                simp only [if_true]
                exact ⟨Blk.new _ _ _, hbase _ hS⟩
              · have hne : i ≠ j := fun e => hjD (e ▸ hi)
                simp only [hne, if_false]
                exact ⟨(hD i hi).1.alloc _, (hD i hi).2⟩
            · intro i hi k hk h
              rcases List.mem_cons.1 hi with e1 | hi <;> rcases List.mem_cons.1 hk with e2 | hk
              · rw [e1, e2]
              · have hne : k ≠ j := fun e => hjD (e ▸ hk)
                have := (hD k hk).1.lt
                simp only [e1, hne, if_true, if_false] at h
                omega
              · have hne : i ≠ j := fun e => hjD (e ▸ hi)
                have := (hD i hi).1.lt
                simp only [e2, hne, if_true, if_false] at h
                omega
              · have hne : i ≠ j := fun e => hjD (e ▸ hi)
                have hne2 : k ≠ j := fun e => hjD (e ▸ hk)
                simp only [hne, hne2, if_false] at h
                exact hDi i hi k hk h
          · exact absurd hj (hTno j hm)


/-- What is asked of the lists. -/
def allocOk2 (ops : Array Oper) (l A T : List Nat) : Bool :=
  A.all (fun i => (l ++ (A ++ T)).all (fun k => !waits ops i k) && l.all (fun k => apartAt ops i k) && A.all (fun k => i == k || apartAt ops i k) && !T.contains i) &&
  T.all (fun i => (T.any fun t => waits ops i t) || (chain ops i l && A.all fun k => waits ops i k)) && decide A.Nodup

end

/-! A list's walk as a plan. -/
/-- A list of operations, from whatever world that S tells. -/
def LW (P : Program) (ops : Array Oper) (S : World → Prop) (Q : Exit → Act → World → Prop) (l : List Oper) (a : Act) : Prop := ∀ w, S w → wpList P ops Q l a w
section
variable {P : Program} {ops : Array Oper} {S : World → Prop} {Q : Exit → Act → World → Prop} {rest : List Oper} {o : Oper} {a : Act}
theorem list_start {id : Nat} {l : List Oper} {w : World} (hS : S w) (h : LW P l.toArray S Q l a) : (Code.region id l.toArray false).wp P Q a w := wp_region_lit (h w hS)
theorem list_end (h : ∀ w, S w → Q .normal a w) : LW P ops S Q [] a := h
theorem list_read {v : Value} (_ : o = o) (hw : Region.wanted o (yielded ops a.tmps) = true) (h : ∀ w, S w → (execOp a.eval o).run P w = .ok (.value v) w) (hr : LW P ops S Q rest (a.put o.dst v)) : LW P ops S Q (o :: rest) a := fun w hS => wpList_valuew hw (h w hS) (hr w hS)
theorem list_skip (_ : o = o) (hw : Region.wanted o (yielded ops a.tmps) = false) (hr : LW P ops S Q rest (a.put o.dst undef)) : LW P ops S Q (o :: rest) a := fun w hS => by
  unfold wpList
  rw [if_neg (by rw [hw]; decide)]
  exact hr w hS
theorem list_call {v : Value} {f : FuncId} {args : Array Value} (_ : o = o) (hw : Region.wanted o (yielded ops a.tmps) = true) (h : ∀ w, S w → (execOp a.eval o).run P w = .ok (.enter f args) w) (hc : ∀ w, S w → Calls P f args w fun e w' => e = .returned v ∧ S w') (hr : LW P ops S Q rest (a.put o.dst v)) : LW P ops S Q (o :: rest) a := fun w hS => by
  unfold wpList
  rw [if_pos hw]
  refine .inl ?_
  unfold Oper.wp
  rw [h w hS]
  refine (hc w hS).mono ?_
  rintro e w' ⟨rfl, hS'⟩
  exact hr w' hS'
end

end Go.Proofs.YtnemedgdhojhdaaGreat
