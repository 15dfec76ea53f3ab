/- Integers as bits, one by one, the lowest first, the sign's without end: sums and opposites with their carries. No Go in this text. Rows of bits, an int each, and the document's Long: so many bits of a number. The document's plus and minus: the sum of bits, and the bits of the number that is 0 with another one. A region that draws its order, by one walk: reads, whose value hangs on no turn of the world that may come between, and turns, which come up one behind the other. No Go in this text. The document's Of: the number of bits; false: it does not fit. -/
import Derived.Test.YtnemedgdhojhdaaGreatZf
import Derived.Test.YtnemedgdhojhdaaGreatZn
import Derived.Deep.OwnRows
import Derived.Test.YtnemedgdhojhdaaGreatWp
namespace Go.Proofs.YtnemedgdhojhdaaGreat
open Go.RowKit
set_option maxRecDepth 4000

/-- The bit number i of an integer. -/
def bz (z : Int) (i : Nat) : Int := z / ((2 ^ i : Nat) : Int) % 2
/-- The carry of a sum below the bit i, c coming in. -/
def cz (x y c : Int) (i : Nat) : Int := (x % ((2 ^ i : Nat) : Int) + y % ((2 ^ i : Nat) : Int) + c) / ((2 ^ i : Nat) : Int)
/-- Block b is a row of n ints, the i-th is f i. -/
abbrev Ints (w : World) (b n : Nat) (f : Nat → Int) : Prop := w.rowIs b 3 n (fun i => .int .i64 (f i))
/-- The bits below k, zeros from there on. -/
def pz (z : Int) (k i : Nat) : Int := if i < k then bz z i else 0
theorem pz_set (z : Int) (k : Nat) : (fun j => if j = k then Value.int .i64 (bz z k) else .int .i64 (pz z k j)) = fun j => .int .i64 (pz z (k + 1) j) := by
  funext j
  unfold pz
  by_cases h : j = k
  · subst h; rw [if_pos rfl, if_pos (by omega)]
  · rw [if_neg h]
    by_cases h2 : j < k
    · rw [if_pos h2, if_pos (by omega)]
    · rw [if_neg h2, if_neg (by omega)]
theorem Ints.next {w : World} {b n : Nat} {z v : Int} {k : Nat} (h : Ints w b n (pz z k)) (hv : v = bz z k) : Ints (w.setCell ⟨b, k, none⟩ (.int .i64 v)) b n (pz z (k + 1)) := by
  subst hv
  have h2 := World.rowIs.set h k (.int .i64 (bz z k))
  rw [pz_set] at h2
  exact h2
theorem Ints.zero (w : World) (n : Nat) (z : Int) : Ints (w.alloc (.cells (madeCells #[.int .i64 0] n) 3)) w.heap.size n (pz z 0) := World.rowIs_made w (.int .i64 0) n 3

theorem e7 : 511 / 64 = 7 := by decide
section
variable {P : Program} {ops : Array Oper} {Q : Exit → Act → World → Prop} {S : World → Prop} {tn : Nat → Bool}

/-- What an operation ends in meets K. -/
def GivesK (P : Program) (K : Value → World → Prop) : Result Next → Prop
  | .ok (.value u) w => K u w
  | .ok .skip w => K undef w
  | .ok (.enter f args) w => Calls P f args w fun e w' => ∃ v, e = .returned v ∧ K v w'
  | _ => False
theorem GivesK.mono {K K' : Value → World → Prop} {r : Result Next} (h : GivesK P K r) (hk : ∀ v w, K v w → K' v w) : GivesK P K' r := by
  cases r with
  | ok n w' =>
    cases n <;> simp only [GivesK] at h ⊢
    case value u => exact hk _ _ h
    case skip => exact hk _ _ h
    case enter f args => exact Calls.mono h fun e w'' ⟨v, he, hs⟩ => ⟨v, he, hk _ _ hs⟩
  | halt x w' => exact h.elim
theorem GivesK.wp {o : Oper} {a : Act} {w : World} {K : Act → World → Prop} (h : GivesK P (fun v w' => K (a.put o.dst v) w') ((execOp a.eval o).run P w)) : o.wp P a w K Q := by
  unfold Oper.wp
  generalize (execOp a.eval o).run P w = r at *
  cases r with
  | ok n w' =>
    cases n <;> simp only [GivesK, Oper.upon] at h ⊢
    case value u => exact h
    case skip => exact h
    case enter f args => exact Calls.mono h fun e w'' ⟨v, he, hs⟩ => by subst he; exact hs
  | halt x w' => exact h.elim

/-- The operations of the list, one behind the other, from this frame and this world. -/
def Walk (P : Program) (ops : Array Oper) (S : World → Prop) (Q : Exit → Act → World → Prop) (tn : Nat → Bool) : List Nat → Act → World → Prop
  | [], a, w => Q .normal a w
  | i :: r, a, w => ∃ o, ops[i]? = some o ∧
    ((Region.wanted o (yielded ops a.tmps) = false ∧ Walk P ops S Q tn r (a.put o.dst undef) w) ∨
     (Region.wanted o (yielded ops a.tmps) = true ∧ tn i = false ∧ ∃ v, (∀ u, S u → (execOp a.eval o).run P u = .ok (.value v) u) ∧ Walk P ops S Q tn r (a.put o.dst v) w) ∨
     (Region.wanted o (yielded ops a.tmps) = true ∧ tn i = true ∧ GivesK P (fun v w' => S w' ∧ Walk P ops S Q tn r (a.put o.dst v) w') ((execOp a.eval o).run P w)))

/-- What is behind a turn waits for it, or for another that is behind it. -/
def okWalk (ops : Array Oper) (tn : Nat → Bool) : List Nat → Bool
  | [] => true
  | i :: r => (!tn i || r.all fun j => (i :: r).any (waits ops j)) && okWalk ops tn r

theorem okWalk.reads : ∀ {l : List Nat} {s : List Nat}, okWalk ops tn (l ++ s) = true → okWalk ops tn s = true
  | [], _, h => h
  | _ :: l, _, h => okWalk.reads (l := l) (by simp only [List.cons_append, okWalk, Bool.and_eq_true] at h; exact h.2)
theorem okWalk.join : ∀ {l : List Nat} {s : List Nat}, (∀ i ∈ l, tn i = false) → okWalk ops tn s = true → okWalk ops tn (l ++ s) = true
  | [], _, _, h => h
  | i :: l, s, hl, h => by
    simp only [List.cons_append, okWalk, hl i (List.mem_cons_self ..), Bool.not_false, Bool.true_or, Bool.true_and]
    exact okWalk.join (fun k hk => hl k (List.mem_cons_of_mem _ hk)) h
theorem okWalk.at : ∀ {l : List Nat} {i : Nat} {s : List Nat}, okWalk ops tn (l ++ i :: s) = true → tn i = true → ∀ j ∈ s, ∃ k ∈ i :: s, waits ops j k = true := by
  intro l i s h ht j hj
  have h2 := okWalk.reads (l := l) h
  simp only [okWalk, ht, Bool.not_true, Bool.false_or, Bool.and_eq_true, List.all_eq_true] at h2
  have := h2.1 j hj
  simpa only [List.any_eq_true] using this

theorem Walk.front (hs : Region.noSelect ops = true) : ∀ (l : List Nat) (j : Nat) (r : List Nat) (a : Act) (w : World), (∀ i ∈ l, tn i = false) → (∀ i ∈ l, apartAt ops i j = true) → Walk P ops S Q tn (l ++ j :: r) a w → Walk P ops S Q tn (j :: (l ++ r)) a w
  | [], _, _, _, _, _, _, h => h
  | i :: l, j, r, a, w, hl, hap, h => by
    have IH := fun a => Walk.front hs l j r a w (fun k hk => hl k (List.mem_cons_of_mem _ hk)) (fun k hk => hap k (List.mem_cons_of_mem _ hk))
    obtain ⟨oi, hoi, hi⟩ := h
    have hti := hl i (List.mem_cons_self ..)
    have main : ∀ vi : Value, Walk P ops S Q tn (j :: (l ++ r)) (a.put oi.dst vi) w →
        (∀ a' : Act, (execOp a'.eval oi = execOp a.eval oi) → (Region.wanted oi (yielded ops a'.tmps) = Region.wanted oi (yielded ops a.tmps)) → ∀ w', Walk P ops S Q tn (l ++ r) (a'.put oi.dst vi) w' → Walk P ops S Q tn (i :: (l ++ r)) a' w') →
        Walk P ops S Q tn (j :: (i :: l ++ r)) a w := by
      intro vi hw back
      obtain ⟨oj, hoj, hj⟩ := hw
      have hx : oi.apart ops oj = true := by have := hap i (List.mem_cons_self ..); simpa [apartAt, hoi, hoj] using this
      obtain ⟨h1, h2, h3⟩ := Oper.apart_spec hx
      have e1 : execOp a.eval oj = execOp (a.put oi.dst vi).eval oj := (execOp_put oj (fun cs b => Region.noSelect_spec hs j oj cs b hoj) a oi.dst vi h1).symm
      have e2 : Region.wanted oj (yielded ops a.tmps) = Region.wanted oj (yielded ops (a.put oi.dst vi).tmps) := (wanted_put oj a oi.dst vi h1).symm
      have e3 : ∀ vj, execOp (a.put oj.dst vj).eval oi = execOp a.eval oi := fun vj => execOp_put oi (fun cs b => Region.noSelect_spec hs i oi cs b hoi) a oj.dst vj h3
      have e4 : ∀ vj, Region.wanted oi (yielded ops (a.put oj.dst vj).tmps) = Region.wanted oi (yielded ops a.tmps) := fun vj => wanted_put oi a oj.dst vj h3
      have e5 : ∀ vj, (a.put oi.dst vi).put oj.dst vj = (a.put oj.dst vj).put oi.dst vi := fun vj => Act.put_comm a vi vj h2
      refine ⟨oj, hoj, ?_⟩
      rcases hj with ⟨hw, hr⟩ | ⟨hw, ht, v, hv, hr⟩ | ⟨hw, ht, hg⟩
      · exact .inl ⟨e2.trans hw, back _ (e3 _) (e4 _) _ (e5 _ ▸ hr)⟩
      · exact .inr (.inl ⟨e2.trans hw, ht, v, fun u hu => by rw [e1]; exact hv u hu, back _ (e3 _) (e4 _) _ (e5 _ ▸ hr)⟩)
      · exact .inr (.inr ⟨e2.trans hw, ht, by rw [e1]; exact hg.mono fun v w' ⟨hS, hr⟩ => ⟨hS, back _ (e3 _) (e4 _) _ (e5 _ ▸ hr)⟩⟩)
    rcases hi with ⟨hw, hr⟩ | ⟨hw, ht, v, hv, hr⟩ | ⟨_, ht, _⟩
    · exact main undef (IH _ hr) fun a' he hwt w' hr' => ⟨oi, hoi, .inl ⟨hwt.trans hw, hr'⟩⟩
    · exact main v (IH _ hr) fun a' he hwt w' hr' => ⟨oi, hoi, .inr (.inl ⟨hwt.trans hw, ht, v, fun u hu => by rw [he]; exact hv u hu, hr'⟩)⟩
    · rw [hti] at ht; cases ht

theorem walk_any (hs : Region.noSelect ops = true) (he2 : edgesOk ops = true) :
    ∀ (fuel : Nat) (l : List Nat) (listed : Array Bool) (a : Act) (w : World), fuel = l.length → Left ops l [] listed → okWalk ops tn l = true → Walk P ops S Q tn l a w → S w → wpAny P .any ops Q fuel listed a w := by
  intro fuel
  induction fuel with
  | zero =>
    intro l listed a w hf hl hg hp hS
    have h1 : l = [] := List.eq_nil_of_length_eq_zero (by omega)
    subst h1
    refine ⟨?_, hp⟩
    apply List.eq_nil_iff_forall_not_mem.2
    intro k hk
    rcases hl.all k (mem_ready.1 hk).1 with h | h
    · cases h
    · cases h
  | succ fuel ih =>
    intro l listed a w hf hl hg hp hS
    refine ⟨fun hr => ?_, fun j hj => ?_⟩
    · cases l with
      | nil => exact hp
      | cons i r =>
        exfalso
        have hi := hl.un i (by simp)
        have hlt : i < ops.size := by
          rcases Nat.lt_or_ge i listed.size with h' | h'
          · have := hl.sz; omega
          · simp [Array.getElem?_eq_none h'] at hi
        obtain ⟨o, ho⟩ := Option.isSome_iff_exists.1 (show (ops[i]?).isSome = true by simp [hlt])
        have : i ∈ Region.ready .any ops listed := by
          refine mem_ready.2 ⟨hi, o, ho, fun e he hbd => ?_⟩
          by_cases hu : listed.getD e.on true = false
          · exfalso
            have hw : waits ops i e.on = true := by
              unfold waits
              rw [ho]
              simp only [Option.map_some, Option.getD_some, Array.any_eq_true']
              exact ⟨e, he, by simp [hbd]⟩
            have hok := hl.ok
            simp only [okPlan, Bool.and_eq_true, List.all_eq_true] at hok
            rcases hl.all _ hu with hm | hm
            · rcases List.mem_cons.1 hm with hm | hm
              · rw [hm] at hw; rw [hw] at hok; simp at hok
              · have := hok.1.2 _ hm
                simp [ahead, hw] at this
            · cases hm
          · have : listed.getD e.on true = true := by simpa using hu
            rcases Nat.lt_or_ge e.on listed.size with h' | h'
            · simpa [h'] using this
            · have := edgesOk_spec he2 ho he
              have := hl.sz
              omega
        rw [hr] at this
        cases this
    · obtain ⟨hju, _⟩ := mem_ready.1 hj
      rcases hl.all j hju with hm | hm
      · obtain ⟨l1, r, rfl⟩ := List.append_of_mem hm
        have hw : ∀ i ∈ l1, waits ops j i = false := fun i hi => not_waits hj (hl.un i (by simp [hi]))
        have hap : ∀ i ∈ l1, apartAt ops i j = true := fun i hi => by
          have := (okPlan.tail hl.ok).2.1 i hi
          simp only [ahead, Bool.and_eq_true, Bool.or_eq_true, hw i hi] at this
          simpa using this.2
        have hrd : ∀ i ∈ l1, tn i = false := fun i hi => by
          cases ht : tn i with
          | false => rfl
          | true =>
            exfalso
            obtain ⟨p, q, rfl⟩ := List.append_of_mem hi
            rw [List.append_assoc, List.cons_append] at hg
            obtain ⟨k, hk, hwk⟩ := okWalk.at hg ht j (by simp)
            have hku : k ∈ p ++ i :: q ++ j :: r := by
              rcases List.mem_cons.1 hk with e | hk
              · subst e; simp
              · rcases List.mem_append.1 hk with hk | hk
                · simp [hk]
                · rcases List.mem_cons.1 hk with e | hk
                  · subst e; simp
                  · simp [hk]
            rw [not_waits hj (hl.un k hku)] at hwk
            cases hwk
        have hok2 : okWalk ops tn (l1 ++ r) = true := okWalk.join hrd (by have := okWalk.reads (l := l1) hg; simp only [okWalk, Bool.and_eq_true] at this; exact this.2)
        have hln : fuel = (l1 ++ r).length := by simp at hf ⊢; omega
        obtain ⟨o, ho, hcase⟩ := hp.front hs l1 j r a w hrd hap
        unfold wpOp
        simp only [ho]
        rcases hcase with ⟨hwt, hr⟩ | ⟨hwt, _, v, hv, hr⟩ | ⟨hwt, _, hg2⟩
        · simp only [hwt, Bool.false_eq_true, if_false]
          exact ih (l1 ++ r) _ _ w hln hl.next hok2 hr hS
        · simp only [hwt, if_true]
          refine .inl (GivesK.wp ?_)
          rw [hv w hS]
          exact ih (l1 ++ r) _ _ w hln hl.next hok2 hr hS
        · simp only [hwt, if_true]
          exact .inl (GivesK.wp (hg2.mono fun v w' ⟨hS', hr⟩ => ih (l1 ++ r) _ _ w' hln hl.next hok2 hr hS'))
      · cases hm

/-- The whole region, by one walk: the list, and which of it are turns. -/
theorem region_walk {id : Nat} {l t : List Nat} {a : Act} {w : World} (hm : P.follows .mixedOrders = true) (hs : Region.noSelect ops = true) (he2 : edgesOk ops = true)
    (hok : okPlan ops l = true) (hall : (List.range ops.size).all (fun k => l.contains k || [].contains k) = true) (hlt : l.all (fun k => decide (k < ops.size)) = true) (hlen : ops.size = l.length)
    (hw : okWalk ops t.contains l = true) (hS : S w.drew) (hp : Walk P ops S Q t.contains l a w.drew) : (Code.region id ops true).wp P Q a w := by
  refine wp_region_any hm ?_
  exact walk_any hs he2 ops.size l _ a _ hlen (left_of_replicate hok hall (by simpa using hlt) (by simp)) hw hp hS

theorem walk_end {a : Act} {w : World} (h : Q .normal a w) : Walk P ops S Q tn [] a w := h
theorem walk_read {i : Nat} {r : List Nat} {a : Act} {w : World} {o : Oper} {v : Value} (ho : ops[i]? = some o) (hw : Region.wanted o (yielded ops a.tmps) = true) (ht : tn i = false)
    (h : ∀ u, S u → (execOp a.eval o).run P u = .ok (.value v) u) (hr : Walk P ops S Q tn r (a.put o.dst v) w) : Walk P ops S Q tn (i :: r) a w :=
  ⟨o, ho, .inr (.inl ⟨hw, ht, v, h, hr⟩)⟩
theorem walk_call {i : Nat} {r : List Nat} {a : Act} {w : World} {o : Oper} {f : FuncId} {args : Array Value} (ho : ops[i]? = some o) (hw : Region.wanted o (yielded ops a.tmps) = true) (ht : tn i = true)
    (h : (execOp a.eval o).run P w = .ok (.enter f args) w) (hc : Calls P f args w fun e w' => ∃ v, e = .returned v ∧ S w' ∧ Walk P ops S Q tn r (a.put o.dst v) w') : Walk P ops S Q tn (i :: r) a w :=
  ⟨o, ho, .inr (.inr ⟨hw, ht, by rw [h]; exact hc⟩)⟩
theorem walk_turn {i : Nat} {r : List Nat} {a : Act} {w w' : World} {o : Oper} {v : Value} (ho : ops[i]? = some o) (hw : Region.wanted o (yielded ops a.tmps) = true) (ht : tn i = true)
    (h : (execOp a.eval o).run P w = .ok (.value v) w') (hS : S w') (hr : Walk P ops S Q tn r (a.put o.dst v) w') : Walk P ops S Q tn (i :: r) a w :=
  ⟨o, ho, .inr (.inr ⟨hw, ht, by rw [h]; exact ⟨hS, hr⟩⟩)⟩
end

/-- The limb j of what the bits from k on make. -/
def ob (x k j : Nat) : Int := ((x % 2 ^ (64 * (j + 1)) / 2 ^ (max (64 * j) k) : Nat) : Int)
theorem ob_zero (x j : Nat) : ob x 0 j = lm x j := by
  unfold ob lm
  rw [Nat.max_eq_left (Nat.zero_le _), pow_step, Nat.mod_mul_right_div_self]
theorem ob_high (x k j : Nat) (h : 64 * (j + 1) ≤ k) : ob x k j = 0 := by
  unfold ob
  rw [Nat.max_eq_right (by omega), Nat.div_eq_of_lt]
  · rfl
  · exact Nat.lt_of_lt_of_le (Nat.mod_lt _ (Nat.pow_pos (by decide))) (Nat.pow_le_pow_right (by decide) h)
theorem ob_other (x k j : Nat) (h : j ≠ k / 64) : ob x k j = ob x (k + 1) j := by
  rcases (show 64 * (j + 1) ≤ k ∨ k + 1 ≤ 64 * j by omega) with h1 | h1
  · rw [ob_high _ _ _ h1, ob_high _ _ _ (by omega)]
  · unfold ob
    rw [Nat.max_eq_left (by omega), Nat.max_eq_left (by omega)]
/-- Eight limbs of what the bits from k on make. -/
abbrev Obs (w : World) (b x k : Nat) : Prop := w.rowIs b 75 8 (fun j => .int .u64 (ob x k j))
theorem Obs.next {w : World} {b x k : Nat} {v : Int} (h : Obs w b x (k + 1)) (hv : v = ob x k (k / 64)) : Obs (w.setCell ⟨b, k / 64, none⟩ (.int .u64 v)) b x k := by
  subst hv
  refine World.rowIs.congr (World.rowIs.set h (k / 64) _) fun i _ => ?_
  by_cases e : i = k / 64
  · rw [if_pos e, e]
  · rw [if_neg e, ob_other _ _ _ e]
theorem Obs.blk {w : World} {b x : Nat} (h : Obs w b x 0) : Blk w b 75 (cells8 x) := by
  obtain ⟨c, hb, hs, hc⟩ := h
  have e : c = cells8 x := by
    apply Array.ext_getElem?
    intro i
    by_cases hi : i < 8
    · rw [hc i hi, cells8_get _ _ hi]; show some (Value.int .u64 (ob x 0 i)) = _; rw [ob_zero]
    · rw [Array.getElem?_eq_none (by omega), Array.getElem?_eq_none (by show 8 ≤ i; omega)]
  rw [e] at hb
  exact hb
theorem Obs.start (w : World) (b x k : Nat) (hk : 512 ≤ k) (h : Blk w b 75 (cells8 0)) : Obs w b x k := by
  refine ⟨cells8 0, h, rfl, fun i hi => ?_⟩
  rw [cells8_get _ _ hi, lm_zero]
  show _ = some (Value.int .u64 (ob x k i))
  rw [ob_high _ _ _ (by omega)]

end Go.Proofs.YtnemedgdhojhdaaGreat
