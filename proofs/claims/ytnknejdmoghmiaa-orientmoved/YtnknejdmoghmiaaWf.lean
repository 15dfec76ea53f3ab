/- Numbers of eight limbs held against each other: == and != of two of them. The contracts of compare and used of package wide. -/
import Derived.Test.YtnknejdmoghmiaaWc
namespace Go.Proofs.Ytnknejdmoghmiaa
open Go.RowKit
set_option maxRecDepth 4000

theorem part_u64 (n i : Nat) (hi : i < 8) (w : World) : (part 37 (cells8 n) i).run Try.prog w = .ok (.int .u64 (lm n i)) w := by
  unfold part
  have hagg : (isAgg 37).run Try.prog w = .ok false w := by
    unfold isAgg
    rw [Sem.run_bind, run_underlying Try.underlying37 w]
    rfl
  simp only [Sem.run_bind, hagg, Result.andThen_ok, Bool.false_eq_true, if_false, cells8_get n i hi, Sem.run_pure]

theorem size_u64 (w : World) : (sizeOf 37).run Try.prog w = .ok 1 w := by
  have h : (Try.prog.info? 37).map (·.size) = some 1 := by kernel_rfl
  cases hq : Try.prog.info? 37 with
  | none => simp [hq] at h
  | some i => simp [hq] at h; simp [sizeOf, typeInfo, hq, h]

theorem eq_arr (t : TypeId) (ht : Try.prog.underlying t = some (.array 8 37)) (D n m : Nat)
    (hE : ∀ (w : World) (a b : Int), (Op.equalIn D 37 (.int .u64 a) (.int .u64 b)).run Try.prog w = .ok (a == b) w) (w : World) :
    (Op.equalIn (D + 1) t (.agg (cells8 n)) (.agg (cells8 m))).run Try.prog w = .ok ((List.range 8).all fun i => lm n i == lm m i) w := by
  simp only [Op.equalIn, Sem.run_bind, run_underlying ht, Result.andThen_ok, size_u64]
  rw [List.range_eq_range']
  simp only [Std.Legacy.Range.forIn_eq_forIn_range', Nat.mul_one, Std.Legacy.Range.size, Nat.sub_zero, Nat.add_sub_cancel, Nat.div_one]
  have key : ∀ (l : List Nat), (∀ i ∈ l, i < 8) → ∀ w, (forIn l (none, ()) (fun i (s : Option Bool × Unit) => (do
      let a ← part 37 (cells8 n) i
      let b ← part 37 (cells8 m) i
      let c ← Op.equalIn D 37 a b
      if (!c) = true then pure (ForInStep.done (some false, ())) else pure (ForInStep.yield (none, ())) : Sem (ForInStep (Option Bool × Unit))))).run Try.prog w =
      .ok (if l.all (fun i => lm n i == lm m i) then (none, ()) else (some false, ())) w := by
    intro l
    induction l with
    | nil => intro _ w; rfl
    | cons i l ih =>
      intro hl w
      have hi : i < 8 := hl i (by simp)
      simp only [List.forIn_cons, Sem.run_bind, part_u64 _ _ hi, Result.andThen_ok, hE]
      cases e : (lm n i == lm m i)
      · simp only [Bool.not_false, if_true, Sem.run_pure, Result.andThen_ok, List.all_cons, e, Bool.false_and, Bool.false_eq_true, if_false]
      · simp only [Bool.not_true, Bool.false_eq_true, if_false, Sem.run_pure, Result.andThen_ok, List.all_cons, e, Bool.true_and]
        exact ih (fun k hk => hl k (by simp [hk])) w
  rw [key _ (by decide) w]
  cases e : ((List.range' 0 8).all fun i => lm n i == lm m i)
  · simp
  · simp

/-- Numbers whose first k limbs are the same are the same modulo 2^(64 k). -/
theorem mod_of_limbs (n m : Nat) : ∀ k, (∀ i, i < k → lm n i = lm m i) → n % 2 ^ (64 * k) = m % 2 ^ (64 * k)
  | 0, _ => by simp [Nat.mod_one]
  | k + 1, h => by
    have h1 := mod_of_limbs n m k fun i hi => h i (by omega)
    have h2 := h k (by omega)
    unfold lm at h2
    rw [mod_step, mod_step, h1, Int.ofNat_inj.1 h2]
theorem eq8_mod (n m : Nat) : ((List.range 8).all fun i => lm n i == lm m i) = decide (n % M = m % M) := by
  rw [Bool.eq_iff_iff]
  simp only [List.all_eq_true, List.mem_range, beq_iff_eq, decide_eq_true_eq]
  constructor
  · intro h
    rw [M_pow8]
    exact mod_of_limbs n m 8 h
  · intro h i hi
    rw [← lm_mod n i hi, ← lm_mod m i hi, h]

theorem run_limbs (n m : Nat) (w : World) : (Op.equalIn 10000 128 (.agg (cells8 n)) (.agg (cells8 m))).run Try.prog w = .ok (decide (n % M = m % M)) w := by
  rw [show (10000 : Nat) = 9998 + 1 + 1 from rfl, eq_arr 128 Try.underlying128 _ n m (fun w a b => run_equalIn_int w 9998 37 _ _ _ _ Try.underlying37) w, eq8_mod]

theorem part_L (n : Nat) (w : World) : (part 38 (cells8 n) 0).run Try.prog w = .ok (.agg (cells8 n)) w := by
  unfold part
  have hagg : (isAgg 38).run Try.prog w = .ok true w := by
    unfold isAgg
    rw [Sem.run_bind, run_underlying Try.underlying38 w]
    rfl
  have hsz : (sizeOf 38).run Try.prog w = .ok 8 w := by
    have h := iArr
    cases hq : Try.prog.info? 38 with
    | none => simp [hq] at h
    | some i => simp [hq] at h; simp [sizeOf, typeInfo, hq, h]
  simp only [Sem.run_bind, hagg, Result.andThen_ok, if_true, hsz, Sem.run_pure]
  rfl

theorem run_wide (n m : Nat) (w : World) : (Op.equalIn 10000 40 (.agg (cells8 n)) (.agg (cells8 m))).run Try.prog w = .ok (decide (n % M = m % M)) w := by
  have hf : ((Try.prog.fieldsOf 40).toList.map fun f => (f.name, f.type, f.offset)) = [("L", 38, 0)] := by kernel_rfl
  obtain ⟨f, hl, h1, h2, h3⟩ : ∃ f, (Try.prog.fieldsOf 40).toList = [f] ∧ f.name = "L" ∧ f.type = 38 ∧ f.offset = 0 := by
    cases hq : (Try.prog.fieldsOf 40).toList with
    | nil => rw [hq] at hf; cases hf
    | cons f r =>
      rw [hq] at hf
      simp only [List.map_cons, List.cons.injEq, Prod.mk.injEq, List.map_eq_nil_iff] at hf
      obtain ⟨⟨h1, h2, h3⟩, h4⟩ := hf
      subst h4
      exact ⟨f, rfl, h1, h2, h3⟩
  rw [show (10000 : Nat) = 9997 + 1 + 1 + 1 from rfl, run_equalIn_struct w _ 40 _ _ (by kernel_rfl) (by kernel_rfl), hl]
  have hE := eq_arr 38 Try.underlying38 _ n m (fun w a b => run_equalIn_int w 9997 37 _ _ _ _ Try.underlying37)
  have hne : f.name ≠ "_" := by rw [h1]; decide
  simp only [Op.eqFields, if_pos hne, h2, h3, Sem.run_bind, part_L, Result.andThen_ok, hE, eq8_mod]
  cases e : decide (n % M = m % M)
  · simp
  · simp

theorem glimbs : Try.prog.eqGuardType Try.prog.depth 128 = false := by kernel_rfl
theorem gWide : Try.prog.eqGuardType Try.prog.depth 40 = false := by kernel_rfl

/-- The two numbers have the same limbs. -/
def same (n m : Nat) : Bool := decide (n % M = m % M)

section
variable {o : Oper} {a : Act} (w : World) (x y : Operand) {n m : Nat} {ty' : TypeId}
theorem exec_eql_limbs (ho : o.op = .binOp .eql 128 x y ty') (hx : a.eval x = .agg (cells8 n)) (hy : a.eval y = .agg (cells8 m)) : (execOp a.eval o).run Try.prog w = .ok (.value (.bool (same n m))) w := by
  unfold execOp
  simp only [ho, hx, hy, Sem.run_bind, run_eqGuard_agg w _ 128 _ _ _ _ glimbs, run_eql_struct, run_limbs, Result.andThen_ok, Sem.run_pure, same]
theorem exec_neq_limbs (ho : o.op = .binOp .neq 128 x y ty') (hx : a.eval x = .agg (cells8 n)) (hy : a.eval y = .agg (cells8 m)) : (execOp a.eval o).run Try.prog w = .ok (.value (.bool (!same n m))) w := by
  unfold execOp
  simp only [ho, hx, hy, Sem.run_bind, run_eqGuard_agg w _ 128 _ _ _ _ glimbs, run_neq_struct, run_limbs, Result.andThen_ok, Sem.run_pure, same]
theorem exec_eql_wide (ho : o.op = .binOp .eql 40 x y ty') (hx : a.eval x = .agg (cells8 n)) (hy : a.eval y = .agg (cells8 m)) : (execOp a.eval o).run Try.prog w = .ok (.value (.bool (same n m))) w := by
  unfold execOp
  simp only [ho, hx, hy, Sem.run_bind, run_eqGuard_agg w _ 40 _ _ _ _ gWide, run_eql_struct, run_wide, Result.andThen_ok, Sem.run_pure, same]
theorem exec_neq_wide (ho : o.op = .binOp .neq 40 x y ty') (hx : a.eval x = .agg (cells8 n)) (hy : a.eval y = .agg (cells8 m)) : (execOp a.eval o).run Try.prog w = .ok (.value (.bool (!same n m))) w := by
  unfold execOp
  simp only [ho, hx, hy, Sem.run_bind, run_eqGuard_agg w _ 40 _ _ _ _ gWide, run_neq_struct, run_wide, Result.andThen_ok, Sem.run_pure, same]
end

end Go.Proofs.Ytnknejdmoghmiaa

namespace Go.Proofs.Ytnknejdmoghmiaa
open Go.RowKit
set_option maxRecDepth 4000

/-- x against y by the limbs below k, from above. -/
def cmpTo (x y : Nat) : Nat → Int
  | 0 => 0
  | k + 1 => if lm x k < lm y k then -1 else if lm y k < lm x k then 1 else cmpTo x y k
theorem cmpTo_same (x y m : Nat) (h1 : ¬ lm x m < lm y m) (h2 : ¬ lm y m < lm x m) : cmpTo x y (m + 1) = cmpTo x y m := by simp [cmpTo, h1, h2]
/-- How many of the limbs below k there are up to the highest one that is not 0. -/
def usedTo (x : Nat) : Nat → Nat
  | 0 => 0
  | k + 1 => if lm x k = 0 then usedTo x k else k + 1
theorem usedTo_le (x : Nat) : ∀ k, usedTo x k ≤ k
  | 0 => Nat.le_refl _
  | k + 1 => by
    unfold usedTo
    split
    · have := usedTo_le x k; omega
    · exact Nat.le_refl _

set_option maxHeartbeats 1000000 in
theorem used_any (x : Nat) (w : World) :
    Calls Try.prog 166 #[W x] w fun e w' => e = .returned (.int .i64 (usedTo x 8 : Nat)) ∧ Below w.heap.size w w' := by
  go_enter Try.func166, Try.ntmps166
  go_wp2
  go_loop [3] (fun n => ∃ k : Nat, k ≤ 8 ∧ n = .int .i64 k ∧ usedTo x k = usedTo x 8) (fun n => (intOf n).toNat)
  case atStart => exact ⟨8, by omega, rfl, rfl⟩
  case round =>
    obtain ⟨k, hk, rfl, hu⟩ := hrel
    have HU := hide hu
    clear hu
    cases k with
    | zero =>
      go_wp2
      go_ret
      exact ⟨by rw [← unhide HU]; rfl, (Below.refl _ _).alloc (Nat.le_refl _) _⟩
    | succ m =>
      have e1 : ((m + 1 : Nat) : Int) = (m : Int) + 1 := by omega
      rw [e1]
      have h8 : (m : Int) < 8 := by omega
      have hc : (w.alloc (.cells (cells8 x) 128)).cell? ⟨w.heap.size, m, none⟩ = some (.int .u64 (lm x m)) := by
        rw [(Blk.new w 128 (cells8 x)).cell m, cells8_get x m (by omega)]
      by_cases hz : lm x m = 0
      · have hb : (lm x m == 0) = true := by simp [hz]
        have HZ := hide hz
        clear hz
        go_wp2
        go_round
        case rel => exact ⟨m, by omega, by go_num, by rw [← unhide HU]; simp [usedTo, unhide HZ]⟩
        case measure => simp [intOf]
      · have hb : (lm x m == 0) = false := by simp [hz]
        have HZ := hide hz
        clear hz
        go_wp2
        go_ret
        exact ⟨by rw [← unhide HU]; simp [usedTo, unhide HZ], (Below.refl _ _).alloc (Nat.le_refl _) _⟩

/-- What compare knows: both numbers in their blocks. -/
structure Two (w0 : World) (g x y : Nat) (w : World) : Prop where
  x : Blk w g 128 (cells8 x)
  y : Blk w (g + 1) 128 (cells8 y)
  o : Below g w0 w

end Go.Proofs.Ytnknejdmoghmiaa
