/- The contracts of the faces of package wide: what each hands to face, and each by its inner function's contract. -/
import Derived.Test.YtfoojpfgeicolaaZb
namespace Go.Proofs.Ytfoojpfgeicolaa
open Go.RowKit

/-- face of a function that writes nothing of before. -/
theorem face_below (f : FuncId) (cap : Array Value) (w : World) (n : Nat) (bad : Bool)
    (hi : ∀ u, (callFunc f cap).run Try.prog u = .ok (.enter f cap) u)
    (hc : ∀ u, Below w.heap.size w u → Calls Try.prog f cap u fun e u' => Ends bad n e ∧ Below u.heap.size u u') :
    Calls Try.prog 44 #[.func (.func f) #[] cap] w fun e w' => e = .returned (told bad n) ∧ Below w.heap.size w w' := by
  refine face_any f cap w n bad (Below w.heap.size w) hi ?_ (fun u cs h => below_row h (Nat.le_refl _) cs) (fun u v h => h.setCell (by simp) v)
  refine (hc _ (below2 _ _ _)).mono fun e u' ⟨he, hb⟩ => ⟨he, (below2 _ _ _).trans (hb.mono (by simp; omega)), ?_, ?_⟩
  · exact cells8_0 ▸ (Blk.first2 w 25 _ _).below hb (Blk.first2 w 25 _ _).lt
  · exact (Blk.second2 w 4 _ _).below hb (Blk.second2 w 4 _ _).lt

/-- A whole number out of its block, and a value out of its slot. -/
theorem res8s {P : Program} {fn : Func} {R : Ending → World → Prop} {p q : Tmp} {ty : TypeId} {a : Act} {w : World} {n g : Nat} {t : TypeId} {d : TypeDesc} {v : Value}
    (hg : Blk w g t (cells8 n)) (h : fn.results = #[.cell p ty, .tmp q]) (hp : a.tmps.getD p undef = .pointer (some ⟨g, 0, none⟩)) (hq : a.tmps.getD q undef = v) (hdf : a.defers = [])
    (hu : P.underlying ty = some d) (hd : (match d with | .struct _ | .array _ _ => true | _ => false) = true) (hi : (P.info? ty).map (·.size) = some 8)
    (hR : R (.returned (.tuple #[.agg (cells8 n), v])) w) : bodyPost P fn R .ret a w := by
  refine bodyPost_ret ?_ hdf hR
  have hp' : a.tmps[p]?.getD undef = .pointer (some ⟨g, 0, none⟩) := by simpa using hp
  have hq' : a.tmps[q]?.getD undef = v := by simpa using hq
  simp [results, h, hp', hq', asAddr, run_loadVar_row w g t ty (cells8 n) (0, 0) d hg hu hd hi, Result.andThen]

theorem Ends.no {n : Nat} {e : Ending} (h : Ends false n e) : e = .returned (.agg (cells8 n)) := h
theorem Ends.yes {n : Nat} {e : Ending} (h : Ends true n e) : e = .panicked noAnswer := h
theorem told_no {n : Nat} {e : Ending} (h : e = .returned (told false n)) : e = .returned (.tuple #[.agg (cells8 n), .bool true]) := h
theorem told_yes {n : Nat} {e : Ending} (h : e = .returned (told true n)) : e = .returned (.tuple #[.agg (cells8 0), .bool false]) := h

theorem Add1_core (a b n : Nat) (bad : Bool) (g h : Nat) (w : World) (HX : Hid (Blk w g 25 (cells8 a))) (HY : Hid (Blk w h 25 (cells8 b)))
    (hS : Hid (∀ u, Calls Try.prog 46 #[W a, W b] u fun e w' => Ends bad n e ∧ Below u.heap.size u w')) :
    Calls Try.prog 45 #[.pointer (some ⟨g, 0, none⟩), .pointer (some ⟨h, 0, none⟩)] w fun e w' => Ends bad n e ∧ Below w.heap.size w w' := by
  cases bad
  · go_enter Try.func45, Try.ntmps45
    go_wp2_with (first
      | refine ld8 25 (.tmp 0) ((unhide HX).alloc _) rfl rfl rfl Try.underlying25 rfl iWide ?_
      | refine ld8 25 (.tmp 1) ((unhide HY).alloc _) rfl rfl rfl Try.underlying25 rfl iWide ?_
      | (go_at_call 46; refine (unhide hS _).mono ?_; rintro e w' ⟨he, hb⟩; replace he := Ends.no he; subst he)
      | refine st8 (n := n) 25 (.tmp 2) (.tmp 5) ((Blk.new _ _ _).below hb (Blk.new _ _ _).lt) rfl rfl rfl rfl rfl iWide ?_)
    exact res8 (((Blk.new _ _ _).below hb (Blk.new _ _ _).lt).row _) rfl rfl rfl Try.underlying25 rfl iWide ⟨rfl, below_row (((Below.refl _ _).alloc (Nat.le_refl _) _).trans (hb.mono (by simp))) (Nat.le_refl _) _⟩
  · go_enter Try.func45, Try.ntmps45
    go_wp2_with (first
      | refine ld8 25 (.tmp 0) ((unhide HX).alloc _) rfl rfl rfl Try.underlying25 rfl iWide ?_
      | refine ld8 25 (.tmp 1) ((unhide HY).alloc _) rfl rfl rfl Try.underlying25 rfl iWide ?_
      | (go_at_call 46; refine (unhide hS _).mono ?_; rintro e w' ⟨he, hb⟩; replace he := Ends.yes he; subst he))
    exact ⟨rfl, rfl, ((Below.refl _ _).alloc (Nat.le_refl _) _).trans (hb.mono (by simp))⟩

theorem Add_core (a b n : Nat) (bad : Bool) (w : World)
    (hS : Hid (∀ g h u, Blk u g 25 (cells8 a) → Blk u h 25 (cells8 b) → Calls Try.prog 45 #[.pointer (some ⟨g, 0, none⟩), .pointer (some ⟨h, 0, none⟩)] u fun e w' => Ends bad n e ∧ Below u.heap.size u w')) :
    Calls Try.prog 19 #[W a, W b] w fun e w' => e = .returned (told bad n) ∧ Below w.heap.size w w' := by
  have hmf : ∀ (fn : Fn) (first cap : Array Value) (w : World), (Instr.makeFunc fn first cap).run Try.prog w = .ok (.func fn first cap) w := fun _ _ _ _ => rfl
  have hF : Hid (∀ (u : World) (g h : Nat), Blk u g 25 (cells8 a) → Blk u h 25 (cells8 b) → Calls Try.prog 44 #[.func (.func 45) #[] #[.pointer (some ⟨g, 0, none⟩), .pointer (some ⟨h, 0, none⟩)]] u fun e w' => e = .returned (told bad n) ∧ Below u.heap.size u w') :=
    fun u g h bg bh => face_below 45 _ u n bad (fun _ => by simp [go_sem]) (fun v hb => unhide hS g h v (bg.below hb bg.lt) (bh.below hb bh.lt))
  clear hS
  go_enter Try.func19, Try.ntmps19
  go_upto_region 1 with fail
  have D1 := hide (Blk.first3 w 25 (cells8 a) (.cells (cells8 b) 25) (.cells #[.int .u64 0, .int .u64 0, .int .u64 0, .int .u64 0, .int .u64 0, .int .u64 0, .int .u64 0, .int .u64 0] 25))
  have D2 := hide (Blk.second3 w 25 (cells8 b) (.cells (cells8 a) 25) (.cells #[.int .u64 0, .int .u64 0, .int .u64 0, .int .u64 0, .int .u64 0, .int .u64 0, .int .u64 0, .int .u64 0] 25))
  have D3 := hide (Blk.third3 w 25 #[.int .u64 0, .int .u64 0, .int .u64 0, .int .u64 0, .int .u64 0, .int .u64 0, .int .u64 0, .int .u64 0] (.cells (cells8 a) 25) (.cells (cells8 b) 25))
  have B0 := hide (below3 w (.cells (cells8 a) 25) (.cells (cells8 b) 25) (.cells #[.int .u64 0, .int .u64 0, .int .u64 0, .int .u64 0, .int .u64 0, .int .u64 0, .int .u64 0, .int .u64 0] 25))
  have hF1 := hide (unhide hF _ _ _ (unhide D1) (unhide D2))
  have hsz : Hid (w.heap.size ≤ (((w.alloc (.cells (cells8 a) 25)).alloc (.cells (cells8 b) 25)).alloc (.cells #[.int .u64 0, .int .u64 0, .int .u64 0, .int .u64 0, .int .u64 0, .int .u64 0, .int .u64 0, .int .u64 0] 25)).heap.size) := (unhide B0).size
  clear hF D1 D2
  cases bad
  · go_wp2_with (first
      | (go_at_call 44; refine (unhide hF1).mono ?_; rintro e w' ⟨he, hb⟩; replace he := told_no he; subst he)
      | refine st8 (n := n) 25 (.tmp 4) (.tmp 8) ((unhide D3).below hb (unhide D3).lt) rfl rfl rfl rfl rfl iWide ?_)
    exact res8s (((unhide D3).below hb (unhide D3).lt).row _) rfl rfl rfl rfl Try.underlying25 rfl iWide ⟨rfl, below_row ((unhide B0).trans (hb.mono (unhide hsz))) (by omega) _⟩
  · go_wp2_with (first
      | (go_at_call 44; refine (unhide hF1).mono ?_; rintro e w' ⟨he, hb⟩; replace he := told_yes he; subst he)
      | refine st8 (n := 0) 25 (.tmp 4) (.tmp 8) ((unhide D3).below hb (unhide D3).lt) rfl rfl rfl rfl rfl iWide ?_)
    exact res8s (((unhide D3).below hb (unhide D3).lt).row _) rfl rfl rfl rfl Try.underlying25 rfl iWide ⟨rfl, below_row ((unhide B0).trans (hb.mono (unhide hsz))) (by omega) _⟩

theorem Sub1_core (a b n : Nat) (bad : Bool) (g h : Nat) (w : World) (HX : Hid (Blk w g 25 (cells8 a))) (HY : Hid (Blk w h 25 (cells8 b)))
    (hS : Hid (∀ u, Calls Try.prog 48 #[W a, W b] u fun e w' => Ends bad n e ∧ Below u.heap.size u w')) :
    Calls Try.prog 47 #[.pointer (some ⟨g, 0, none⟩), .pointer (some ⟨h, 0, none⟩)] w fun e w' => Ends bad n e ∧ Below w.heap.size w w' := by
  cases bad
  · go_enter Try.func47, Try.ntmps47
    go_wp2_with (first
      | refine ld8 25 (.tmp 0) ((unhide HX).alloc _) rfl rfl rfl Try.underlying25 rfl iWide ?_
      | refine ld8 25 (.tmp 1) ((unhide HY).alloc _) rfl rfl rfl Try.underlying25 rfl iWide ?_
      | (go_at_call 48; refine (unhide hS _).mono ?_; rintro e w' ⟨he, hb⟩; replace he := Ends.no he; subst he)
      | refine st8 (n := n) 25 (.tmp 2) (.tmp 5) ((Blk.new _ _ _).below hb (Blk.new _ _ _).lt) rfl rfl rfl rfl rfl iWide ?_)
    exact res8 (((Blk.new _ _ _).below hb (Blk.new _ _ _).lt).row _) rfl rfl rfl Try.underlying25 rfl iWide ⟨rfl, below_row (((Below.refl _ _).alloc (Nat.le_refl _) _).trans (hb.mono (by simp))) (Nat.le_refl _) _⟩
  · go_enter Try.func47, Try.ntmps47
    go_wp2_with (first
      | refine ld8 25 (.tmp 0) ((unhide HX).alloc _) rfl rfl rfl Try.underlying25 rfl iWide ?_
      | refine ld8 25 (.tmp 1) ((unhide HY).alloc _) rfl rfl rfl Try.underlying25 rfl iWide ?_
      | (go_at_call 48; refine (unhide hS _).mono ?_; rintro e w' ⟨he, hb⟩; replace he := Ends.yes he; subst he))
    exact ⟨rfl, rfl, ((Below.refl _ _).alloc (Nat.le_refl _) _).trans (hb.mono (by simp))⟩

theorem Sub_core (a b n : Nat) (bad : Bool) (w : World)
    (hS : Hid (∀ g h u, Blk u g 25 (cells8 a) → Blk u h 25 (cells8 b) → Calls Try.prog 47 #[.pointer (some ⟨g, 0, none⟩), .pointer (some ⟨h, 0, none⟩)] u fun e w' => Ends bad n e ∧ Below u.heap.size u w')) :
    Calls Try.prog 20 #[W a, W b] w fun e w' => e = .returned (told bad n) ∧ Below w.heap.size w w' := by
  have hmf : ∀ (fn : Fn) (first cap : Array Value) (w : World), (Instr.makeFunc fn first cap).run Try.prog w = .ok (.func fn first cap) w := fun _ _ _ _ => rfl
  have hF : Hid (∀ (u : World) (g h : Nat), Blk u g 25 (cells8 a) → Blk u h 25 (cells8 b) → Calls Try.prog 44 #[.func (.func 47) #[] #[.pointer (some ⟨g, 0, none⟩), .pointer (some ⟨h, 0, none⟩)]] u fun e w' => e = .returned (told bad n) ∧ Below u.heap.size u w') :=
    fun u g h bg bh => face_below 47 _ u n bad (fun _ => by simp [go_sem]) (fun v hb => unhide hS g h v (bg.below hb bg.lt) (bh.below hb bh.lt))
  clear hS
  go_enter Try.func20, Try.ntmps20
  go_upto_region 1 with fail
  have D1 := hide (Blk.first3 w 25 (cells8 a) (.cells (cells8 b) 25) (.cells #[.int .u64 0, .int .u64 0, .int .u64 0, .int .u64 0, .int .u64 0, .int .u64 0, .int .u64 0, .int .u64 0] 25))
  have D2 := hide (Blk.second3 w 25 (cells8 b) (.cells (cells8 a) 25) (.cells #[.int .u64 0, .int .u64 0, .int .u64 0, .int .u64 0, .int .u64 0, .int .u64 0, .int .u64 0, .int .u64 0] 25))
  have D3 := hide (Blk.third3 w 25 #[.int .u64 0, .int .u64 0, .int .u64 0, .int .u64 0, .int .u64 0, .int .u64 0, .int .u64 0, .int .u64 0] (.cells (cells8 a) 25) (.cells (cells8 b) 25))
  have B0 := hide (below3 w (.cells (cells8 a) 25) (.cells (cells8 b) 25) (.cells #[.int .u64 0, .int .u64 0, .int .u64 0, .int .u64 0, .int .u64 0, .int .u64 0, .int .u64 0, .int .u64 0] 25))
  have hF1 := hide (unhide hF _ _ _ (unhide D1) (unhide D2))
  have hsz : Hid (w.heap.size ≤ (((w.alloc (.cells (cells8 a) 25)).alloc (.cells (cells8 b) 25)).alloc (.cells #[.int .u64 0, .int .u64 0, .int .u64 0, .int .u64 0, .int .u64 0, .int .u64 0, .int .u64 0, .int .u64 0] 25)).heap.size) := (unhide B0).size
  clear hF D1 D2
  cases bad
  · go_wp2_with (first
      | (go_at_call 44; refine (unhide hF1).mono ?_; rintro e w' ⟨he, hb⟩; replace he := told_no he; subst he)
      | refine st8 (n := n) 25 (.tmp 4) (.tmp 8) ((unhide D3).below hb (unhide D3).lt) rfl rfl rfl rfl rfl iWide ?_)
    exact res8s (((unhide D3).below hb (unhide D3).lt).row _) rfl rfl rfl rfl Try.underlying25 rfl iWide ⟨rfl, below_row ((unhide B0).trans (hb.mono (unhide hsz))) (by omega) _⟩
  · go_wp2_with (first
      | (go_at_call 44; refine (unhide hF1).mono ?_; rintro e w' ⟨he, hb⟩; replace he := told_yes he; subst he)
      | refine st8 (n := 0) 25 (.tmp 4) (.tmp 8) ((unhide D3).below hb (unhide D3).lt) rfl rfl rfl rfl rfl iWide ?_)
    exact res8s (((unhide D3).below hb (unhide D3).lt).row _) rfl rfl rfl rfl Try.underlying25 rfl iWide ⟨rfl, below_row ((unhide B0).trans (hb.mono (unhide hsz))) (by omega) _⟩

theorem Neg1_core (a n : Nat) (bad : Bool) (g : Nat) (w : World) (HX : Hid (Blk w g 25 (cells8 a)))
    (hS : Hid (∀ u, Calls Try.prog 48 #[W 0, W a] u fun e w' => Ends bad n e ∧ Below u.heap.size u w')) :
    Calls Try.prog 49 #[.pointer (some ⟨g, 0, none⟩)] w fun e w' => Ends bad n e ∧ Below w.heap.size w w' := by
  cases bad
  · go_enter Try.func49, Try.ntmps49
    go_wp2_with (first
      | refine bd0 25 rfl rfl bWide0 ?_
      | refine ld8 25 (.tmp 0) ((unhide HX).alloc _) rfl rfl rfl Try.underlying25 rfl iWide ?_
      | (go_at_call 48; refine (unhide hS _).mono ?_; rintro e w' ⟨he, hb⟩; replace he := Ends.no he; subst he)
      | refine st8 (n := n) 25 (.tmp 1) (.tmp 4) ((Blk.new _ _ _).below hb (Blk.new _ _ _).lt) rfl rfl rfl rfl rfl iWide ?_)
    exact res8 (((Blk.new _ _ _).below hb (Blk.new _ _ _).lt).row _) rfl rfl rfl Try.underlying25 rfl iWide ⟨rfl, below_row (((Below.refl _ _).alloc (Nat.le_refl _) _).trans (hb.mono (by simp))) (Nat.le_refl _) _⟩
  · go_enter Try.func49, Try.ntmps49
    go_wp2_with (first
      | refine bd0 25 rfl rfl bWide0 ?_
      | refine ld8 25 (.tmp 0) ((unhide HX).alloc _) rfl rfl rfl Try.underlying25 rfl iWide ?_
      | (go_at_call 48; refine (unhide hS _).mono ?_; rintro e w' ⟨he, hb⟩; replace he := Ends.yes he; subst he))
    exact ⟨rfl, rfl, ((Below.refl _ _).alloc (Nat.le_refl _) _).trans (hb.mono (by simp))⟩

theorem Neg_core (a n : Nat) (bad : Bool) (w : World)
    (hS : Hid (∀ g u, Blk u g 25 (cells8 a) → Calls Try.prog 49 #[.pointer (some ⟨g, 0, none⟩)] u fun e w' => Ends bad n e ∧ Below u.heap.size u w')) :
    Calls Try.prog 21 #[W a] w fun e w' => e = .returned (told bad n) ∧ Below w.heap.size w w' := by
  have hmf : ∀ (fn : Fn) (first cap : Array Value) (w : World), (Instr.makeFunc fn first cap).run Try.prog w = .ok (.func fn first cap) w := fun _ _ _ _ => rfl
  have hF : Hid (∀ (u : World) (g : Nat), Blk u g 25 (cells8 a) → Calls Try.prog 44 #[.func (.func 49) #[] #[.pointer (some ⟨g, 0, none⟩)]] u fun e w' => e = .returned (told bad n) ∧ Below u.heap.size u w') :=
    fun u g bg => face_below 49 _ u n bad (fun _ => by simp [go_sem]) (fun v hb => unhide hS g v (bg.below hb bg.lt))
  clear hS
  go_enter Try.func21, Try.ntmps21
  go_upto_region 1 with fail
  have D1 := hide (Blk.first2 w 25 (cells8 a) (.cells #[.int .u64 0, .int .u64 0, .int .u64 0, .int .u64 0, .int .u64 0, .int .u64 0, .int .u64 0, .int .u64 0] 25))
  have D3 := hide (Blk.second2 w 25 #[.int .u64 0, .int .u64 0, .int .u64 0, .int .u64 0, .int .u64 0, .int .u64 0, .int .u64 0, .int .u64 0] (.cells (cells8 a) 25))
  have B0 := hide (below2 w (.cells (cells8 a) 25) (.cells #[.int .u64 0, .int .u64 0, .int .u64 0, .int .u64 0, .int .u64 0, .int .u64 0, .int .u64 0, .int .u64 0] 25))
  have hF1 := hide (unhide hF _ _ (unhide D1))
  have hsz : Hid (w.heap.size ≤ ((w.alloc (.cells (cells8 a) 25)).alloc (.cells #[.int .u64 0, .int .u64 0, .int .u64 0, .int .u64 0, .int .u64 0, .int .u64 0, .int .u64 0, .int .u64 0] 25)).heap.size) := (unhide B0).size
  clear hF D1
  cases bad
  · go_wp2_with (first
      | (go_at_call 44; refine (unhide hF1).mono ?_; rintro e w' ⟨he, hb⟩; replace he := told_no he; subst he)
      | refine st8 (n := n) 25 (.tmp 2) (.tmp 6) ((unhide D3).below hb (unhide D3).lt) rfl rfl rfl rfl rfl iWide ?_)
    exact res8s (((unhide D3).below hb (unhide D3).lt).row _) rfl rfl rfl rfl Try.underlying25 rfl iWide ⟨rfl, below_row ((unhide B0).trans (hb.mono (unhide hsz))) (by omega) _⟩
  · go_wp2_with (first
      | (go_at_call 44; refine (unhide hF1).mono ?_; rintro e w' ⟨he, hb⟩; replace he := told_yes he; subst he)
      | refine st8 (n := 0) 25 (.tmp 2) (.tmp 6) ((unhide D3).below hb (unhide D3).lt) rfl rfl rfl rfl rfl iWide ?_)
    exact res8s (((unhide D3).below hb (unhide D3).lt).row _) rfl rfl rfl rfl Try.underlying25 rfl iWide ⟨rfl, below_row ((unhide B0).trans (hb.mono (unhide hsz))) (by omega) _⟩

theorem Shl1_core (a n : Nat) (k : Int) (bad : Bool) (g h : Nat) (w : World) (HX : Hid (Blk w g 25 (cells8 a))) (HY : Hid (Blk w h 3 #[.int .i64 k]))
    (hS : Hid (∀ u, Calls Try.prog 55 #[W a, .int .i64 k] u fun e w' => Ends bad n e ∧ Below u.heap.size u w')) :
    Calls Try.prog 54 #[.pointer (some ⟨g, 0, none⟩), .pointer (some ⟨h, 0, none⟩)] w fun e w' => Ends bad n e ∧ Below w.heap.size w w' := by
  have hk : (w.alloc (.cells #[.int .u64 0, .int .u64 0, .int .u64 0, .int .u64 0, .int .u64 0, .int .u64 0, .int .u64 0, .int .u64 0] 25)).cell? ⟨h, 0, none⟩ = some (.int .i64 k) := ((unhide HY).alloc _).cell 0
  cases bad
  · go_enter Try.func54, Try.ntmps54
    go_wp2_with (first
      | refine ld8 25 (.tmp 0) ((unhide HX).alloc _) rfl rfl rfl Try.underlying25 rfl iWide ?_
      | (go_at_call 55; refine (unhide hS _).mono ?_; rintro e w' ⟨he, hb⟩; replace he := Ends.no he; subst he)
      | refine st8 (n := n) 25 (.tmp 2) (.tmp 5) ((Blk.new _ _ _).below hb (Blk.new _ _ _).lt) rfl rfl rfl rfl rfl iWide ?_)
    exact res8 (((Blk.new _ _ _).below hb (Blk.new _ _ _).lt).row _) rfl rfl rfl Try.underlying25 rfl iWide ⟨rfl, below_row (((Below.refl _ _).alloc (Nat.le_refl _) _).trans (hb.mono (by simp))) (Nat.le_refl _) _⟩
  · go_enter Try.func54, Try.ntmps54
    go_wp2_with (first
      | refine ld8 25 (.tmp 0) ((unhide HX).alloc _) rfl rfl rfl Try.underlying25 rfl iWide ?_
      | (go_at_call 55; refine (unhide hS _).mono ?_; rintro e w' ⟨he, hb⟩; replace he := Ends.yes he; subst he))
    exact ⟨rfl, rfl, ((Below.refl _ _).alloc (Nat.le_refl _) _).trans (hb.mono (by simp))⟩

theorem Shl_core (a n : Nat) (k : Int) (bad : Bool) (w : World)
    (hS : Hid (∀ g h u, Blk u g 25 (cells8 a) → Blk u h 3 #[.int .i64 k] → Calls Try.prog 54 #[.pointer (some ⟨g, 0, none⟩), .pointer (some ⟨h, 0, none⟩)] u fun e w' => Ends bad n e ∧ Below u.heap.size u w')) :
    Calls Try.prog 26 #[W a, .int .i64 k] w fun e w' => e = .returned (told bad n) ∧ Below w.heap.size w w' := by
  have hmf : ∀ (fn : Fn) (first cap : Array Value) (w : World), (Instr.makeFunc fn first cap).run Try.prog w = .ok (.func fn first cap) w := fun _ _ _ _ => rfl
  have hF : Hid (∀ (u : World) (g h : Nat), Blk u g 25 (cells8 a) → Blk u h 3 #[.int .i64 k] → Calls Try.prog 44 #[.func (.func 54) #[] #[.pointer (some ⟨g, 0, none⟩), .pointer (some ⟨h, 0, none⟩)]] u fun e w' => e = .returned (told bad n) ∧ Below u.heap.size u w') :=
    fun u g h bg bh => face_below 54 _ u n bad (fun _ => by simp [go_sem]) (fun v hb => unhide hS g h v (bg.below hb bg.lt) (bh.below hb bh.lt))
  clear hS
  go_enter Try.func26, Try.ntmps26
  go_upto_region 1 with fail
  have D1 := hide (Blk.first3 w 25 (cells8 a) (.cells #[.int .i64 k] 3) (.cells #[.int .u64 0, .int .u64 0, .int .u64 0, .int .u64 0, .int .u64 0, .int .u64 0, .int .u64 0, .int .u64 0] 25))
  have D2 := hide (Blk.second3 w 3 #[.int .i64 k] (.cells (cells8 a) 25) (.cells #[.int .u64 0, .int .u64 0, .int .u64 0, .int .u64 0, .int .u64 0, .int .u64 0, .int .u64 0, .int .u64 0] 25))
  have D3 := hide (Blk.third3 w 25 #[.int .u64 0, .int .u64 0, .int .u64 0, .int .u64 0, .int .u64 0, .int .u64 0, .int .u64 0, .int .u64 0] (.cells (cells8 a) 25) (.cells #[.int .i64 k] 3))
  have B0 := hide (below3 w (.cells (cells8 a) 25) (.cells #[.int .i64 k] 3) (.cells #[.int .u64 0, .int .u64 0, .int .u64 0, .int .u64 0, .int .u64 0, .int .u64 0, .int .u64 0, .int .u64 0] 25))
  have hF1 := hide (unhide hF _ _ _ (unhide D1) (unhide D2))
  have hsz : Hid (w.heap.size ≤ (((w.alloc (.cells (cells8 a) 25)).alloc (.cells #[.int .i64 k] 3)).alloc (.cells #[.int .u64 0, .int .u64 0, .int .u64 0, .int .u64 0, .int .u64 0, .int .u64 0, .int .u64 0, .int .u64 0] 25)).heap.size) := (unhide B0).size
  clear hF D1 D2
  cases bad
  · go_wp2_with (first
      | (go_at_call 44; refine (unhide hF1).mono ?_; rintro e w' ⟨he, hb⟩; replace he := told_no he; subst he)
      | refine st8 (n := n) 25 (.tmp 4) (.tmp 8) ((unhide D3).below hb (unhide D3).lt) rfl rfl rfl rfl rfl iWide ?_)
    exact res8s (((unhide D3).below hb (unhide D3).lt).row _) rfl rfl rfl rfl Try.underlying25 rfl iWide ⟨rfl, below_row ((unhide B0).trans (hb.mono (unhide hsz))) (by omega) _⟩
  · go_wp2_with (first
      | (go_at_call 44; refine (unhide hF1).mono ?_; rintro e w' ⟨he, hb⟩; replace he := told_yes he; subst he)
      | refine st8 (n := 0) 25 (.tmp 4) (.tmp 8) ((unhide D3).below hb (unhide D3).lt) rfl rfl rfl rfl rfl iWide ?_)
    exact res8s (((unhide D3).below hb (unhide D3).lt).row _) rfl rfl rfl rfl Try.underlying25 rfl iWide ⟨rfl, below_row ((unhide B0).trans (hb.mono (unhide hsz))) (by omega) _⟩

theorem Mul_core (a b n : Nat) (bad : Bool) (w : World)
    (hS : Hid (∀ g h u, Blk u g 25 (cells8 a) → Blk u h 25 (cells8 b) → Calls Try.prog 51 #[.pointer (some ⟨g, 0, none⟩), .pointer (some ⟨h, 0, none⟩)] u fun e w' => Ends bad n e ∧ Below u.heap.size u w')) :
    Calls Try.prog 24 #[W a, W b] w fun e w' => e = .returned (told bad n) ∧ Below w.heap.size w w' := by
  have hmf : ∀ (fn : Fn) (first cap : Array Value) (w : World), (Instr.makeFunc fn first cap).run Try.prog w = .ok (.func fn first cap) w := fun _ _ _ _ => rfl
  have hF : Hid (∀ (u : World) (g h : Nat), Blk u g 25 (cells8 a) → Blk u h 25 (cells8 b) → Calls Try.prog 44 #[.func (.func 51) #[] #[.pointer (some ⟨g, 0, none⟩), .pointer (some ⟨h, 0, none⟩)]] u fun e w' => e = .returned (told bad n) ∧ Below u.heap.size u w') :=
    fun u g h bg bh => face_below 51 _ u n bad (fun _ => by simp [go_sem]) (fun v hb => unhide hS g h v (bg.below hb bg.lt) (bh.below hb bh.lt))
  clear hS
  go_enter Try.func24, Try.ntmps24
  go_upto_region 1 with fail
  have D1 := hide (Blk.first3 w 25 (cells8 a) (.cells (cells8 b) 25) (.cells #[.int .u64 0, .int .u64 0, .int .u64 0, .int .u64 0, .int .u64 0, .int .u64 0, .int .u64 0, .int .u64 0] 25))
  have D2 := hide (Blk.second3 w 25 (cells8 b) (.cells (cells8 a) 25) (.cells #[.int .u64 0, .int .u64 0, .int .u64 0, .int .u64 0, .int .u64 0, .int .u64 0, .int .u64 0, .int .u64 0] 25))
  have D3 := hide (Blk.third3 w 25 #[.int .u64 0, .int .u64 0, .int .u64 0, .int .u64 0, .int .u64 0, .int .u64 0, .int .u64 0, .int .u64 0] (.cells (cells8 a) 25) (.cells (cells8 b) 25))
  have B0 := hide (below3 w (.cells (cells8 a) 25) (.cells (cells8 b) 25) (.cells #[.int .u64 0, .int .u64 0, .int .u64 0, .int .u64 0, .int .u64 0, .int .u64 0, .int .u64 0, .int .u64 0] 25))
  have hF1 := hide (unhide hF _ _ _ (unhide D1) (unhide D2))
  have hsz : Hid (w.heap.size ≤ (((w.alloc (.cells (cells8 a) 25)).alloc (.cells (cells8 b) 25)).alloc (.cells #[.int .u64 0, .int .u64 0, .int .u64 0, .int .u64 0, .int .u64 0, .int .u64 0, .int .u64 0, .int .u64 0] 25)).heap.size) := (unhide B0).size
  clear hF D1 D2
  cases bad
  · go_wp2_with (first
      | (go_at_call 44; refine (unhide hF1).mono ?_; rintro e w' ⟨he, hb⟩; replace he := told_no he; subst he)
      | refine st8 (n := n) 25 (.tmp 4) (.tmp 8) ((unhide D3).below hb (unhide D3).lt) rfl rfl rfl rfl rfl iWide ?_)
    exact res8s (((unhide D3).below hb (unhide D3).lt).row _) rfl rfl rfl rfl Try.underlying25 rfl iWide ⟨rfl, below_row ((unhide B0).trans (hb.mono (unhide hsz))) (by omega) _⟩
  · go_wp2_with (first
      | (go_at_call 44; refine (unhide hF1).mono ?_; rintro e w' ⟨he, hb⟩; replace he := told_yes he; subst he)
      | refine st8 (n := 0) 25 (.tmp 4) (.tmp 8) ((unhide D3).below hb (unhide D3).lt) rfl rfl rfl rfl rfl iWide ?_)
    exact res8s (((unhide D3).below hb (unhide D3).lt).row _) rfl rfl rfl rfl Try.underlying25 rfl iWide ⟨rfl, below_row ((unhide B0).trans (hb.mono (unhide hsz))) (by omega) _⟩

theorem Sqrt_core (a n : Nat) (bad : Bool) (w : World)
    (hS : Hid (∀ g u, Blk u g 25 (cells8 a) → Calls Try.prog 62 #[.pointer (some ⟨g, 0, none⟩)] u fun e w' => Ends bad n e ∧ Below u.heap.size u w')) :
    Calls Try.prog 32 #[W a] w fun e w' => e = .returned (told bad n) ∧ Below w.heap.size w w' := by
  have hmf : ∀ (fn : Fn) (first cap : Array Value) (w : World), (Instr.makeFunc fn first cap).run Try.prog w = .ok (.func fn first cap) w := fun _ _ _ _ => rfl
  have hF : Hid (∀ (u : World) (g : Nat), Blk u g 25 (cells8 a) → Calls Try.prog 44 #[.func (.func 62) #[] #[.pointer (some ⟨g, 0, none⟩)]] u fun e w' => e = .returned (told bad n) ∧ Below u.heap.size u w') :=
    fun u g bg => face_below 62 _ u n bad (fun _ => by simp [go_sem]) (fun v hb => unhide hS g v (bg.below hb bg.lt))
  clear hS
  go_enter Try.func32, Try.ntmps32
  go_upto_region 1 with fail
  have D1 := hide (Blk.first2 w 25 (cells8 a) (.cells #[.int .u64 0, .int .u64 0, .int .u64 0, .int .u64 0, .int .u64 0, .int .u64 0, .int .u64 0, .int .u64 0] 25))
  have D3 := hide (Blk.second2 w 25 #[.int .u64 0, .int .u64 0, .int .u64 0, .int .u64 0, .int .u64 0, .int .u64 0, .int .u64 0, .int .u64 0] (.cells (cells8 a) 25))
  have B0 := hide (below2 w (.cells (cells8 a) 25) (.cells #[.int .u64 0, .int .u64 0, .int .u64 0, .int .u64 0, .int .u64 0, .int .u64 0, .int .u64 0, .int .u64 0] 25))
  have hF1 := hide (unhide hF _ _ (unhide D1))
  have hsz : Hid (w.heap.size ≤ ((w.alloc (.cells (cells8 a) 25)).alloc (.cells #[.int .u64 0, .int .u64 0, .int .u64 0, .int .u64 0, .int .u64 0, .int .u64 0, .int .u64 0, .int .u64 0] 25)).heap.size) := (unhide B0).size
  clear hF D1
  cases bad
  · go_wp2_with (first
      | (go_at_call 44; refine (unhide hF1).mono ?_; rintro e w' ⟨he, hb⟩; replace he := told_no he; subst he)
      | refine st8 (n := n) 25 (.tmp 2) (.tmp 6) ((unhide D3).below hb (unhide D3).lt) rfl rfl rfl rfl rfl iWide ?_)
    exact res8s (((unhide D3).below hb (unhide D3).lt).row _) rfl rfl rfl rfl Try.underlying25 rfl iWide ⟨rfl, below_row ((unhide B0).trans (hb.mono (unhide hsz))) (by omega) _⟩
  · go_wp2_with (first
      | (go_at_call 44; refine (unhide hF1).mono ?_; rintro e w' ⟨he, hb⟩; replace he := told_yes he; subst he)
      | refine st8 (n := 0) 25 (.tmp 2) (.tmp 6) ((unhide D3).below hb (unhide D3).lt) rfl rfl rfl rfl rfl iWide ?_)
    exact res8s (((unhide D3).below hb (unhide D3).lt).row _) rfl rfl rfl rfl Try.underlying25 rfl iWide ⟨rfl, below_row ((unhide B0).trans (hb.mono (unhide hsz))) (by omega) _⟩

end Go.Proofs.Ytfoojpfgeicolaa
