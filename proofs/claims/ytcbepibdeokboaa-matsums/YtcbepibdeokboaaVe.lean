/- Package vec: Dot over integers; the axes; each with the closures of Add, Sub, Scale. -/
import Derived.Test.YtcbepibdeokboaaVa
namespace Go.Proofs.Ytcbepibdeokboaa
open Go.RowKit
set_option maxRecDepth 4000
set_option linter.unusedVariables false

theorem v3_one (x y z : Int) : (v3 x y z).all (·.oneCell') = true := by simp [Value.oneCell']
theorem dot3 (x1 x2 x3 y1 y2 y3 : Int) : dotZ (nth3 x1 x2 x3) (nth3 y1 y2 y3) 3 = x1 * y1 + x2 * y2 + x3 * y3 := by
  show 0 + x1 * y1 + x2 * y2 + x3 * y3 = _
  rw [Int.zero_add]
theorem nth3_all {P : Int → Prop} {x y z : Int} (hx : P x) (hy : P y) (hz : P z) (k : Nat) : P (nth3 x y z k) := by
  unfold nth3
  split
  · exact hx
  · split
    · exact hy
    · exact hz
theorem DotZ (ax ay az bx b_y bz_ : Int) (h1 : I64 ax) (h2 : I64 ay) (h3 : I64 az) (h4 : I64 bx) (h5 : I64 b_y) (h6 : I64 bz_) :
    Ans 44 #[.agg (v3 ax ay az), .agg (v3 bx b_y bz_)] (.int .i64 (cl ((ax * bx + ay * b_y + az * bz_) / 4294967296))) := by
  intro w
  refine dot_core ax ay az bx b_y bz_ _ (enc ax) (enc ay) (enc az) (enc bx) (enc b_y) (enc bz_) w (TimesZ ax bx h1 h4) (TimesZ ay b_y h2 h5) (TimesZ az bz_ h3 h6) (fun u p hB => ?_)
  have k := VBroughtZ 3 p (nth3 ax ay az) (nth3 bx b_y bz_) u (by decide) hB.lt (fun k _ => nth3_all (P := Sz 70) (h1.sz.mono (by decide)) (h2.sz.mono (by decide)) (h3.sz.mono (by decide)) k) (fun k _ => nth3_all (P := Sz 70) (h4.sz.mono (by decide)) (h5.sz.mono (by decide)) (h6.sz.mono (by decide)) k) (fun k hk => ?_)
  · rw [dot3] at k
    exact k
  · refine prs_range hB ?_
    rcases (show k = 0 ∨ k = 1 ∨ k = 2 by omega) with rfl | rfl | rfl <;> rfl

theorem alongX (x y z : Int) : Ans 78 #[.agg (v3 x y z)] (.int .i64 x) := by
  intro w
  go_enter Try.func78, Try.ntmps78
  go_wp2
  go_ret
  exact ⟨rfl, (Below.refl _ _).alloc (Nat.le_refl _) _⟩
theorem alongY (x y z : Int) : Ans 79 #[.agg (v3 x y z)] (.int .i64 y) := by
  intro w
  go_enter Try.func79, Try.ntmps79
  go_wp2
  go_ret
  exact ⟨rfl, (Below.refl _ _).alloc (Nat.le_refl _) _⟩
theorem alongZ (x y z : Int) : Ans 80 #[.agg (v3 x y z)] (.int .i64 z) := by
  intro w
  go_enter Try.func80, Try.ntmps80
  go_wp2
  go_ret
  exact ⟨rfl, (Below.refl _ _).alloc (Nat.le_refl _) _⟩

/-- each, with the closure of Add. -/
theorem each_Add (S : World → Prop) (g0 g1 : Nat) (x y z : Int) (w : World) (hS : S w) (hk : Hid (∀ u u', S u → Below u.heap.size u u' → S u'))
    (hX : Hid (∀ u, S u → Calls Try.prog 50 #[.func (Fn.func 78) #[] #[], .pointer (some ⟨g0, 0, none⟩), .pointer (some ⟨g1, 0, none⟩)] u fun e w' => e = .returned (.int .i64 x) ∧ Below u.heap.size u w'))
    (hY : Hid (∀ u, S u → Calls Try.prog 50 #[.func (Fn.func 79) #[] #[], .pointer (some ⟨g0, 0, none⟩), .pointer (some ⟨g1, 0, none⟩)] u fun e w' => e = .returned (.int .i64 y) ∧ Below u.heap.size u w'))
    (hZ : Hid (∀ u, S u → Calls Try.prog 50 #[.func (Fn.func 80) #[] #[], .pointer (some ⟨g0, 0, none⟩), .pointer (some ⟨g1, 0, none⟩)] u fun e w' => e = .returned (.int .i64 z) ∧ Below u.heap.size u w')) :
    Calls Try.prog 49 #[.func (Fn.func 50) #[] #[.pointer (some ⟨g0, 0, none⟩), .pointer (some ⟨g1, 0, none⟩)]] w fun e w' => e = .returned (.agg (v3 x y z)) ∧ Below w.heap.size w w' := by
  go_enter Try.func49, Try.ntmps49
  go_upto_region 1 with fail
  have D := hide ((Gen.start w).push 24 (v3 0 0 0))
  have HS := hide (unhide hk _ _ hS ((Below.refl _ w).alloc (Nat.le_refl _) (.cells (v3 0 0 0) 24)))
  clear hS
  go_wp2_with (first | (go_at_call 50; (first | with_reducible refine (unhide hX _ (unhide HS)).mono ?_ | with_reducible refine (unhide hY _ (unhide HS)).mono ?_ | with_reducible refine (unhide hZ _ (unhide HS)).mono ?_); rintro e w' ⟨he, hb⟩; subst he; have D := hide ((unhide D).keep hb); have HS := hide (unhide hk _ _ (unhide HS) hb); clear hb) | (with_reducible refine at_list ?_; apply stGend (unhide D) rVec _ _ rfl rfl rfl rfl (by repeat (first | exact List.mem_cons_self | apply List.mem_cons_of_mem)) (by omega) rfl rfl (v3_one _ _ _); intro B O))
  exact resG rVec (unhide B) rfl rfl rfl rfl ⟨rfl, unhide O⟩

end Go.Proofs.Ytcbepibdeokboaa
