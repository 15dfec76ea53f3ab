/- The law's awake: it is true. -/
import Derived.Test.YtlekbhdchkdnnaaGreatDoorFe
import Derived.Test.YtlekbhdchkdnnaaGreatDoorFg
namespace Go.Proofs.YtlekbhdchkdnnaaGreatDoor
open Go.RowKit
set_option maxRecDepth 4000
set_option linter.unusedVariables false

theorem text_m1 : Ans 39 #[.int .i64 (-1)] (.string ⟨#[45, 48, 46, 48, 48, 48, 48, 48, 48, 48, 49]⟩) := fun w =>
  (text_neg (-1) 1 (by decide) [48] (by decide) w (by decide) format_0 (by decide)).mono fun _ _ ⟨he, hb⟩ => ⟨he, hb⟩
theorem text_18 : Ans 39 #[.int .i64 4294967304] (.string ⟨#[49, 46, 48, 48, 48, 48, 48, 48, 48, 56]⟩) := fun w =>
  (text_pos 4294967304 4294967304 (by decide) [49] (by decide) w (by decide) format_1 (by decide)).mono fun _ _ ⟨he, hb⟩ => ⟨he, hb⟩
theorem read_18 : Ans 68 #[.string ⟨#[49, 46, 56]⟩] (.tuple #[.int .i64 4294967304, .bool true]) := by
  intro w
  have h1 := hide cutPrefix_18
  have h2 := hide cut_18
  have h3 := hide parse_1
  have h4 := hide parse_8
  have hbits : bits BinOp.or IntKind.u64 4294967296 8 = 4294967304 := by decide +kernel
  have D := hide (Env.start w)
  go_enter Tryz.func68, Tryz.ntmps68
  go_wp2_with (first | (go_at_call 100; with_reducible refine (unhide h1 _).mono ?_; rintro e w' ⟨he, hb⟩; subst he; have D := hide ((unhide D).keep hb); clear hb) | (go_at_call 101; with_reducible refine (unhide h2 _).mono ?_; rintro e w' ⟨he, hb⟩; subst he; have D := hide ((unhide D).keep hb); clear hb) | (go_at_call 102; with_reducible refine (unhide h3 _).mono ?_; rintro e w' ⟨he, hb⟩; subst he; have D := hide ((unhide D).keep hb); clear hb) | (go_at_call 102; with_reducible refine (unhide h4 _).mono ?_; rintro e w' ⟨he, hb⟩; subst he; have D := hide ((unhide D).keep hb); clear hb))
  go_ret2
  exact ⟨rfl, (unhide D).o⟩
theorem parse_18 : Ans 37 #[.string ⟨#[49, 46, 56]⟩] (.tuple #[.int .i64 0, .int .i64 6]) := by
  intro w
  have h1 := hide read_18
  have h2 := hide text_18
  have D := hide (Env.start w)
  go_enter Tryz.func37, Tryz.ntmps37
  go_wp2_with (first | (go_at_call 68; with_reducible refine (unhide h1 _).mono ?_; rintro e w' ⟨he, hb⟩; subst he; have D := hide ((unhide D).keep hb); clear hb) | (go_at_call 39; with_reducible refine (unhide h2 _).mono ?_; rintro e w' ⟨he, hb⟩; subst he; have D := hide ((unhide D).keep hb); clear hb))
  go_ret2
  exact ⟨rfl, (unhide D).o⟩

theorem awake2 : Ans 21 #[] (.bool true) := by
  intro w
  have i (z : Int) (h1 : -9223372036854775808 ≤ z := by decide) (h2 : z < 9223372036854775808 := by decide) : I64 z := ⟨h1, h2⟩
  have h1 := hide parse_18
  have h2 := hide (FixOfZ 3 (i 3))
  have h3 := hide (FixMulZ 1 1 (i 1) (i 1))
  have h4 := hide (FixMulUpZ 1 1 (i 1) (i 1))
  have h5 := hide (FixMulZ (-1) 1 (i (-1)) (i 1))
  have h6 := hide (FixDivZ 4294967296 12884901888 (i _) (i _))
  have h7 := hide text_m1
  have e2 : cl (3 * 4294967296) = 12884901888 := by decide
  have e3 : mulD 1 1 = 0 := by decide
  have e4 : mulU 1 1 = 1 := by decide
  have e5 : mulD (-1) 1 = -1 := by decide
  have e6 : divD 4294967296 12884901888 = 1431655765 := by decide
  rw [e2] at h2
  rw [e3] at h3
  rw [e4] at h4
  rw [e5] at h5
  rw [e6] at h6
  clear e2 e3 e4 e5 e6 i
  have D := hide (Env.start w)
  go_enter Tryz.func21, Tryz.ntmps21
  go_wp2_with (first | (go_at_call 37; with_reducible refine (unhide h1 _).mono ?_; rintro e w' ⟨he, hb⟩; subst he; have D := hide ((unhide D).keep hb); clear hb) | (go_at_call 15; with_reducible refine (unhide h2 _).mono ?_; rintro e w' ⟨he, hb⟩; subst he; have D := hide ((unhide D).keep hb); clear hb) | (go_at_call 22; with_reducible refine (unhide h3 _).mono ?_; rintro e w' ⟨he, hb⟩; subst he; have D := hide ((unhide D).keep hb); clear hb) | (go_at_call 24; with_reducible refine (unhide h4 _).mono ?_; rintro e w' ⟨he, hb⟩; subst he; have D := hide ((unhide D).keep hb); clear hb) | (go_at_call 22; with_reducible refine (unhide h5 _).mono ?_; rintro e w' ⟨he, hb⟩; subst he; have D := hide ((unhide D).keep hb); clear hb) | (go_at_call 25; with_reducible refine (unhide h6 _).mono ?_; rintro e w' ⟨he, hb⟩; subst he; have D := hide ((unhide D).keep hb); clear hb) | (go_at_call 39; with_reducible refine (unhide h7 _).mono ?_; rintro e w' ⟨he, hb⟩; subst he; have D := hide ((unhide D).keep hb); clear hb))
  go_ret
  exact ⟨rfl, (unhide D).o⟩

end Go.Proofs.YtlekbhdchkdnnaaGreatDoor
