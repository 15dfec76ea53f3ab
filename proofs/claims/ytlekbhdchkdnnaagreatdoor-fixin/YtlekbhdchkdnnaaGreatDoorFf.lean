/- Library calls at the few texts that the laws name: FormatUint, ParseUint, Cut, CutPrefix. -/
import Derived.Test.YtlekbhdchkdnnaaGreatDoorFd
import Derived.Lib.ConvBytes
import Derived.Lib.Bytealg
import Derived.Lib.Walk
namespace Go.Proofs.YtlekbhdchkdnnaaGreatDoor
open Go.RowKit
set_option maxRecDepth 4000
set_option linter.unusedVariables false

theorem format_0 : Ans 70 #[.int .u64 0, .int .i64 10] (.string ⟨#[48]⟩) := by
  intro w
  go_enter Tryz.func70, Tryz.ntmps70
  go_wp2
  go_ret
  exact ⟨by rfl, Below.refl _ _⟩
theorem format_1 : Ans 70 #[.int .u64 1, .int .i64 10] (.string ⟨#[49]⟩) := by
  intro w
  go_enter Tryz.func70, Tryz.ntmps70
  go_wp2
  go_ret
  exact ⟨by rfl, Below.refl _ _⟩
theorem cutPrefix_18 : Ans 100 #[.string ⟨#[49, 46, 56]⟩, .string ⟨#[45]⟩] (.tuple #[.string ⟨#[49, 46, 56]⟩, .bool false]) := by
  intro w
  have e1 : (((ByteArray.mk #[49, 46, 56]).extract 0 1).toList == [45]) = false := by decide +kernel
  go_enter Tryz.func100, Tryz.ntmps100
  go_wp2
  go_ret2
  exact ⟨rfl, Below.refl _ _⟩
theorem indexByte_18 : Ans 145 #[.string ⟨#[49, 46, 56]⟩, .int .u8 46] (.int .i64 1) := by
  intro w
  go_enter Tryz.func145, Tryz.ntmps145
  go_wp2
  rw [run_callFunc_extern Tryz.func157 (by kernel_rfl) (by kernel_rfl) (by kernel_rfl) (e := Extern.BytealgIndexByte.indexByte) (by kernel_rfl), Lib.run_indexByteString]
  simp only [Result.andThen]
  rw [Oper.upon_value]
  go_wp2
  go_ret
  exact ⟨rfl, Below.refl _ _⟩
theorem index_18 : Ans 130 #[.string ⟨#[49, 46, 56]⟩, .string ⟨#[46]⟩] (.int .i64 1) := by
  intro w
  have hI := hide indexByte_18
  have D := hide (Env.start w)
  go_enter Tryz.func130, Tryz.ntmps130
  go_wp2_with (go_at_call 145; refine (unhide hI _).mono ?_; rintro e w' ⟨he, hb⟩; subst he; have D := hide ((unhide D).keep hb); clear hb)
  go_ret
  exact ⟨rfl, (unhide D).o⟩
theorem slcut_18 : Ans 115 #[.string ⟨#[49, 46, 56]⟩, .string ⟨#[46]⟩] (.tuple #[.string ⟨#[49]⟩, .string ⟨#[56]⟩, .bool true]) := by
  intro w
  have hI := hide index_18
  have D := hide (Env.start w)
  go_enter Tryz.func115, Tryz.ntmps115
  go_upto_region 3 with (first | (go_at_call 130; with_reducible refine (unhide hI _).mono ?_; rintro e w' ⟨he, hb⟩; subst he; have D := hide ((unhide D).keep hb); clear hb))
  refine region_plan (S := Env w []) (l := [0, 1, 2, 3, 4, 5, 6, 7, 8, 9, 10, 11]) (by kernel_rfl) (by kernel_rfl) (by kernel_rfl) (by kernel_rfl) (by kernel_rfl) (by kernel_rfl) (by kernel_rfl) ((unhide D).drew) ?_
  repeat (refine plan_read (v := ?_) rfl rfl (fun u hS => by go_simp; rfl) ?_; go_simp)
  refine plan_end (fun u hS => ?_)
  have O := hide hS.o
  clear hS D
  go_wp2
  go_ret3
  exact ⟨rfl, unhide O⟩
theorem cut_18 : Ans 101 #[.string ⟨#[49, 46, 56]⟩, .string ⟨#[46]⟩] (.tuple #[.string ⟨#[49]⟩, .string ⟨#[56]⟩, .bool true]) := by
  intro w
  have hI := hide slcut_18
  have D := hide (Env.start w)
  go_enter Tryz.func101, Tryz.ntmps101
  go_wp2_with (first | (go_at_call 115; with_reducible refine (unhide hI _).mono ?_; rintro e w' ⟨he, hb⟩; subst he; have D := hide ((unhide D).keep hb); clear hb))
  go_ret3
  exact ⟨rfl, (unhide D).o⟩
end Go.Proofs.YtlekbhdchkdnnaaGreatDoor
