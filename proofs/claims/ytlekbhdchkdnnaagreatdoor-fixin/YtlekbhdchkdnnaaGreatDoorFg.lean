/- strconv.ParseUint at a text of one sign. -/
import Derived.Test.YtlekbhdchkdnnaaGreatDoorFf
namespace Go.Proofs.YtlekbhdchkdnnaaGreatDoor
open Go.RowKit
set_option maxRecDepth 4000
set_option linter.unusedVariables false

theorem bytes_below (w : World) (e : TypeId) (s : ByteArray) : Below w.heap.size w (Lib.bytesWorld w e s) :=
  ⟨rfl, rfl, rfl, by rw [Lib.bytesWorld_size]; omega, fun k hk => Lib.bytesWorld_at_old w e s k hk⟩

set_option maxHeartbeats 2000000 in
theorem iparse_1 : Ans 116 #[.string ⟨#[49]⟩, .int .i64 10, .int .i64 32] (.tuple #[.int .u64 1, .nilIface]) := by
  intro w
  have hcv := Lib.run_convert_string_bytes (P := Tryz.prog) w 9 67 5 ⟨#[49]⟩ Tryz.underlying9 Tryz.underlying67 Tryz.underlying5
  have hc : (Lib.bytesWorld w 5 ⟨#[49]⟩).cell? ⟨w.heap.size, 0, none⟩ = some (.int .u8 49) := Lib.bytesWorld_cell w 5 ⟨#[49]⟩ 0 (by decide)
  have hB := hide (bytes_below w 5 ⟨#[49]⟩)
  have hs1 : (ByteArray.mk #[49]).size = 1 := rfl
  rw [hs1] at hcv
  generalize Lib.bytesWorld w 5 ⟨#[49]⟩ = w1 at hcv hc hB
  generalize grownCap w 1 0 5 = cap at hcv
  clear hs1
  go_enter Tryz.func116, Tryz.ntmps116
  go_wp2_with fail
  go_loopw [12, 13, 101] (fun u n i wr => wr = w1 ∧ u = .bool false ∧ ((i = .int .i64 0 ∧ n = .int .u64 0) ∨ (i = .int .i64 1 ∧ n = .int .u64 1))) (fun _ _ i _ => 1 - (intOf i).toNat)
  case atStart => exact ⟨rfl, rfl, .inl ⟨rfl, rfl⟩⟩
  case round =>
    obtain ⟨rfl, rfl, ⟨rfl, rfl⟩ | ⟨rfl, rfl⟩⟩ := hrel
    · go_wp2
      go_roundw
      case rel => exact ⟨trivial, rfl, .inr ⟨rfl, rfl⟩⟩
      case measure => simp [intOf]
    · go_wp2
      go_ret2
      exact ⟨rfl, unhide hB⟩
theorem parse_1 : Ans 102 #[.string ⟨#[49]⟩, .int .i64 10, .int .i64 32] (.tuple #[.int .u64 1, .nilIface]) := by
  intro w
  have hI := hide iparse_1
  have D := hide (Env.start w)
  go_enter Tryz.func102, Tryz.ntmps102
  go_wp2_with (first | (go_at_call 116; with_reducible refine (unhide hI _).mono ?_; rintro e w' ⟨he, hb⟩; subst he; have D := hide ((unhide D).keep hb); clear hb))
  go_ret2
  exact ⟨rfl, (unhide D).o⟩

set_option maxHeartbeats 2000000 in
theorem iparse_8 : Ans 116 #[.string ⟨#[56]⟩, .int .i64 16, .int .i64 32] (.tuple #[.int .u64 8, .nilIface]) := by
  intro w
  have hcv := Lib.run_convert_string_bytes (P := Tryz.prog) w 9 67 5 ⟨#[56]⟩ Tryz.underlying9 Tryz.underlying67 Tryz.underlying5
  have hc : (Lib.bytesWorld w 5 ⟨#[56]⟩).cell? ⟨w.heap.size, 0, none⟩ = some (.int .u8 56) := Lib.bytesWorld_cell w 5 ⟨#[56]⟩ 0 (by decide)
  have hB := hide (bytes_below w 5 ⟨#[56]⟩)
  have hs1 : (ByteArray.mk #[56]).size = 1 := rfl
  rw [hs1] at hcv
  generalize Lib.bytesWorld w 5 ⟨#[56]⟩ = w1 at hcv hc hB
  generalize grownCap w 1 0 5 = cap at hcv
  clear hs1
  go_enter Tryz.func116, Tryz.ntmps116
  go_wp2_with fail
  go_loopw [12, 13, 101] (fun u n i wr => wr = w1 ∧ u = .bool false ∧ ((i = .int .i64 0 ∧ n = .int .u64 0) ∨ (i = .int .i64 1 ∧ n = .int .u64 8))) (fun _ _ i _ => 1 - (intOf i).toNat)
  case atStart => exact ⟨rfl, rfl, .inl ⟨rfl, rfl⟩⟩
  case round =>
    obtain ⟨rfl, rfl, ⟨rfl, rfl⟩ | ⟨rfl, rfl⟩⟩ := hrel
    · go_wp2
      go_roundw
      case rel => exact ⟨trivial, rfl, .inr ⟨rfl, rfl⟩⟩
      case measure => simp [intOf]
    · go_wp2
      go_ret2
      exact ⟨rfl, unhide hB⟩
theorem parse_8 : Ans 102 #[.string ⟨#[56]⟩, .int .i64 16, .int .i64 32] (.tuple #[.int .u64 8, .nilIface]) := by
  intro w
  have hI := hide iparse_8
  have D := hide (Env.start w)
  go_enter Tryz.func102, Tryz.ntmps102
  go_wp2_with (first | (go_at_call 116; with_reducible refine (unhide hI _).mono ?_; rintro e w' ⟨he, hb⟩; subst he; have D := hide ((unhide D).keep hb); clear hb))
  go_ret2
  exact ⟨rfl, (unhide D).o⟩

end Go.Proofs.YtlekbhdchkdnnaaGreatDoor
