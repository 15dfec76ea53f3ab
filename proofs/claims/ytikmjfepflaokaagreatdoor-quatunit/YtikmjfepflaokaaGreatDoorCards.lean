/-
  DERIVED. GIVEN WITH THE SEED: THE CARDS: each row of YtikmjfepflaokaaGreatDoorRows.lean that lists a variable, with what it lists TIED to the program's text (the seventh form; the later family's looks); each row that meets fmt, with fmt's text TOLD by the authors' own Lean function (tested against real Go, not proved from fmt's source: count such statements apart). THE CARD IS WHAT COUNTS. Prove the row's statement (the work); the ties are given (YtikmjfepflaokaaGreatDoorTie.lean); close each card by the builder's one call (the guide's Derived/Test/ToyasCard.lean, 'card_holds'). Laid BY PROGRAM, IN A SANDBOX (cutbox-door.mjs). By AI agents, Wed Nov 11 2026. No macro, syntax, notation, axiom, sorry.
-/
import Derived.Test.YtikmjfepflaokaaGreatDoorRows
import GoSem.ClaimSeven
namespace Go.Proofs.YtikmjfepflaokaaGreatDoor
namespace Rows

/-- THE TIED CARD OF 'ninepinlaw05.QuatMul'. -/
def quatMulCard : Claim7 := { stood := { row := quatMulRow, standIns := [], harness := (true, "d46b01f8d6c4743dc9170a894ec37b7ff98665fc5995585b36a4d81d465127d9"), looks := false }, kinds := [], alts := [], laidByText := true, laidKinds := [.data, .data], laidTests := true, laidLooks := .later }
def QuatMulCardSaid : Prop := Claim7.holds Tryz.pinned (.plain (OpenSpec.ofChange quatMulSpec)) quatMulCard

/-- THE TIED CARD OF 'ninepinlaw05.QuatUnit'. -/
def quatUnitCard : Claim7 := { stood := { row := quatUnitRow, standIns := [], harness := (true, "d46b01f8d6c4743dc9170a894ec37b7ff98665fc5995585b36a4d81d465127d9"), looks := false }, kinds := [], alts := [], laidByText := true, laidKinds := [.data, .data], laidTests := true, laidLooks := .later }
def QuatUnitCardSaid : Prop := Claim7.holds Tryz.pinned (.plain (OpenSpec.ofChange quatUnitSpec)) quatUnitCard

/-- THE TIED CARD OF 'ninepinlaw05.QuatSpin'. -/
def quatSpinCard : Claim7 := { stood := { row := quatSpinRow, standIns := [], harness := (true, "d46b01f8d6c4743dc9170a894ec37b7ff98665fc5995585b36a4d81d465127d9"), looks := false }, kinds := [], alts := [], laidByText := true, laidKinds := [.data, .data], laidTests := true, laidLooks := .later }
def QuatSpinCardSaid : Prop := Claim7.holds Tryz.pinned (.plain (OpenSpec.ofChange quatSpinSpec)) quatSpinCard

/-- THE SECOND FORM's CARD OF 'ninepinlaw05.QuatMul'. -/
def quatMulUptoCard : Claim7 := { stood := { row := quatMulUptoRow, standIns := [], harness := (true, "d46b01f8d6c4743dc9170a894ec37b7ff98665fc5995585b36a4d81d465127d9"), looks := false }, kinds := [], alts := [], laidByText := true, laidKinds := [.data, .data], laidTests := true, laidLooks := .later }
def QuatMulUptoCardSaid : Prop := Claim7.holds Tryz.pinned (.plain (OpenSpec.upto quatMulSpec)) quatMulUptoCard

/-- THE SECOND FORM's CARD OF 'ninepinlaw05.QuatUnit'. -/
def quatUnitUptoCard : Claim7 := { stood := { row := quatUnitUptoRow, standIns := [], harness := (true, "d46b01f8d6c4743dc9170a894ec37b7ff98665fc5995585b36a4d81d465127d9"), looks := false }, kinds := [], alts := [], laidByText := true, laidKinds := [.data, .data], laidTests := true, laidLooks := .later }
def QuatUnitUptoCardSaid : Prop := Claim7.holds Tryz.pinned (.plain (OpenSpec.upto quatUnitSpec)) quatUnitUptoCard

/-- THE SECOND FORM's CARD OF 'ninepinlaw05.QuatSpin'. -/
def quatSpinUptoCard : Claim7 := { stood := { row := quatSpinUptoRow, standIns := [], harness := (true, "d46b01f8d6c4743dc9170a894ec37b7ff98665fc5995585b36a4d81d465127d9"), looks := false }, kinds := [], alts := [], laidByText := true, laidKinds := [.data, .data], laidTests := true, laidLooks := .later }
def QuatSpinUptoCardSaid : Prop := Claim7.holds Tryz.pinned (.plain (OpenSpec.upto quatSpinSpec)) quatSpinUptoCard
end Rows
end Go.Proofs.YtikmjfepflaokaaGreatDoor
