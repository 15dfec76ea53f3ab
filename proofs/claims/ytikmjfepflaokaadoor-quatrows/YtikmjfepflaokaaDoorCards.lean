/-
  DERIVED. GIVEN WITH THE SEED: THE CARDS: each row of YtikmjfepflaokaaDoorRows.lean that lists a variable, with what it lists TIED to the program's text (the seventh form; the later family's looks); each row that meets fmt, with fmt's text TOLD by the authors' own Lean function (tested against real Go, not proved from fmt's source: count such statements apart). THE CARD IS WHAT COUNTS. Prove the row's statement (the work); the ties are given (YtikmjfepflaokaaDoorTie.lean); close each card by the builder's one call (the guide's Derived/Test/ToyasCard.lean, 'card_holds'). Laid BY PROGRAM, IN A SANDBOX (cutbox-door.mjs). By AI agents, Wed Nov 11 2026. No macro, syntax, notation, axiom, sorry.
-/
import Derived.Test.YtikmjfepflaokaaDoorRows
import GoSem.ClaimSeven
namespace Go.Proofs.YtikmjfepflaokaaDoor
namespace Rows

/-- THE TIED CARD OF 'ninepinlaw05.QuatMatrix'. -/
def quatMatrixCard : Claim7 := { stood := { row := quatMatrixRow, standIns := [], harness := (true, "b81e80d97640af384e5021ae3b6b441bb092e8e5ef6b1cc56d4a3a52143a48fa"), looks := false }, kinds := [], alts := [], laidByText := true, laidKinds := [.data, .data], laidTests := true, laidLooks := .later }
def QuatMatrixCardSaid : Prop := Claim7.holds Tryd.pinned (.plain (OpenSpec.ofChange quatMatrixSpec)) quatMatrixCard

/-- THE TIED CARD OF 'ninepinlaw05.QuatUnitary'. -/
def quatUnitaryCard : Claim7 := { stood := { row := quatUnitaryRow, standIns := [], harness := (true, "b81e80d97640af384e5021ae3b6b441bb092e8e5ef6b1cc56d4a3a52143a48fa"), looks := false }, kinds := [], alts := [], laidByText := true, laidKinds := [.data, .data], laidTests := true, laidLooks := .later }
def QuatUnitaryCardSaid : Prop := Claim7.holds Tryd.pinned (.plain (OpenSpec.ofChange quatUnitarySpec)) quatUnitaryCard

/-- THE TIED CARD OF 'ninepinlaw05.QuatRows'. -/
def quatRowsCard : Claim7 := { stood := { row := quatRowsRow, standIns := [], harness := (true, "b81e80d97640af384e5021ae3b6b441bb092e8e5ef6b1cc56d4a3a52143a48fa"), looks := false }, kinds := [], alts := [], laidByText := true, laidKinds := [.data, .data], laidTests := true, laidLooks := .later }
def QuatRowsCardSaid : Prop := Claim7.holds Tryd.pinned (.plain (OpenSpec.ofChange quatRowsSpec)) quatRowsCard

/-- THE TIED CARD OF 'ninepinlaw05.QuatBack'. -/
def quatBackCard : Claim7 := { stood := { row := quatBackRow, standIns := [], harness := (true, "b81e80d97640af384e5021ae3b6b441bb092e8e5ef6b1cc56d4a3a52143a48fa"), looks := false }, kinds := [], alts := [], laidByText := true, laidKinds := [.data, .data], laidTests := true, laidLooks := .later }
def QuatBackCardSaid : Prop := Claim7.holds Tryd.pinned (.plain (OpenSpec.ofChange quatBackSpec)) quatBackCard

/-- THE TIED CARD OF 'ninepinlaw05.QuatStill'. -/
def quatStillCard : Claim7 := { stood := { row := quatStillRow, standIns := [], harness := (true, "b81e80d97640af384e5021ae3b6b441bb092e8e5ef6b1cc56d4a3a52143a48fa"), looks := false }, kinds := [], alts := [], laidByText := true, laidKinds := [.data, .data], laidTests := true, laidLooks := .later }
def QuatStillCardSaid : Prop := Claim7.holds Tryd.pinned (.plain (OpenSpec.ofChange quatStillSpec)) quatStillCard

/-- THE TIED CARD OF 'ninepinlaw05.QuatBoth'. -/
def quatBothCard : Claim7 := { stood := { row := quatBothRow, standIns := [], harness := (true, "b81e80d97640af384e5021ae3b6b441bb092e8e5ef6b1cc56d4a3a52143a48fa"), looks := false }, kinds := [], alts := [], laidByText := true, laidKinds := [.data, .data], laidTests := true, laidLooks := .later }
def QuatBothCardSaid : Prop := Claim7.holds Tryd.pinned (.plain (OpenSpec.ofChange quatBothSpec)) quatBothCard

/-- THE TIED CARD OF 'ninepinlaw05.QuatUndone'. -/
def quatUndoneCard : Claim7 := { stood := { row := quatUndoneRow, standIns := [], harness := (true, "b81e80d97640af384e5021ae3b6b441bb092e8e5ef6b1cc56d4a3a52143a48fa"), looks := false }, kinds := [], alts := [], laidByText := true, laidKinds := [.data, .data], laidTests := true, laidLooks := .later }
def QuatUndoneCardSaid : Prop := Claim7.holds Tryd.pinned (.plain (OpenSpec.ofChange quatUndoneSpec)) quatUndoneCard

/-- THE SECOND FORM's CARD OF 'ninepinlaw05.QuatMatrix'. -/
def quatMatrixUptoCard : Claim7 := { stood := { row := quatMatrixUptoRow, standIns := [], harness := (true, "b81e80d97640af384e5021ae3b6b441bb092e8e5ef6b1cc56d4a3a52143a48fa"), looks := false }, kinds := [], alts := [], laidByText := true, laidKinds := [.data, .data], laidTests := true, laidLooks := .later }
def QuatMatrixUptoCardSaid : Prop := Claim7.holds Tryd.pinned (.plain (OpenSpec.upto quatMatrixSpec)) quatMatrixUptoCard

/-- THE SECOND FORM's CARD OF 'ninepinlaw05.QuatUnitary'. -/
def quatUnitaryUptoCard : Claim7 := { stood := { row := quatUnitaryUptoRow, standIns := [], harness := (true, "b81e80d97640af384e5021ae3b6b441bb092e8e5ef6b1cc56d4a3a52143a48fa"), looks := false }, kinds := [], alts := [], laidByText := true, laidKinds := [.data, .data], laidTests := true, laidLooks := .later }
def QuatUnitaryUptoCardSaid : Prop := Claim7.holds Tryd.pinned (.plain (OpenSpec.upto quatUnitarySpec)) quatUnitaryUptoCard

/-- THE SECOND FORM's CARD OF 'ninepinlaw05.QuatRows'. -/
def quatRowsUptoCard : Claim7 := { stood := { row := quatRowsUptoRow, standIns := [], harness := (true, "b81e80d97640af384e5021ae3b6b441bb092e8e5ef6b1cc56d4a3a52143a48fa"), looks := false }, kinds := [], alts := [], laidByText := true, laidKinds := [.data, .data], laidTests := true, laidLooks := .later }
def QuatRowsUptoCardSaid : Prop := Claim7.holds Tryd.pinned (.plain (OpenSpec.upto quatRowsSpec)) quatRowsUptoCard

/-- THE SECOND FORM's CARD OF 'ninepinlaw05.QuatBack'. -/
def quatBackUptoCard : Claim7 := { stood := { row := quatBackUptoRow, standIns := [], harness := (true, "b81e80d97640af384e5021ae3b6b441bb092e8e5ef6b1cc56d4a3a52143a48fa"), looks := false }, kinds := [], alts := [], laidByText := true, laidKinds := [.data, .data], laidTests := true, laidLooks := .later }
def QuatBackUptoCardSaid : Prop := Claim7.holds Tryd.pinned (.plain (OpenSpec.upto quatBackSpec)) quatBackUptoCard

/-- THE SECOND FORM's CARD OF 'ninepinlaw05.QuatStill'. -/
def quatStillUptoCard : Claim7 := { stood := { row := quatStillUptoRow, standIns := [], harness := (true, "b81e80d97640af384e5021ae3b6b441bb092e8e5ef6b1cc56d4a3a52143a48fa"), looks := false }, kinds := [], alts := [], laidByText := true, laidKinds := [.data, .data], laidTests := true, laidLooks := .later }
def QuatStillUptoCardSaid : Prop := Claim7.holds Tryd.pinned (.plain (OpenSpec.upto quatStillSpec)) quatStillUptoCard

/-- THE SECOND FORM's CARD OF 'ninepinlaw05.QuatBoth'. -/
def quatBothUptoCard : Claim7 := { stood := { row := quatBothUptoRow, standIns := [], harness := (true, "b81e80d97640af384e5021ae3b6b441bb092e8e5ef6b1cc56d4a3a52143a48fa"), looks := false }, kinds := [], alts := [], laidByText := true, laidKinds := [.data, .data], laidTests := true, laidLooks := .later }
def QuatBothUptoCardSaid : Prop := Claim7.holds Tryd.pinned (.plain (OpenSpec.upto quatBothSpec)) quatBothUptoCard

/-- THE SECOND FORM's CARD OF 'ninepinlaw05.QuatUndone'. -/
def quatUndoneUptoCard : Claim7 := { stood := { row := quatUndoneUptoRow, standIns := [], harness := (true, "b81e80d97640af384e5021ae3b6b441bb092e8e5ef6b1cc56d4a3a52143a48fa"), looks := false }, kinds := [], alts := [], laidByText := true, laidKinds := [.data, .data], laidTests := true, laidLooks := .later }
def QuatUndoneUptoCardSaid : Prop := Claim7.holds Tryd.pinned (.plain (OpenSpec.upto quatUndoneSpec)) quatUndoneUptoCard
end Rows
end Go.Proofs.YtikmjfepflaokaaDoor
