/-
  NARROWER THAN 'FOR EVERY INPUT', by the rows' own cells (each row's printed sentence says how): QuatMatrix: laid · QuatUnitary: laid · QuatRows: laid · QuatBack: laid · QuatStill: laid · QuatBoth: laid · QuatUndone: laid.
  DERIVED. THE GIVEN ROWS OF THIS SEAT. 7 by the template 'for every input the law returns true; each argument reads behind the call as it read before'; 0 by the template 'total and deterministic' (their statements: YtikmjfepflaokaaDoorTotals.lean).
  GIVEN WITH THE SEED: the statements are not yours to turn. If you find one false, say at which input.
  Laid BY PROGRAM, IN A SANDBOX (cutbox-rows.mjs): the forced cells as the released guide's own fill.sh prints them over the translation 4b1859221d045ff1… (all of the seat's roots in one cut). By AI agents, Wed Nov 11 2026. No macro, syntax, notation, axiom, sorry.
-/
import Derived.Test.YtikmjfepflaokaaDoorChecked
import GoSem.Claim
import GoSem.ClaimJoined
import GoSem.ClaimMapViews
import Derived.JoinedTies
import Derived.KernelRfl
namespace Go.Proofs.YtikmjfepflaokaaDoor
/- THE CELL 'sum', in the pinned program and in every row, IS THE sha256 OF THE DUMP (.gsa) THAT YtikmjfepflaokaaDoorProg.lean LOADS. Nothing in Lean hashes anything: it is a label: what it is worth is what the hold of that sum in a sandbox is worth. -/
noncomputable def Tryd.pinned : Pinned := { name := "ytikmjfepflaokaadoor", sum := "4b1859221d045ff15cc481b5e611c12aa2d09b06b6d1af8560a4d65caf499eea", checked := Tryd.checked }
namespace Rows
def none {H : Type} : Left H := { results := [], args := [] }

/- WHAT THE LISTED PACKAGE-LEVEL VARIABLES READ AS WHEN THE CALL BEGINS. Each datum BY PROGRAM (the guide's laid-datum.mjs) off the statement by which the dump's own 'gosem.cut.vars' lays the variable. In a bare row this is a premise. The card (YtikmjfepflaokaaDoorCards.lean) ties it to the program's text. -/
def laid_ninepin_quat_productParts {H : Type} : DataW H := .agg [.agg [.lit (.int .i64 0), .lit (.int .i64 1), .lit (.int .i64 0), .lit (.int .i64 0)], .agg [.lit (.int .i64 0), .lit (.int .i64 (-1)), .lit (.int .i64 1), .lit (.int .i64 1)], .agg [.lit (.int .i64 0), .lit (.int .i64 (-1)), .lit (.int .i64 2), .lit (.int .i64 2)], .agg [.lit (.int .i64 0), .lit (.int .i64 (-1)), .lit (.int .i64 3), .lit (.int .i64 3)], .agg [.lit (.int .i64 1), .lit (.int .i64 1), .lit (.int .i64 0), .lit (.int .i64 1)], .agg [.lit (.int .i64 1), .lit (.int .i64 1), .lit (.int .i64 1), .lit (.int .i64 0)], .agg [.lit (.int .i64 1), .lit (.int .i64 1), .lit (.int .i64 2), .lit (.int .i64 3)], .agg [.lit (.int .i64 1), .lit (.int .i64 (-1)), .lit (.int .i64 3), .lit (.int .i64 2)], .agg [.lit (.int .i64 2), .lit (.int .i64 1), .lit (.int .i64 0), .lit (.int .i64 2)], .agg [.lit (.int .i64 2), .lit (.int .i64 1), .lit (.int .i64 2), .lit (.int .i64 0)], .agg [.lit (.int .i64 2), .lit (.int .i64 1), .lit (.int .i64 3), .lit (.int .i64 1)], .agg [.lit (.int .i64 2), .lit (.int .i64 (-1)), .lit (.int .i64 1), .lit (.int .i64 3)], .agg [.lit (.int .i64 3), .lit (.int .i64 1), .lit (.int .i64 0), .lit (.int .i64 3)], .agg [.lit (.int .i64 3), .lit (.int .i64 1), .lit (.int .i64 3), .lit (.int .i64 0)], .agg [.lit (.int .i64 3), .lit (.int .i64 1), .lit (.int .i64 1), .lit (.int .i64 2)], .agg [.lit (.int .i64 3), .lit (.int .i64 (-1)), .lit (.int .i64 2), .lit (.int .i64 1)]]
def laid_ninepin_quat_turnParts {H : Type} : DataW H := .agg [.agg [.lit (.int .i64 0), .lit (.int .i64 1), .lit (.int .i64 0), .lit (.int .i64 0)], .agg [.lit (.int .i64 0), .lit (.int .i64 1), .lit (.int .i64 1), .lit (.int .i64 1)], .agg [.lit (.int .i64 0), .lit (.int .i64 (-1)), .lit (.int .i64 2), .lit (.int .i64 2)], .agg [.lit (.int .i64 0), .lit (.int .i64 (-1)), .lit (.int .i64 3), .lit (.int .i64 3)], .agg [.lit (.int .i64 1), .lit (.int .i64 2), .lit (.int .i64 1), .lit (.int .i64 2)], .agg [.lit (.int .i64 1), .lit (.int .i64 (-2)), .lit (.int .i64 0), .lit (.int .i64 3)], .agg [.lit (.int .i64 2), .lit (.int .i64 2), .lit (.int .i64 1), .lit (.int .i64 3)], .agg [.lit (.int .i64 2), .lit (.int .i64 2), .lit (.int .i64 0), .lit (.int .i64 2)], .agg [.lit (.int .i64 3), .lit (.int .i64 2), .lit (.int .i64 1), .lit (.int .i64 2)], .agg [.lit (.int .i64 3), .lit (.int .i64 2), .lit (.int .i64 0), .lit (.int .i64 3)], .agg [.lit (.int .i64 4), .lit (.int .i64 1), .lit (.int .i64 0), .lit (.int .i64 0)], .agg [.lit (.int .i64 4), .lit (.int .i64 (-1)), .lit (.int .i64 1), .lit (.int .i64 1)], .agg [.lit (.int .i64 4), .lit (.int .i64 1), .lit (.int .i64 2), .lit (.int .i64 2)], .agg [.lit (.int .i64 4), .lit (.int .i64 (-1)), .lit (.int .i64 3), .lit (.int .i64 3)], .agg [.lit (.int .i64 5), .lit (.int .i64 2), .lit (.int .i64 2), .lit (.int .i64 3)], .agg [.lit (.int .i64 5), .lit (.int .i64 (-2)), .lit (.int .i64 0), .lit (.int .i64 1)], .agg [.lit (.int .i64 6), .lit (.int .i64 2), .lit (.int .i64 1), .lit (.int .i64 3)], .agg [.lit (.int .i64 6), .lit (.int .i64 (-2)), .lit (.int .i64 0), .lit (.int .i64 2)], .agg [.lit (.int .i64 7), .lit (.int .i64 2), .lit (.int .i64 2), .lit (.int .i64 3)], .agg [.lit (.int .i64 7), .lit (.int .i64 2), .lit (.int .i64 0), .lit (.int .i64 1)], .agg [.lit (.int .i64 8), .lit (.int .i64 1), .lit (.int .i64 0), .lit (.int .i64 0)], .agg [.lit (.int .i64 8), .lit (.int .i64 (-1)), .lit (.int .i64 1), .lit (.int .i64 1)], .agg [.lit (.int .i64 8), .lit (.int .i64 (-1)), .lit (.int .i64 2), .lit (.int .i64 2)], .agg [.lit (.int .i64 8), .lit (.int .i64 1), .lit (.int .i64 3), .lit (.int .i64 3)]]

/-- 'ninepinlaw05.QuatMatrix': WHATEVER THE INPUT: true; the input reads as it did. -/
def quatMatrixSpec : ChangeSpec := { name := "quatMatrix", fn := fun _ => fun
  | [d] => { results := [.lit (.bool true)], args := [d] }
  | _ => none }
def quatMatrixRow : OpenClaim := { program := "ytikmjfepflaokaadoor", sum := "4b1859221d045ff15cc481b5e611c12aa2d09b06b6d1af8560a4d65caf499eea", func := "ninepin/ninepinlaw05.QuatMatrix", spec := "quatMatrix", inPlace := ["math/bits.Add64"], unfollowed := true, recurses := true, named := ["ninepin/quat.turnParts", "math/bits.divideError", "math/bits.overflowError", "ninepin/quat.productParts"], apart := false, laid := [("ninepin/quat.productParts", laid_ninepin_quat_productParts), ("ninepin/quat.turnParts", laid_ninepin_quat_turnParts)] }
def QuatMatrixSaid : Prop := quatMatrixRow.holds Tryd.pinned (OpenSpec.ofChange quatMatrixSpec)

/-- ITS FALSE NEIGHBOUR: 'it returns false'. Refute it at one input. -/
def quatMatrixWrong : ChangeSpec := { name := "quatMatrix", fn := fun _ => fun
  | [d] => { results := [.lit (.bool false)], args := [d] }
  | _ => none }
def QuatMatrixWrongFalsely : Prop := quatMatrixRow.holds Tryd.pinned (OpenSpec.ofChange quatMatrixWrong)

/-- 'ninepinlaw05.QuatUnitary': WHATEVER THE INPUT: true; the input reads as it did. -/
def quatUnitarySpec : ChangeSpec := { name := "quatUnitary", fn := fun _ => fun
  | [d] => { results := [.lit (.bool true)], args := [d] }
  | _ => none }
def quatUnitaryRow : OpenClaim := { program := "ytikmjfepflaokaadoor", sum := "4b1859221d045ff15cc481b5e611c12aa2d09b06b6d1af8560a4d65caf499eea", func := "ninepin/ninepinlaw05.QuatUnitary", spec := "quatUnitary", inPlace := ["math/bits.Add64"], unfollowed := true, recurses := true, named := ["ninepin/quat.productParts", "math/bits.divideError", "math/bits.overflowError", "ninepin/quat.turnParts"], apart := false, laid := [("ninepin/quat.productParts", laid_ninepin_quat_productParts), ("ninepin/quat.turnParts", laid_ninepin_quat_turnParts)] }
def QuatUnitarySaid : Prop := quatUnitaryRow.holds Tryd.pinned (OpenSpec.ofChange quatUnitarySpec)

/-- ITS FALSE NEIGHBOUR: 'it returns false'. Refute it at one input. -/
def quatUnitaryWrong : ChangeSpec := { name := "quatUnitary", fn := fun _ => fun
  | [d] => { results := [.lit (.bool false)], args := [d] }
  | _ => none }
def QuatUnitaryWrongFalsely : Prop := quatUnitaryRow.holds Tryd.pinned (OpenSpec.ofChange quatUnitaryWrong)

/-- 'ninepinlaw05.QuatRows': WHATEVER THE INPUT: true; the input reads as it did. -/
def quatRowsSpec : ChangeSpec := { name := "quatRows", fn := fun _ => fun
  | [d] => { results := [.lit (.bool true)], args := [d] }
  | _ => none }
def quatRowsRow : OpenClaim := { program := "ytikmjfepflaokaadoor", sum := "4b1859221d045ff15cc481b5e611c12aa2d09b06b6d1af8560a4d65caf499eea", func := "ninepin/ninepinlaw05.QuatRows", spec := "quatRows", inPlace := ["math/bits.Add64"], unfollowed := true, recurses := true, named := ["ninepin/quat.turnParts", "math/bits.divideError", "math/bits.overflowError", "ninepin/quat.productParts"], apart := false, laid := [("ninepin/quat.productParts", laid_ninepin_quat_productParts), ("ninepin/quat.turnParts", laid_ninepin_quat_turnParts)] }
def QuatRowsSaid : Prop := quatRowsRow.holds Tryd.pinned (OpenSpec.ofChange quatRowsSpec)

/-- ITS FALSE NEIGHBOUR: 'it returns false'. Refute it at one input. -/
def quatRowsWrong : ChangeSpec := { name := "quatRows", fn := fun _ => fun
  | [d] => { results := [.lit (.bool false)], args := [d] }
  | _ => none }
def QuatRowsWrongFalsely : Prop := quatRowsRow.holds Tryd.pinned (OpenSpec.ofChange quatRowsWrong)

/-- 'ninepinlaw05.QuatBack': WHATEVER THE INPUT: true; the input reads as it did. -/
def quatBackSpec : ChangeSpec := { name := "quatBack", fn := fun _ => fun
  | [d] => { results := [.lit (.bool true)], args := [d] }
  | _ => none }
def quatBackRow : OpenClaim := { program := "ytikmjfepflaokaadoor", sum := "4b1859221d045ff15cc481b5e611c12aa2d09b06b6d1af8560a4d65caf499eea", func := "ninepin/ninepinlaw05.QuatBack", spec := "quatBack", inPlace := ["math/bits.Add64"], unfollowed := true, recurses := true, named := ["ninepin/quat.turnParts", "math/bits.divideError", "math/bits.overflowError", "ninepin/quat.productParts"], apart := false, laid := [("ninepin/quat.productParts", laid_ninepin_quat_productParts), ("ninepin/quat.turnParts", laid_ninepin_quat_turnParts)] }
def QuatBackSaid : Prop := quatBackRow.holds Tryd.pinned (OpenSpec.ofChange quatBackSpec)

/-- ITS FALSE NEIGHBOUR: 'it returns false'. Refute it at one input. -/
def quatBackWrong : ChangeSpec := { name := "quatBack", fn := fun _ => fun
  | [d] => { results := [.lit (.bool false)], args := [d] }
  | _ => none }
def QuatBackWrongFalsely : Prop := quatBackRow.holds Tryd.pinned (OpenSpec.ofChange quatBackWrong)

/-- 'ninepinlaw05.QuatStill': WHATEVER THE INPUT: true; the input reads as it did. -/
def quatStillSpec : ChangeSpec := { name := "quatStill", fn := fun _ => fun
  | [d1, d2, d3] => { results := [.lit (.bool true)], args := [d1, d2, d3] }
  | _ => none }
def quatStillRow : OpenClaim := { program := "ytikmjfepflaokaadoor", sum := "4b1859221d045ff15cc481b5e611c12aa2d09b06b6d1af8560a4d65caf499eea", func := "ninepin/ninepinlaw05.QuatStill", spec := "quatStill", inPlace := ["math/bits.Add64"], unfollowed := true, recurses := true, named := ["ninepin/quat.productParts", "ninepin/quat.turnParts", "math/bits.divideError", "math/bits.overflowError"], apart := false, laid := [("ninepin/quat.productParts", laid_ninepin_quat_productParts), ("ninepin/quat.turnParts", laid_ninepin_quat_turnParts)] }
def QuatStillSaid : Prop := quatStillRow.holds Tryd.pinned (OpenSpec.ofChange quatStillSpec)

/-- ITS FALSE NEIGHBOUR: 'it returns false'. Refute it at one input. -/
def quatStillWrong : ChangeSpec := { name := "quatStill", fn := fun _ => fun
  | [d1, d2, d3] => { results := [.lit (.bool false)], args := [d1, d2, d3] }
  | _ => none }
def QuatStillWrongFalsely : Prop := quatStillRow.holds Tryd.pinned (OpenSpec.ofChange quatStillWrong)

/-- 'ninepinlaw05.QuatBoth': WHATEVER THE INPUT: true; the input reads as it did. -/
def quatBothSpec : ChangeSpec := { name := "quatBoth", fn := fun _ => fun
  | [d1, d2] => { results := [.lit (.bool true)], args := [d1, d2] }
  | _ => none }
def quatBothRow : OpenClaim := { program := "ytikmjfepflaokaadoor", sum := "4b1859221d045ff15cc481b5e611c12aa2d09b06b6d1af8560a4d65caf499eea", func := "ninepin/ninepinlaw05.QuatBoth", spec := "quatBoth", inPlace := ["math/bits.Add64"], unfollowed := true, recurses := true, named := ["math/bits.divideError", "math/bits.overflowError", "ninepin/quat.turnParts", "ninepin/quat.productParts"], apart := false, laid := [("ninepin/quat.productParts", laid_ninepin_quat_productParts), ("ninepin/quat.turnParts", laid_ninepin_quat_turnParts)] }
def QuatBothSaid : Prop := quatBothRow.holds Tryd.pinned (OpenSpec.ofChange quatBothSpec)

/-- ITS FALSE NEIGHBOUR: 'it returns false'. Refute it at one input. -/
def quatBothWrong : ChangeSpec := { name := "quatBoth", fn := fun _ => fun
  | [d1, d2] => { results := [.lit (.bool false)], args := [d1, d2] }
  | _ => none }
def QuatBothWrongFalsely : Prop := quatBothRow.holds Tryd.pinned (OpenSpec.ofChange quatBothWrong)

/-- 'ninepinlaw05.QuatUndone': WHATEVER THE INPUT: true; the input reads as it did. -/
def quatUndoneSpec : ChangeSpec := { name := "quatUndone", fn := fun _ => fun
  | [d] => { results := [.lit (.bool true)], args := [d] }
  | _ => none }
def quatUndoneRow : OpenClaim := { program := "ytikmjfepflaokaadoor", sum := "4b1859221d045ff15cc481b5e611c12aa2d09b06b6d1af8560a4d65caf499eea", func := "ninepin/ninepinlaw05.QuatUndone", spec := "quatUndone", inPlace := ["math/bits.Add64"], unfollowed := true, recurses := true, named := ["math/bits.divideError", "math/bits.overflowError", "ninepin/quat.turnParts", "ninepin/quat.productParts"], apart := false, laid := [("ninepin/quat.productParts", laid_ninepin_quat_productParts), ("ninepin/quat.turnParts", laid_ninepin_quat_turnParts)] }
def QuatUndoneSaid : Prop := quatUndoneRow.holds Tryd.pinned (OpenSpec.ofChange quatUndoneSpec)

/-- ITS FALSE NEIGHBOUR: 'it returns false'. Refute it at one input. -/
def quatUndoneWrong : ChangeSpec := { name := "quatUndone", fn := fun _ => fun
  | [d] => { results := [.lit (.bool false)], args := [d] }
  | _ => none }
def QuatUndoneWrongFalsely : Prop := quatUndoneRow.holds Tryd.pinned (OpenSpec.ofChange quatUndoneWrong)

/- THE SECOND FORM. 'bulk': how many values and letters a reading holds, each counted each time it is reached (what is shared counts as often as it is met; a slice's spare places count too). A statement '..UptoSaid' is the law's where the arguments, and the package variables that the reading takes, are together of bulk at most 1048576: NARROWER than '..Said'. Prove '..Said' where nothing that the law and all that it calls make is longer than what came in: it says more and counts as full. Else prove '..UptoSaid'. A law counts once. -/
mutual
def uptoBulk {H : Type} : DataW H → Nat
  | .lit (.string bytes) => bytes.length + 1
  | .lit _ => 1
  | .nil => 1
  | .ptr d => uptoBulk d + 1
  | .slice elems spare => uptoBulkAll elems + uptoBulkAll spare + 1
  | .agg parts => uptoBulkAll parts + 1
  | .iface _ d => uptoBulk d + 1
  | .map entries => uptoBulkEntries entries + 1
  | .held _ => 1
def uptoBulkAll {H : Type} : List (DataW H) → Nat
  | [] => 0
  | d :: r => uptoBulk d + uptoBulkAll r
def uptoBulkEntries {H : Type} : List (Lit × DataW H) → Nat
  | [] => 0
  | x :: r => uptoBulkEntry x + uptoBulkEntries r
def uptoBulkEntry {H : Type} : Lit × DataW H → Nat
  | (.string bytes, d) => bytes.length + uptoBulk d + 1
  | (_, d) => uptoBulk d + 1
 end
def uptoSmall : (H : Type) → List (DataW H) → Bool := fun _ ds => decide (uptoBulkAll ds ≤ 1048576)
def OpenSpec.upto (s : _root_.Go.ChangeSpec) : _root_.Go.OpenSpec := { _root_.Go.OpenSpec.ofChange s with cond := some uptoSmall }

/-- 'ninepinlaw05.QuatMatrix', WHERE WHAT IT READS IS OF BULK AT MOST 1048576: true; the input reads as it did. -/
def quatMatrixUptoRow : OpenClaim := { program := "ytikmjfepflaokaadoor", sum := "4b1859221d045ff15cc481b5e611c12aa2d09b06b6d1af8560a4d65caf499eea", func := "ninepin/ninepinlaw05.QuatMatrix", spec := "quatMatrix", inPlace := ["math/bits.Add64"], unfollowed := true, recurses := true, named := ["ninepin/quat.turnParts", "math/bits.divideError", "math/bits.overflowError", "ninepin/quat.productParts"], apart := false, laid := [("ninepin/quat.productParts", laid_ninepin_quat_productParts), ("ninepin/quat.turnParts", laid_ninepin_quat_turnParts)], narrowed := true }
def QuatMatrixUptoSaid : Prop := quatMatrixUptoRow.holds Tryd.pinned (OpenSpec.upto quatMatrixSpec)

/-- 'ninepinlaw05.QuatUnitary', WHERE WHAT IT READS IS OF BULK AT MOST 1048576: true; the input reads as it did. -/
def quatUnitaryUptoRow : OpenClaim := { program := "ytikmjfepflaokaadoor", sum := "4b1859221d045ff15cc481b5e611c12aa2d09b06b6d1af8560a4d65caf499eea", func := "ninepin/ninepinlaw05.QuatUnitary", spec := "quatUnitary", inPlace := ["math/bits.Add64"], unfollowed := true, recurses := true, named := ["ninepin/quat.productParts", "math/bits.divideError", "math/bits.overflowError", "ninepin/quat.turnParts"], apart := false, laid := [("ninepin/quat.productParts", laid_ninepin_quat_productParts), ("ninepin/quat.turnParts", laid_ninepin_quat_turnParts)], narrowed := true }
def QuatUnitaryUptoSaid : Prop := quatUnitaryUptoRow.holds Tryd.pinned (OpenSpec.upto quatUnitarySpec)

/-- 'ninepinlaw05.QuatRows', WHERE WHAT IT READS IS OF BULK AT MOST 1048576: true; the input reads as it did. -/
def quatRowsUptoRow : OpenClaim := { program := "ytikmjfepflaokaadoor", sum := "4b1859221d045ff15cc481b5e611c12aa2d09b06b6d1af8560a4d65caf499eea", func := "ninepin/ninepinlaw05.QuatRows", spec := "quatRows", inPlace := ["math/bits.Add64"], unfollowed := true, recurses := true, named := ["ninepin/quat.turnParts", "math/bits.divideError", "math/bits.overflowError", "ninepin/quat.productParts"], apart := false, laid := [("ninepin/quat.productParts", laid_ninepin_quat_productParts), ("ninepin/quat.turnParts", laid_ninepin_quat_turnParts)], narrowed := true }
def QuatRowsUptoSaid : Prop := quatRowsUptoRow.holds Tryd.pinned (OpenSpec.upto quatRowsSpec)

/-- 'ninepinlaw05.QuatBack', WHERE WHAT IT READS IS OF BULK AT MOST 1048576: true; the input reads as it did. -/
def quatBackUptoRow : OpenClaim := { program := "ytikmjfepflaokaadoor", sum := "4b1859221d045ff15cc481b5e611c12aa2d09b06b6d1af8560a4d65caf499eea", func := "ninepin/ninepinlaw05.QuatBack", spec := "quatBack", inPlace := ["math/bits.Add64"], unfollowed := true, recurses := true, named := ["ninepin/quat.turnParts", "math/bits.divideError", "math/bits.overflowError", "ninepin/quat.productParts"], apart := false, laid := [("ninepin/quat.productParts", laid_ninepin_quat_productParts), ("ninepin/quat.turnParts", laid_ninepin_quat_turnParts)], narrowed := true }
def QuatBackUptoSaid : Prop := quatBackUptoRow.holds Tryd.pinned (OpenSpec.upto quatBackSpec)

/-- 'ninepinlaw05.QuatStill', WHERE WHAT IT READS IS OF BULK AT MOST 1048576: true; the input reads as it did. -/
def quatStillUptoRow : OpenClaim := { program := "ytikmjfepflaokaadoor", sum := "4b1859221d045ff15cc481b5e611c12aa2d09b06b6d1af8560a4d65caf499eea", func := "ninepin/ninepinlaw05.QuatStill", spec := "quatStill", inPlace := ["math/bits.Add64"], unfollowed := true, recurses := true, named := ["ninepin/quat.productParts", "ninepin/quat.turnParts", "math/bits.divideError", "math/bits.overflowError"], apart := false, laid := [("ninepin/quat.productParts", laid_ninepin_quat_productParts), ("ninepin/quat.turnParts", laid_ninepin_quat_turnParts)], narrowed := true }
def QuatStillUptoSaid : Prop := quatStillUptoRow.holds Tryd.pinned (OpenSpec.upto quatStillSpec)

/-- 'ninepinlaw05.QuatBoth', WHERE WHAT IT READS IS OF BULK AT MOST 1048576: true; the input reads as it did. -/
def quatBothUptoRow : OpenClaim := { program := "ytikmjfepflaokaadoor", sum := "4b1859221d045ff15cc481b5e611c12aa2d09b06b6d1af8560a4d65caf499eea", func := "ninepin/ninepinlaw05.QuatBoth", spec := "quatBoth", inPlace := ["math/bits.Add64"], unfollowed := true, recurses := true, named := ["math/bits.divideError", "math/bits.overflowError", "ninepin/quat.turnParts", "ninepin/quat.productParts"], apart := false, laid := [("ninepin/quat.productParts", laid_ninepin_quat_productParts), ("ninepin/quat.turnParts", laid_ninepin_quat_turnParts)], narrowed := true }
def QuatBothUptoSaid : Prop := quatBothUptoRow.holds Tryd.pinned (OpenSpec.upto quatBothSpec)

/-- 'ninepinlaw05.QuatUndone', WHERE WHAT IT READS IS OF BULK AT MOST 1048576: true; the input reads as it did. -/
def quatUndoneUptoRow : OpenClaim := { program := "ytikmjfepflaokaadoor", sum := "4b1859221d045ff15cc481b5e611c12aa2d09b06b6d1af8560a4d65caf499eea", func := "ninepin/ninepinlaw05.QuatUndone", spec := "quatUndone", inPlace := ["math/bits.Add64"], unfollowed := true, recurses := true, named := ["math/bits.divideError", "math/bits.overflowError", "ninepin/quat.turnParts", "ninepin/quat.productParts"], apart := false, laid := [("ninepin/quat.productParts", laid_ninepin_quat_productParts), ("ninepin/quat.turnParts", laid_ninepin_quat_turnParts)], narrowed := true }
def QuatUndoneUptoSaid : Prop := quatUndoneUptoRow.holds Tryd.pinned (OpenSpec.upto quatUndoneSpec)

end Rows
end Go.Proofs.YtikmjfepflaokaaDoor
