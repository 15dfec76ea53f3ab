/-
  No cell of these rows narrows 'for every input' (looked for: loops, veiled, ifaces, maps, wideKeys, modest, calm, conditions, laid).
  DERIVED. THE GIVEN ROWS OF THIS SEAT. 8 by the template 'for every input the law returns true; each argument reads behind the call as it read before'; 0 by the template 'total and deterministic' (their statements: YtljggjnaolbapaaGreatTotals.lean).
  GIVEN WITH THE SEED: the statements are not yours to turn. If you find one false, say at which input.
  Laid BY PROGRAM, IN A SANDBOX (cutbox-rows.mjs): the forced cells as the released guide's own fill.sh prints them over the translation 170d95325efbb3cf… (all of the seat's roots in one cut). By AI agents, Wed Nov 11 2026. No macro, syntax, notation, axiom, sorry.
-/
import Derived.Test.YtljggjnaolbapaaGreatChecked
import GoSem.Claim
import GoSem.ClaimJoined
import GoSem.ClaimMapViews
import Derived.JoinedTies
import Derived.KernelRfl
namespace Go.Proofs.YtljggjnaolbapaaGreat
/- THE CELL 'sum', in the pinned program and in every row, IS THE sha256 OF THE DUMP (.gsa) THAT YtljggjnaolbapaaGreatProg.lean LOADS. Nothing in Lean hashes anything: it is a label: what it is worth is what the hold of that sum in a sandbox is worth. -/
noncomputable def Tryz.pinned : Pinned := { name := "ytljggjnaolbapaagreat", sum := "170d95325efbb3cf9c0af4e94827bae00c18dc0b7140f4ab37356f058fb92c4f", checked := Tryz.checked }
namespace Rows
def none {H : Type} : Left H := { results := [], args := [] }

/-- 'ninepinlaw03.VecSums': WHATEVER THE INPUT: true; the input reads as it did. -/
def vecSumsSpec : ChangeSpec := { name := "vecSums", fn := fun _ => fun
  | [d1, d2, d3] => { results := [.lit (.bool true)], args := [d1, d2, d3] }
  | _ => none }
def vecSumsRow : OpenClaim := { program := "ytljggjnaolbapaagreat", sum := "170d95325efbb3cf9c0af4e94827bae00c18dc0b7140f4ab37356f058fb92c4f", func := "ninepin/ninepinlaw03.VecSums", spec := "vecSums", inPlace := ["math/bits.Add64"], unfollowed := true, recurses := true, named := ["math/bits.divideError", "math/bits.overflowError"], apart := false }
def VecSumsSaid : Prop := vecSumsRow.holds Tryz.pinned (OpenSpec.ofChange vecSumsSpec)

/-- ITS FALSE NEIGHBOUR: 'it returns false'. Refute it at one input. -/
def vecSumsWrong : ChangeSpec := { name := "vecSums", fn := fun _ => fun
  | [d1, d2, d3] => { results := [.lit (.bool false)], args := [d1, d2, d3] }
  | _ => none }
def VecSumsWrongFalsely : Prop := vecSumsRow.holds Tryz.pinned (OpenSpec.ofChange vecSumsWrong)

/-- 'ninepinlaw03.VecDot': WHATEVER THE INPUT: true; the input reads as it did. -/
def vecDotSpec : ChangeSpec := { name := "vecDot", fn := fun _ => fun
  | [d1, d2] => { results := [.lit (.bool true)], args := [d1, d2] }
  | _ => none }
def vecDotRow : OpenClaim := { program := "ytljggjnaolbapaagreat", sum := "170d95325efbb3cf9c0af4e94827bae00c18dc0b7140f4ab37356f058fb92c4f", func := "ninepin/ninepinlaw03.VecDot", spec := "vecDot", inPlace := ["math/bits.Add64"], unfollowed := true, recurses := true, named := ["math/bits.divideError", "math/bits.overflowError"], apart := false }
def VecDotSaid : Prop := vecDotRow.holds Tryz.pinned (OpenSpec.ofChange vecDotSpec)

/-- ITS FALSE NEIGHBOUR: 'it returns false'. Refute it at one input. -/
def vecDotWrong : ChangeSpec := { name := "vecDot", fn := fun _ => fun
  | [d1, d2] => { results := [.lit (.bool false)], args := [d1, d2] }
  | _ => none }
def VecDotWrongFalsely : Prop := vecDotRow.holds Tryz.pinned (OpenSpec.ofChange vecDotWrong)

/-- 'ninepinlaw03.VecCross': WHATEVER THE INPUT: true; the input reads as it did. -/
def vecCrossSpec : ChangeSpec := { name := "vecCross", fn := fun _ => fun
  | [d1, d2] => { results := [.lit (.bool true)], args := [d1, d2] }
  | _ => none }
def vecCrossRow : OpenClaim := { program := "ytljggjnaolbapaagreat", sum := "170d95325efbb3cf9c0af4e94827bae00c18dc0b7140f4ab37356f058fb92c4f", func := "ninepin/ninepinlaw03.VecCross", spec := "vecCross", inPlace := ["math/bits.Add64"], unfollowed := true, recurses := true, named := ["math/bits.divideError", "math/bits.overflowError"], apart := false }
def VecCrossSaid : Prop := vecCrossRow.holds Tryz.pinned (OpenSpec.ofChange vecCrossSpec)

/-- ITS FALSE NEIGHBOUR: 'it returns false'. Refute it at one input. -/
def vecCrossWrong : ChangeSpec := { name := "vecCross", fn := fun _ => fun
  | [d1, d2] => { results := [.lit (.bool false)], args := [d1, d2] }
  | _ => none }
def VecCrossWrongFalsely : Prop := vecCrossRow.holds Tryz.pinned (OpenSpec.ofChange vecCrossWrong)

/-- 'ninepinlaw03.VecLen': WHATEVER THE INPUT: true; the input reads as it did. -/
def vecLenSpec : ChangeSpec := { name := "vecLen", fn := fun _ => fun
  | [d] => { results := [.lit (.bool true)], args := [d] }
  | _ => none }
def vecLenRow : OpenClaim := { program := "ytljggjnaolbapaagreat", sum := "170d95325efbb3cf9c0af4e94827bae00c18dc0b7140f4ab37356f058fb92c4f", func := "ninepin/ninepinlaw03.VecLen", spec := "vecLen", inPlace := ["math/bits.Add64"], unfollowed := true, recurses := true, named := ["math/bits.divideError", "math/bits.overflowError"], apart := false }
def VecLenSaid : Prop := vecLenRow.holds Tryz.pinned (OpenSpec.ofChange vecLenSpec)

/-- ITS FALSE NEIGHBOUR: 'it returns false'. Refute it at one input. -/
def vecLenWrong : ChangeSpec := { name := "vecLen", fn := fun _ => fun
  | [d] => { results := [.lit (.bool false)], args := [d] }
  | _ => none }
def VecLenWrongFalsely : Prop := vecLenRow.holds Tryz.pinned (OpenSpec.ofChange vecLenWrong)

/-- 'ninepinlaw03.VecUnit': WHATEVER THE INPUT: true; the input reads as it did. -/
def vecUnitSpec : ChangeSpec := { name := "vecUnit", fn := fun _ => fun
  | [d] => { results := [.lit (.bool true)], args := [d] }
  | _ => none }
def vecUnitRow : OpenClaim := { program := "ytljggjnaolbapaagreat", sum := "170d95325efbb3cf9c0af4e94827bae00c18dc0b7140f4ab37356f058fb92c4f", func := "ninepin/ninepinlaw03.VecUnit", spec := "vecUnit", inPlace := ["math/bits.Add64"], unfollowed := true, recurses := true, named := ["math/bits.divideError", "math/bits.overflowError"], apart := false }
def VecUnitSaid : Prop := vecUnitRow.holds Tryz.pinned (OpenSpec.ofChange vecUnitSpec)

/-- ITS FALSE NEIGHBOUR: 'it returns false'. Refute it at one input. -/
def vecUnitWrong : ChangeSpec := { name := "vecUnit", fn := fun _ => fun
  | [d] => { results := [.lit (.bool false)], args := [d] }
  | _ => none }
def VecUnitWrongFalsely : Prop := vecUnitRow.holds Tryz.pinned (OpenSpec.ofChange vecUnitWrong)

/-- 'ninepinlaw03.VecNear': WHATEVER THE INPUT: true; the input reads as it did. -/
def vecNearSpec : ChangeSpec := { name := "vecNear", fn := fun _ => fun
  | [d1, d2, d3] => { results := [.lit (.bool true)], args := [d1, d2, d3] }
  | _ => none }
def vecNearRow : OpenClaim := { program := "ytljggjnaolbapaagreat", sum := "170d95325efbb3cf9c0af4e94827bae00c18dc0b7140f4ab37356f058fb92c4f", func := "ninepin/ninepinlaw03.VecNear", spec := "vecNear", inPlace := ["math/bits.Add64"], unfollowed := true, recurses := true, named := ["math/bits.divideError", "math/bits.overflowError"], apart := false }
def VecNearSaid : Prop := vecNearRow.holds Tryz.pinned (OpenSpec.ofChange vecNearSpec)

/-- ITS FALSE NEIGHBOUR: 'it returns false'. Refute it at one input. -/
def vecNearWrong : ChangeSpec := { name := "vecNear", fn := fun _ => fun
  | [d1, d2, d3] => { results := [.lit (.bool false)], args := [d1, d2, d3] }
  | _ => none }
def VecNearWrongFalsely : Prop := vecNearRow.holds Tryz.pinned (OpenSpec.ofChange vecNearWrong)

/-- 'ninepinlaw04.MatMul': WHATEVER THE INPUT: true; the input reads as it did. -/
def matMulSpec : ChangeSpec := { name := "matMul", fn := fun _ => fun
  | [d1, d2, d3] => { results := [.lit (.bool true)], args := [d1, d2, d3] }
  | _ => none }
def matMulRow : OpenClaim := { program := "ytljggjnaolbapaagreat", sum := "170d95325efbb3cf9c0af4e94827bae00c18dc0b7140f4ab37356f058fb92c4f", func := "ninepin/ninepinlaw04.MatMul", spec := "matMul", inPlace := ["math/bits.Add64"], unfollowed := true, recurses := true, named := ["math/bits.divideError", "math/bits.overflowError"], apart := false }
def MatMulSaid : Prop := matMulRow.holds Tryz.pinned (OpenSpec.ofChange matMulSpec)

/-- ITS FALSE NEIGHBOUR: 'it returns false'. Refute it at one input. -/
def matMulWrong : ChangeSpec := { name := "matMul", fn := fun _ => fun
  | [d1, d2, d3] => { results := [.lit (.bool false)], args := [d1, d2, d3] }
  | _ => none }
def MatMulWrongFalsely : Prop := matMulRow.holds Tryz.pinned (OpenSpec.ofChange matMulWrong)

/-- 'ninepinlaw04.MatInverse': WHATEVER THE INPUT: true; the input reads as it did. -/
def matInverseSpec : ChangeSpec := { name := "matInverse", fn := fun _ => fun
  | [d1, d2] => { results := [.lit (.bool true)], args := [d1, d2] }
  | _ => none }
def matInverseRow : OpenClaim := { program := "ytljggjnaolbapaagreat", sum := "170d95325efbb3cf9c0af4e94827bae00c18dc0b7140f4ab37356f058fb92c4f", func := "ninepin/ninepinlaw04.MatInverse", spec := "matInverse", inPlace := ["math/bits.Add64"], unfollowed := true, recurses := true, named := ["math/bits.divideError", "math/bits.overflowError"], apart := false }
def MatInverseSaid : Prop := matInverseRow.holds Tryz.pinned (OpenSpec.ofChange matInverseSpec)

/-- ITS FALSE NEIGHBOUR: 'it returns false'. Refute it at one input. -/
def matInverseWrong : ChangeSpec := { name := "matInverse", fn := fun _ => fun
  | [d1, d2] => { results := [.lit (.bool false)], args := [d1, d2] }
  | _ => none }
def MatInverseWrongFalsely : Prop := matInverseRow.holds Tryz.pinned (OpenSpec.ofChange matInverseWrong)

/- THE SECOND FORM. 'bulk': how many values and letters a reading holds, each counted each time it is reached (what is shared counts as often as it is met; a slice's spare places count too). A statement '..UptoSaid' is the law's where the arguments, and the package variables that the reading takes, are together of bulk at most 1048576: NARROWER than '..Said'. Prove '..Said' where nothing that the law and all that it calls make is longer than what came in: it says more and counts as full. Else prove '..UptoSaid'. A law counts once. -/
mutual
def uptoBulk {H : Type} : DataW H → Nat
  | .lit (.string bytes) => bytes.length + 1
  | .lit _ => 1
  | .nil => 1
  | .ptr d => uptoBulk d + 1
  | .slice elems spare => uptoBulkAll elems + uptoBulkAll spare + 1
  | .agg parts => uptoBulkAll parts + 1
  | .iface _ d => uptoBulk d + 1
  | .map entries => uptoBulkEntries entries + 1
  | .held _ => 1
def uptoBulkAll {H : Type} : List (DataW H) → Nat
  | [] => 0
  | d :: r => uptoBulk d + uptoBulkAll r
def uptoBulkEntries {H : Type} : List (Lit × DataW H) → Nat
  | [] => 0
  | x :: r => uptoBulkEntry x + uptoBulkEntries r
def uptoBulkEntry {H : Type} : Lit × DataW H → Nat
  | (.string bytes, d) => bytes.length + uptoBulk d + 1
  | (_, d) => uptoBulk d + 1
 end
def uptoSmall : (H : Type) → List (DataW H) → Bool := fun _ ds => decide (uptoBulkAll ds ≤ 1048576)
def OpenSpec.upto (s : _root_.Go.ChangeSpec) : _root_.Go.OpenSpec := { _root_.Go.OpenSpec.ofChange s with cond := some uptoSmall }

/-- 'ninepinlaw03.VecSums', WHERE WHAT IT READS IS OF BULK AT MOST 1048576: true; the input reads as it did. -/
def vecSumsUptoRow : OpenClaim := { program := "ytljggjnaolbapaagreat", sum := "170d95325efbb3cf9c0af4e94827bae00c18dc0b7140f4ab37356f058fb92c4f", func := "ninepin/ninepinlaw03.VecSums", spec := "vecSums", inPlace := ["math/bits.Add64"], unfollowed := true, recurses := true, named := ["math/bits.divideError", "math/bits.overflowError"], apart := false, narrowed := true }
def VecSumsUptoSaid : Prop := vecSumsUptoRow.holds Tryz.pinned (OpenSpec.upto vecSumsSpec)

/-- 'ninepinlaw03.VecDot', WHERE WHAT IT READS IS OF BULK AT MOST 1048576: true; the input reads as it did. -/
def vecDotUptoRow : OpenClaim := { program := "ytljggjnaolbapaagreat", sum := "170d95325efbb3cf9c0af4e94827bae00c18dc0b7140f4ab37356f058fb92c4f", func := "ninepin/ninepinlaw03.VecDot", spec := "vecDot", inPlace := ["math/bits.Add64"], unfollowed := true, recurses := true, named := ["math/bits.divideError", "math/bits.overflowError"], apart := false, narrowed := true }
def VecDotUptoSaid : Prop := vecDotUptoRow.holds Tryz.pinned (OpenSpec.upto vecDotSpec)

/-- 'ninepinlaw03.VecCross', WHERE WHAT IT READS IS OF BULK AT MOST 1048576: true; the input reads as it did. -/
def vecCrossUptoRow : OpenClaim := { program := "ytljggjnaolbapaagreat", sum := "170d95325efbb3cf9c0af4e94827bae00c18dc0b7140f4ab37356f058fb92c4f", func := "ninepin/ninepinlaw03.VecCross", spec := "vecCross", inPlace := ["math/bits.Add64"], unfollowed := true, recurses := true, named := ["math/bits.divideError", "math/bits.overflowError"], apart := false, narrowed := true }
def VecCrossUptoSaid : Prop := vecCrossUptoRow.holds Tryz.pinned (OpenSpec.upto vecCrossSpec)

/-- 'ninepinlaw03.VecLen', WHERE WHAT IT READS IS OF BULK AT MOST 1048576: true; the input reads as it did. -/
def vecLenUptoRow : OpenClaim := { program := "ytljggjnaolbapaagreat", sum := "170d95325efbb3cf9c0af4e94827bae00c18dc0b7140f4ab37356f058fb92c4f", func := "ninepin/ninepinlaw03.VecLen", spec := "vecLen", inPlace := ["math/bits.Add64"], unfollowed := true, recurses := true, named := ["math/bits.divideError", "math/bits.overflowError"], apart := false, narrowed := true }
def VecLenUptoSaid : Prop := vecLenUptoRow.holds Tryz.pinned (OpenSpec.upto vecLenSpec)

/-- 'ninepinlaw03.VecUnit', WHERE WHAT IT READS IS OF BULK AT MOST 1048576: true; the input reads as it did. -/
def vecUnitUptoRow : OpenClaim := { program := "ytljggjnaolbapaagreat", sum := "170d95325efbb3cf9c0af4e94827bae00c18dc0b7140f4ab37356f058fb92c4f", func := "ninepin/ninepinlaw03.VecUnit", spec := "vecUnit", inPlace := ["math/bits.Add64"], unfollowed := true, recurses := true, named := ["math/bits.divideError", "math/bits.overflowError"], apart := false, narrowed := true }
def VecUnitUptoSaid : Prop := vecUnitUptoRow.holds Tryz.pinned (OpenSpec.upto vecUnitSpec)

/-- 'ninepinlaw03.VecNear', WHERE WHAT IT READS IS OF BULK AT MOST 1048576: true; the input reads as it did. -/
def vecNearUptoRow : OpenClaim := { program := "ytljggjnaolbapaagreat", sum := "170d95325efbb3cf9c0af4e94827bae00c18dc0b7140f4ab37356f058fb92c4f", func := "ninepin/ninepinlaw03.VecNear", spec := "vecNear", inPlace := ["math/bits.Add64"], unfollowed := true, recurses := true, named := ["math/bits.divideError", "math/bits.overflowError"], apart := false, narrowed := true }
def VecNearUptoSaid : Prop := vecNearUptoRow.holds Tryz.pinned (OpenSpec.upto vecNearSpec)

/-- 'ninepinlaw04.MatMul', WHERE WHAT IT READS IS OF BULK AT MOST 1048576: true; the input reads as it did. -/
def matMulUptoRow : OpenClaim := { program := "ytljggjnaolbapaagreat", sum := "170d95325efbb3cf9c0af4e94827bae00c18dc0b7140f4ab37356f058fb92c4f", func := "ninepin/ninepinlaw04.MatMul", spec := "matMul", inPlace := ["math/bits.Add64"], unfollowed := true, recurses := true, named := ["math/bits.divideError", "math/bits.overflowError"], apart := false, narrowed := true }
def MatMulUptoSaid : Prop := matMulUptoRow.holds Tryz.pinned (OpenSpec.upto matMulSpec)

/-- 'ninepinlaw04.MatInverse', WHERE WHAT IT READS IS OF BULK AT MOST 1048576: true; the input reads as it did. -/
def matInverseUptoRow : OpenClaim := { program := "ytljggjnaolbapaagreat", sum := "170d95325efbb3cf9c0af4e94827bae00c18dc0b7140f4ab37356f058fb92c4f", func := "ninepin/ninepinlaw04.MatInverse", spec := "matInverse", inPlace := ["math/bits.Add64"], unfollowed := true, recurses := true, named := ["math/bits.divideError", "math/bits.overflowError"], apart := false, narrowed := true }
def MatInverseUptoSaid : Prop := matInverseUptoRow.holds Tryz.pinned (OpenSpec.upto matInverseSpec)

end Rows
end Go.Proofs.YtljggjnaolbapaaGreat
