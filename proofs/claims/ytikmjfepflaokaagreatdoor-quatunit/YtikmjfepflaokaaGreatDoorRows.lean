/-
  NARROWER THAN 'FOR EVERY INPUT', by the rows' own cells (each row's printed sentence says how): QuatMul: laid · QuatUnit: laid · QuatSpin: laid.
  DERIVED. THE GIVEN ROWS OF THIS SEAT. 3 by the template 'for every input the law returns true; each argument reads behind the call as it read before'; 0 by the template 'total and deterministic' (their statements: YtikmjfepflaokaaGreatDoorTotals.lean).
  GIVEN WITH THE SEED: the statements are not yours to turn. If you find one false, say at which input.
  Laid BY PROGRAM, IN A SANDBOX (cutbox-rows.mjs): the forced cells as the released guide's own fill.sh prints them over the translation e66488929c9c8387… (all of the seat's roots in one cut). By AI agents, Wed Nov 11 2026. No macro, syntax, notation, axiom, sorry.
-/
import Derived.Test.YtikmjfepflaokaaGreatDoorChecked
import GoSem.Claim
import GoSem.ClaimJoined
import GoSem.ClaimMapViews
import Derived.JoinedTies
import Derived.KernelRfl
namespace Go.Proofs.YtikmjfepflaokaaGreatDoor
/- THE CELL 'sum', in the pinned program and in every row, IS THE sha256 OF THE DUMP (.gsa) THAT YtikmjfepflaokaaGreatDoorProg.lean LOADS. Nothing in Lean hashes anything: it is a label: what it is worth is what the hold of that sum in a sandbox is worth. -/
noncomputable def Tryz.pinned : Pinned := { name := "ytikmjfepflaokaagreatdoor", sum := "e66488929c9c8387ba41c23e756d26815f1a5b7fad22db8646fe880dfe5c1ab5", checked := Tryz.checked }
namespace Rows
def none {H : Type} : Left H := { results := [], args := [] }

/- WHAT THE LISTED PACKAGE-LEVEL VARIABLES READ AS WHEN THE CALL BEGINS. Each datum BY PROGRAM (the guide's laid-datum.mjs) off the statement by which the dump's own 'gosem.cut.vars' lays the variable. In a bare row this is a premise. The card (YtikmjfepflaokaaGreatDoorCards.lean) ties it to the program's text. -/
def laid_ninepin_quat_productParts {H : Type} : DataW H := .agg [.agg [.lit (.int .i64 0), .lit (.int .i64 1), .lit (.int .i64 0), .lit (.int .i64 0)], .agg [.lit (.int .i64 0), .lit (.int .i64 (-1)), .lit (.int .i64 1), .lit (.int .i64 1)], .agg [.lit (.int .i64 0), .lit (.int .i64 (-1)), .lit (.int .i64 2), .lit (.int .i64 2)], .agg [.lit (.int .i64 0), .lit (.int .i64 (-1)), .lit (.int .i64 3), .lit (.int .i64 3)], .agg [.lit (.int .i64 1), .lit (.int .i64 1), .lit (.int .i64 0), .lit (.int .i64 1)], .agg [.lit (.int .i64 1), .lit (.int .i64 1), .lit (.int .i64 1), .lit (.int .i64 0)], .agg [.lit (.int .i64 1), .lit (.int .i64 1), .lit (.int .i64 2), .lit (.int .i64 3)], .agg [.lit (.int .i64 1), .lit (.int .i64 (-1)), .lit (.int .i64 3), .lit (.int .i64 2)], .agg [.lit (.int .i64 2), .lit (.int .i64 1), .lit (.int .i64 0), .lit (.int .i64 2)], .agg [.lit (.int .i64 2), .lit (.int .i64 1), .lit (.int .i64 2), .lit (.int .i64 0)], .agg [.lit (.int .i64 2), .lit (.int .i64 1), .lit (.int .i64 3), .lit (.int .i64 1)], .agg [.lit (.int .i64 2), .lit (.int .i64 (-1)), .lit (.int .i64 1), .lit (.int .i64 3)], .agg [.lit (.int .i64 3), .lit (.int .i64 1), .lit (.int .i64 0), .lit (.int .i64 3)], .agg [.lit (.int .i64 3), .lit (.int .i64 1), .lit (.int .i64 3), .lit (.int .i64 0)], .agg [.lit (.int .i64 3), .lit (.int .i64 1), .lit (.int .i64 1), .lit (.int .i64 2)], .agg [.lit (.int .i64 3), .lit (.int .i64 (-1)), .lit (.int .i64 2), .lit (.int .i64 1)]]
def laid_ninepin_quat_turnParts {H : Type} : DataW H := .agg [.agg [.lit (.int .i64 0), .lit (.int .i64 1), .lit (.int .i64 0), .lit (.int .i64 0)], .agg [.lit (.int .i64 0), .lit (.int .i64 1), .lit (.int .i64 1), .lit (.int .i64 1)], .agg [.lit (.int .i64 0), .lit (.int .i64 (-1)), .lit (.int .i64 2), .lit (.int .i64 2)], .agg [.lit (.int .i64 0), .lit (.int .i64 (-1)), .lit (.int .i64 3), .lit (.int .i64 3)], .agg [.lit (.int .i64 1), .lit (.int .i64 2), .lit (.int .i64 1), .lit (.int .i64 2)], .agg [.lit (.int .i64 1), .lit (.int .i64 (-2)), .lit (.int .i64 0), .lit (.int .i64 3)], .agg [.lit (.int .i64 2), .lit (.int .i64 2), .lit (.int .i64 1), .lit (.int .i64 3)], .agg [.lit (.int .i64 2), .lit (.int .i64 2), .lit (.int .i64 0), .lit (.int .i64 2)], .agg [.lit (.int .i64 3), .lit (.int .i64 2), .lit (.int .i64 1), .lit (.int .i64 2)], .agg [.lit (.int .i64 3), .lit (.int .i64 2), .lit (.int .i64 0), .lit (.int .i64 3)], .agg [.lit (.int .i64 4), .lit (.int .i64 1), .lit (.int .i64 0), .lit (.int .i64 0)], .agg [.lit (.int .i64 4), .lit (.int .i64 (-1)), .lit (.int .i64 1), .lit (.int .i64 1)], .agg [.lit (.int .i64 4), .lit (.int .i64 1), .lit (.int .i64 2), .lit (.int .i64 2)], .agg [.lit (.int .i64 4), .lit (.int .i64 (-1)), .lit (.int .i64 3), .lit (.int .i64 3)], .agg [.lit (.int .i64 5), .lit (.int .i64 2), .lit (.int .i64 2), .lit (.int .i64 3)], .agg [.lit (.int .i64 5), .lit (.int .i64 (-2)), .lit (.int .i64 0), .lit (.int .i64 1)], .agg [.lit (.int .i64 6), .lit (.int .i64 2), .lit (.int .i64 1), .lit (.int .i64 3)], .agg [.lit (.int .i64 6), .lit (.int .i64 (-2)), .lit (.int .i64 0), .lit (.int .i64 2)], .agg [.lit (.int .i64 7), .lit (.int .i64 2), .lit (.int .i64 2), .lit (.int .i64 3)], .agg [.lit (.int .i64 7), .lit (.int .i64 2), .lit (.int .i64 0), .lit (.int .i64 1)], .agg [.lit (.int .i64 8), .lit (.int .i64 1), .lit (.int .i64 0), .lit (.int .i64 0)], .agg [.lit (.int .i64 8), .lit (.int .i64 (-1)), .lit (.int .i64 1), .lit (.int .i64 1)], .agg [.lit (.int .i64 8), .lit (.int .i64 (-1)), .lit (.int .i64 2), .lit (.int .i64 2)], .agg [.lit (.int .i64 8), .lit (.int .i64 1), .lit (.int .i64 3), .lit (.int .i64 3)]]

/-- 'ninepinlaw05.QuatMul': WHATEVER THE INPUT: true; the input reads as it did. -/
def quatMulSpec : ChangeSpec := { name := "quatMul", fn := fun _ => fun
  | [d1, d2] => { results := [.lit (.bool true)], args := [d1, d2] }
  | _ => none }
def quatMulRow : OpenClaim := { program := "ytikmjfepflaokaagreatdoor", sum := "e66488929c9c8387ba41c23e756d26815f1a5b7fad22db8646fe880dfe5c1ab5", func := "ninepin/ninepinlaw05.QuatMul", spec := "quatMul", inPlace := ["math/bits.Add64"], unfollowed := true, recurses := true, named := ["ninepin/quat.productParts", "ninepin/quat.turnParts", "math/bits.divideError", "math/bits.overflowError"], apart := false, laid := [("ninepin/quat.productParts", laid_ninepin_quat_productParts), ("ninepin/quat.turnParts", laid_ninepin_quat_turnParts)] }
def QuatMulSaid : Prop := quatMulRow.holds Tryz.pinned (OpenSpec.ofChange quatMulSpec)

/-- ITS FALSE NEIGHBOUR: 'it returns false'. Refute it at one input. -/
def quatMulWrong : ChangeSpec := { name := "quatMul", fn := fun _ => fun
  | [d1, d2] => { results := [.lit (.bool false)], args := [d1, d2] }
  | _ => none }
def QuatMulWrongFalsely : Prop := quatMulRow.holds Tryz.pinned (OpenSpec.ofChange quatMulWrong)

/-- 'ninepinlaw05.QuatUnit': WHATEVER THE INPUT: true; the input reads as it did. -/
def quatUnitSpec : ChangeSpec := { name := "quatUnit", fn := fun _ => fun
  | [d] => { results := [.lit (.bool true)], args := [d] }
  | _ => none }
def quatUnitRow : OpenClaim := { program := "ytikmjfepflaokaagreatdoor", sum := "e66488929c9c8387ba41c23e756d26815f1a5b7fad22db8646fe880dfe5c1ab5", func := "ninepin/ninepinlaw05.QuatUnit", spec := "quatUnit", inPlace := ["math/bits.Add64"], unfollowed := true, recurses := true, named := ["math/bits.divideError", "math/bits.overflowError", "ninepin/quat.turnParts", "ninepin/quat.productParts"], apart := false, laid := [("ninepin/quat.productParts", laid_ninepin_quat_productParts), ("ninepin/quat.turnParts", laid_ninepin_quat_turnParts)] }
def QuatUnitSaid : Prop := quatUnitRow.holds Tryz.pinned (OpenSpec.ofChange quatUnitSpec)

/-- ITS FALSE NEIGHBOUR: 'it returns false'. Refute it at one input. -/
def quatUnitWrong : ChangeSpec := { name := "quatUnit", fn := fun _ => fun
  | [d] => { results := [.lit (.bool false)], args := [d] }
  | _ => none }
def QuatUnitWrongFalsely : Prop := quatUnitRow.holds Tryz.pinned (OpenSpec.ofChange quatUnitWrong)

/-- 'ninepinlaw05.QuatSpin': WHATEVER THE INPUT: true; the input reads as it did. -/
def quatSpinSpec : ChangeSpec := { name := "quatSpin", fn := fun _ => fun
  | [d1, d2, d3] => { results := [.lit (.bool true)], args := [d1, d2, d3] }
  | _ => none }
def quatSpinRow : OpenClaim := { program := "ytikmjfepflaokaagreatdoor", sum := "e66488929c9c8387ba41c23e756d26815f1a5b7fad22db8646fe880dfe5c1ab5", func := "ninepin/ninepinlaw05.QuatSpin", spec := "quatSpin", inPlace := ["math/bits.Add64"], unfollowed := true, recurses := true, named := ["ninepin/quat.productParts", "ninepin/quat.turnParts", "math/bits.divideError", "math/bits.overflowError"], apart := false, laid := [("ninepin/quat.productParts", laid_ninepin_quat_productParts), ("ninepin/quat.turnParts", laid_ninepin_quat_turnParts)] }
def QuatSpinSaid : Prop := quatSpinRow.holds Tryz.pinned (OpenSpec.ofChange quatSpinSpec)

/-- ITS FALSE NEIGHBOUR: 'it returns false'. Refute it at one input. -/
def quatSpinWrong : ChangeSpec := { name := "quatSpin", fn := fun _ => fun
  | [d1, d2, d3] => { results := [.lit (.bool false)], args := [d1, d2, d3] }
  | _ => none }
def QuatSpinWrongFalsely : Prop := quatSpinRow.holds Tryz.pinned (OpenSpec.ofChange quatSpinWrong)

/- THE SECOND FORM. 'bulk': how many values and letters a reading holds, each counted each time it is reached (what is shared counts as often as it is met; a slice's spare places count too). A statement '..UptoSaid' is the law's where the arguments, and the package variables that the reading takes, are together of bulk at most 1048576: NARROWER than '..Said'. Prove '..Said' where nothing that the law and all that it calls make is longer than what came in: it says more and counts as full. Else prove '..UptoSaid'. A law counts once. -/
mutual
def uptoBulk {H : Type} : DataW H → Nat
  | .lit (.string bytes) => bytes.length + 1
  | .lit _ => 1
  | .nil => 1
  | .ptr d => uptoBulk d + 1
  | .slice elems spare => uptoBulkAll elems + uptoBulkAll spare + 1
  | .agg parts => uptoBulkAll parts + 1
  | .iface _ d => uptoBulk d + 1
  | .map entries => uptoBulkEntries entries + 1
  | .held _ => 1
def uptoBulkAll {H : Type} : List (DataW H) → Nat
  | [] => 0
  | d :: r => uptoBulk d + uptoBulkAll r
def uptoBulkEntries {H : Type} : List (Lit × DataW H) → Nat
  | [] => 0
  | x :: r => uptoBulkEntry x + uptoBulkEntries r
def uptoBulkEntry {H : Type} : Lit × DataW H → Nat
  | (.string bytes, d) => bytes.length + uptoBulk d + 1
  | (_, d) => uptoBulk d + 1
 end
def uptoSmall : (H : Type) → List (DataW H) → Bool := fun _ ds => decide (uptoBulkAll ds ≤ 1048576)
def OpenSpec.upto (s : _root_.Go.ChangeSpec) : _root_.Go.OpenSpec := { _root_.Go.OpenSpec.ofChange s with cond := some uptoSmall }

/-- 'ninepinlaw05.QuatMul', WHERE WHAT IT READS IS OF BULK AT MOST 1048576: true; the input reads as it did. -/
def quatMulUptoRow : OpenClaim := { program := "ytikmjfepflaokaagreatdoor", sum := "e66488929c9c8387ba41c23e756d26815f1a5b7fad22db8646fe880dfe5c1ab5", func := "ninepin/ninepinlaw05.QuatMul", spec := "quatMul", inPlace := ["math/bits.Add64"], unfollowed := true, recurses := true, named := ["ninepin/quat.productParts", "ninepin/quat.turnParts", "math/bits.divideError", "math/bits.overflowError"], apart := false, laid := [("ninepin/quat.productParts", laid_ninepin_quat_productParts), ("ninepin/quat.turnParts", laid_ninepin_quat_turnParts)], narrowed := true }
def QuatMulUptoSaid : Prop := quatMulUptoRow.holds Tryz.pinned (OpenSpec.upto quatMulSpec)

/-- 'ninepinlaw05.QuatUnit', WHERE WHAT IT READS IS OF BULK AT MOST 1048576: true; the input reads as it did. -/
def quatUnitUptoRow : OpenClaim := { program := "ytikmjfepflaokaagreatdoor", sum := "e66488929c9c8387ba41c23e756d26815f1a5b7fad22db8646fe880dfe5c1ab5", func := "ninepin/ninepinlaw05.QuatUnit", spec := "quatUnit", inPlace := ["math/bits.Add64"], unfollowed := true, recurses := true, named := ["math/bits.divideError", "math/bits.overflowError", "ninepin/quat.turnParts", "ninepin/quat.productParts"], apart := false, laid := [("ninepin/quat.productParts", laid_ninepin_quat_productParts), ("ninepin/quat.turnParts", laid_ninepin_quat_turnParts)], narrowed := true }
def QuatUnitUptoSaid : Prop := quatUnitUptoRow.holds Tryz.pinned (OpenSpec.upto quatUnitSpec)

/-- 'ninepinlaw05.QuatSpin', WHERE WHAT IT READS IS OF BULK AT MOST 1048576: true; the input reads as it did. -/
def quatSpinUptoRow : OpenClaim := { program := "ytikmjfepflaokaagreatdoor", sum := "e66488929c9c8387ba41c23e756d26815f1a5b7fad22db8646fe880dfe5c1ab5", func := "ninepin/ninepinlaw05.QuatSpin", spec := "quatSpin", inPlace := ["math/bits.Add64"], unfollowed := true, recurses := true, named := ["ninepin/quat.productParts", "ninepin/quat.turnParts", "math/bits.divideError", "math/bits.overflowError"], apart := false, laid := [("ninepin/quat.productParts", laid_ninepin_quat_productParts), ("ninepin/quat.turnParts", laid_ninepin_quat_turnParts)], narrowed := true }
def QuatSpinUptoSaid : Prop := quatSpinUptoRow.holds Tryz.pinned (OpenSpec.upto quatSpinSpec)

end Rows
end Go.Proofs.YtikmjfepflaokaaGreatDoor
