/-
  No cell of these rows narrows 'for every input' (looked for: loops, veiled, ifaces, maps, wideKeys, modest, calm, conditions, laid).
  DERIVED. THE GIVEN ROWS OF THIS SEAT. 7 by the template 'for every input the law returns true; each argument reads behind the call as it read before'; 0 by the template 'total and deterministic' (their statements: YtcbepibdeokboaaTotals.lean).
  GIVEN WITH THE SEED: the statements are not yours to turn. If you find one false, say at which input.
  Laid BY PROGRAM, IN A SANDBOX (cutbox-rows.mjs): the forced cells as the released guide's own fill.sh prints them over the translation ffab753b06ac5626… (all of the seat's roots in one cut). By AI agents, Wed Nov 11 2026. No macro, syntax, notation, axiom, sorry.
-/
import Derived.Test.YtcbepibdeokboaaChecked
import GoSem.Claim
import GoSem.ClaimJoined
import GoSem.ClaimMapViews
import Derived.JoinedTies
import Derived.KernelRfl
namespace Go.Proofs.Ytcbepibdeokboaa
/- THE CELL 'sum', in the pinned program and in every row, IS THE sha256 OF THE DUMP (.gsa) THAT YtcbepibdeokboaaProg.lean LOADS. Nothing in Lean hashes anything: it is a label: what it is worth is what the hold of that sum in a sandbox is worth. -/
noncomputable def Try.pinned : Pinned := { name := "ytcbepibdeokboaa", sum := "ffab753b06ac562607ee545227ce4b8b7119c8aa01bdbc5bca44f741ed865e3e", checked := Try.checked }
namespace Rows
def none {H : Type} : Left H := { results := [], args := [] }

/-- 'ninepinlaw04.MatSums': WHATEVER THE INPUT: true; the input reads as it did. -/
def matSumsSpec : ChangeSpec := { name := "matSums", fn := fun _ => fun
  | [d1, d2, d3] => { results := [.lit (.bool true)], args := [d1, d2, d3] }
  | _ => none }
def matSumsRow : OpenClaim := { program := "ytcbepibdeokboaa", sum := "ffab753b06ac562607ee545227ce4b8b7119c8aa01bdbc5bca44f741ed865e3e", func := "ninepin/ninepinlaw04.MatSums", spec := "matSums", inPlace := ["math/bits.Add64"], unfollowed := true, recurses := true, named := ["math/bits.divideError", "math/bits.overflowError"], apart := false }
def MatSumsSaid : Prop := matSumsRow.holds Try.pinned (OpenSpec.ofChange matSumsSpec)

/-- ITS FALSE NEIGHBOUR: 'it returns false'. Refute it at one input. -/
def matSumsWrong : ChangeSpec := { name := "matSums", fn := fun _ => fun
  | [d1, d2, d3] => { results := [.lit (.bool false)], args := [d1, d2, d3] }
  | _ => none }
def MatSumsWrongFalsely : Prop := matSumsRow.holds Try.pinned (OpenSpec.ofChange matSumsWrong)

/-- 'ninepinlaw04.MatDet': WHATEVER THE INPUT: true; the input reads as it did. -/
def matDetSpec : ChangeSpec := { name := "matDet", fn := fun _ => fun
  | [d] => { results := [.lit (.bool true)], args := [d] }
  | _ => none }
def matDetRow : OpenClaim := { program := "ytcbepibdeokboaa", sum := "ffab753b06ac562607ee545227ce4b8b7119c8aa01bdbc5bca44f741ed865e3e", func := "ninepin/ninepinlaw04.MatDet", spec := "matDet", inPlace := ["math/bits.Add64"], unfollowed := true, recurses := true, named := ["math/bits.divideError", "math/bits.overflowError"], apart := false }
def MatDetSaid : Prop := matDetRow.holds Try.pinned (OpenSpec.ofChange matDetSpec)

/-- ITS FALSE NEIGHBOUR: 'it returns false'. Refute it at one input. -/
def matDetWrong : ChangeSpec := { name := "matDet", fn := fun _ => fun
  | [d] => { results := [.lit (.bool false)], args := [d] }
  | _ => none }
def MatDetWrongFalsely : Prop := matDetRow.holds Try.pinned (OpenSpec.ofChange matDetWrong)

/-- 'ninepinlaw04.MatBetween': WHATEVER THE INPUT: true; the input reads as it did. -/
def matBetweenSpec : ChangeSpec := { name := "matBetween", fn := fun _ => fun
  | [d1, d2] => { results := [.lit (.bool true)], args := [d1, d2] }
  | _ => none }
def matBetweenRow : OpenClaim := { program := "ytcbepibdeokboaa", sum := "ffab753b06ac562607ee545227ce4b8b7119c8aa01bdbc5bca44f741ed865e3e", func := "ninepin/ninepinlaw04.MatBetween", spec := "matBetween", inPlace := ["math/bits.Add64"], unfollowed := true, recurses := true, named := ["math/bits.divideError", "math/bits.overflowError"], apart := false }
def MatBetweenSaid : Prop := matBetweenRow.holds Try.pinned (OpenSpec.ofChange matBetweenSpec)

/-- ITS FALSE NEIGHBOUR: 'it returns false'. Refute it at one input. -/
def matBetweenWrong : ChangeSpec := { name := "matBetween", fn := fun _ => fun
  | [d1, d2] => { results := [.lit (.bool false)], args := [d1, d2] }
  | _ => none }
def MatBetweenWrongFalsely : Prop := matBetweenRow.holds Try.pinned (OpenSpec.ofChange matBetweenWrong)

/-- 'ninepinlaw04.MatOne': WHATEVER THE INPUT: true; the input reads as it did. -/
def matOneSpec : ChangeSpec := { name := "matOne", fn := fun _ => fun
  | [d1, d2] => { results := [.lit (.bool true)], args := [d1, d2] }
  | _ => none }
def matOneRow : OpenClaim := { program := "ytcbepibdeokboaa", sum := "ffab753b06ac562607ee545227ce4b8b7119c8aa01bdbc5bca44f741ed865e3e", func := "ninepin/ninepinlaw04.MatOne", spec := "matOne", inPlace := ["math/bits.Add64"], unfollowed := true, recurses := true, named := ["math/bits.divideError", "math/bits.overflowError"], apart := false }
def MatOneSaid : Prop := matOneRow.holds Try.pinned (OpenSpec.ofChange matOneSpec)

/-- ITS FALSE NEIGHBOUR: 'it returns false'. Refute it at one input. -/
def matOneWrong : ChangeSpec := { name := "matOne", fn := fun _ => fun
  | [d1, d2] => { results := [.lit (.bool false)], args := [d1, d2] }
  | _ => none }
def MatOneWrongFalsely : Prop := matOneRow.holds Try.pinned (OpenSpec.ofChange matOneWrong)

/-- 'ninepinlaw04.MatTurned': WHATEVER THE INPUT: true; the input reads as it did. -/
def matTurnedSpec : ChangeSpec := { name := "matTurned", fn := fun _ => fun
  | [d1, d2, d3] => { results := [.lit (.bool true)], args := [d1, d2, d3] }
  | _ => none }
def matTurnedRow : OpenClaim := { program := "ytcbepibdeokboaa", sum := "ffab753b06ac562607ee545227ce4b8b7119c8aa01bdbc5bca44f741ed865e3e", func := "ninepin/ninepinlaw04.MatTurned", spec := "matTurned", inPlace := ["math/bits.Add64"], unfollowed := true, recurses := true, named := ["math/bits.divideError", "math/bits.overflowError"], apart := false }
def MatTurnedSaid : Prop := matTurnedRow.holds Try.pinned (OpenSpec.ofChange matTurnedSpec)

/-- ITS FALSE NEIGHBOUR: 'it returns false'. Refute it at one input. -/
def matTurnedWrong : ChangeSpec := { name := "matTurned", fn := fun _ => fun
  | [d1, d2, d3] => { results := [.lit (.bool false)], args := [d1, d2, d3] }
  | _ => none }
def MatTurnedWrongFalsely : Prop := matTurnedRow.holds Try.pinned (OpenSpec.ofChange matTurnedWrong)

/-- 'ninepinlaw04.MatSigns': WHATEVER THE INPUT: true; the input reads as it did. -/
def matSignsSpec : ChangeSpec := { name := "matSigns", fn := fun _ => fun
  | [d1, d2] => { results := [.lit (.bool true)], args := [d1, d2] }
  | _ => none }
def matSignsRow : OpenClaim := { program := "ytcbepibdeokboaa", sum := "ffab753b06ac562607ee545227ce4b8b7119c8aa01bdbc5bca44f741ed865e3e", func := "ninepin/ninepinlaw04.MatSigns", spec := "matSigns", inPlace := ["math/bits.Add64"], unfollowed := true, recurses := true, named := ["math/bits.divideError", "math/bits.overflowError"], apart := false }
def MatSignsSaid : Prop := matSignsRow.holds Try.pinned (OpenSpec.ofChange matSignsSpec)

/-- ITS FALSE NEIGHBOUR: 'it returns false'. Refute it at one input. -/
def matSignsWrong : ChangeSpec := { name := "matSigns", fn := fun _ => fun
  | [d1, d2] => { results := [.lit (.bool false)], args := [d1, d2] }
  | _ => none }
def MatSignsWrongFalsely : Prop := matSignsRow.holds Try.pinned (OpenSpec.ofChange matSignsWrong)

/-- 'ninepinlaw04.MatDiag': WHATEVER THE INPUT: true; the input reads as it did. -/
def matDiagSpec : ChangeSpec := { name := "matDiag", fn := fun _ => fun
  | [d1, d2] => { results := [.lit (.bool true)], args := [d1, d2] }
  | _ => none }
def matDiagRow : OpenClaim := { program := "ytcbepibdeokboaa", sum := "ffab753b06ac562607ee545227ce4b8b7119c8aa01bdbc5bca44f741ed865e3e", func := "ninepin/ninepinlaw04.MatDiag", spec := "matDiag", inPlace := ["math/bits.Add64"], unfollowed := true, recurses := true, named := ["math/bits.divideError", "math/bits.overflowError"], apart := false }
def MatDiagSaid : Prop := matDiagRow.holds Try.pinned (OpenSpec.ofChange matDiagSpec)

/-- ITS FALSE NEIGHBOUR: 'it returns false'. Refute it at one input. -/
def matDiagWrong : ChangeSpec := { name := "matDiag", fn := fun _ => fun
  | [d1, d2] => { results := [.lit (.bool false)], args := [d1, d2] }
  | _ => none }
def MatDiagWrongFalsely : Prop := matDiagRow.holds Try.pinned (OpenSpec.ofChange matDiagWrong)

/- THE SECOND FORM. 'bulk': how many values and letters a reading holds, each counted each time it is reached (what is shared counts as often as it is met; a slice's spare places count too). A statement '..UptoSaid' is the law's where the arguments, and the package variables that the reading takes, are together of bulk at most 1048576: NARROWER than '..Said'. Prove '..Said' where nothing that the law and all that it calls make is longer than what came in: it says more and counts as full. Else prove '..UptoSaid'. A law counts once. -/
mutual
def uptoBulk {H : Type} : DataW H → Nat
  | .lit (.string bytes) => bytes.length + 1
  | .lit _ => 1
  | .nil => 1
  | .ptr d => uptoBulk d + 1
  | .slice elems spare => uptoBulkAll elems + uptoBulkAll spare + 1
  | .agg parts => uptoBulkAll parts + 1
  | .iface _ d => uptoBulk d + 1
  | .map entries => uptoBulkEntries entries + 1
  | .held _ => 1
def uptoBulkAll {H : Type} : List (DataW H) → Nat
  | [] => 0
  | d :: r => uptoBulk d + uptoBulkAll r
def uptoBulkEntries {H : Type} : List (Lit × DataW H) → Nat
  | [] => 0
  | x :: r => uptoBulkEntry x + uptoBulkEntries r
def uptoBulkEntry {H : Type} : Lit × DataW H → Nat
  | (.string bytes, d) => bytes.length + uptoBulk d + 1
  | (_, d) => uptoBulk d + 1
 end
def uptoSmall : (H : Type) → List (DataW H) → Bool := fun _ ds => decide (uptoBulkAll ds ≤ 1048576)
def OpenSpec.upto (s : _root_.Go.ChangeSpec) : _root_.Go.OpenSpec := { _root_.Go.OpenSpec.ofChange s with cond := some uptoSmall }

/-- 'ninepinlaw04.MatSums', WHERE WHAT IT READS IS OF BULK AT MOST 1048576: true; the input reads as it did. -/
def matSumsUptoRow : OpenClaim := { program := "ytcbepibdeokboaa", sum := "ffab753b06ac562607ee545227ce4b8b7119c8aa01bdbc5bca44f741ed865e3e", func := "ninepin/ninepinlaw04.MatSums", spec := "matSums", inPlace := ["math/bits.Add64"], unfollowed := true, recurses := true, named := ["math/bits.divideError", "math/bits.overflowError"], apart := false, narrowed := true }
def MatSumsUptoSaid : Prop := matSumsUptoRow.holds Try.pinned (OpenSpec.upto matSumsSpec)

/-- 'ninepinlaw04.MatDet', WHERE WHAT IT READS IS OF BULK AT MOST 1048576: true; the input reads as it did. -/
def matDetUptoRow : OpenClaim := { program := "ytcbepibdeokboaa", sum := "ffab753b06ac562607ee545227ce4b8b7119c8aa01bdbc5bca44f741ed865e3e", func := "ninepin/ninepinlaw04.MatDet", spec := "matDet", inPlace := ["math/bits.Add64"], unfollowed := true, recurses := true, named := ["math/bits.divideError", "math/bits.overflowError"], apart := false, narrowed := true }
def MatDetUptoSaid : Prop := matDetUptoRow.holds Try.pinned (OpenSpec.upto matDetSpec)

/-- 'ninepinlaw04.MatBetween', WHERE WHAT IT READS IS OF BULK AT MOST 1048576: true; the input reads as it did. -/
def matBetweenUptoRow : OpenClaim := { program := "ytcbepibdeokboaa", sum := "ffab753b06ac562607ee545227ce4b8b7119c8aa01bdbc5bca44f741ed865e3e", func := "ninepin/ninepinlaw04.MatBetween", spec := "matBetween", inPlace := ["math/bits.Add64"], unfollowed := true, recurses := true, named := ["math/bits.divideError", "math/bits.overflowError"], apart := false, narrowed := true }
def MatBetweenUptoSaid : Prop := matBetweenUptoRow.holds Try.pinned (OpenSpec.upto matBetweenSpec)

/-- 'ninepinlaw04.MatOne', WHERE WHAT IT READS IS OF BULK AT MOST 1048576: true; the input reads as it did. -/
def matOneUptoRow : OpenClaim := { program := "ytcbepibdeokboaa", sum := "ffab753b06ac562607ee545227ce4b8b7119c8aa01bdbc5bca44f741ed865e3e", func := "ninepin/ninepinlaw04.MatOne", spec := "matOne", inPlace := ["math/bits.Add64"], unfollowed := true, recurses := true, named := ["math/bits.divideError", "math/bits.overflowError"], apart := false, narrowed := true }
def MatOneUptoSaid : Prop := matOneUptoRow.holds Try.pinned (OpenSpec.upto matOneSpec)

/-- 'ninepinlaw04.MatTurned', WHERE WHAT IT READS IS OF BULK AT MOST 1048576: true; the input reads as it did. -/
def matTurnedUptoRow : OpenClaim := { program := "ytcbepibdeokboaa", sum := "ffab753b06ac562607ee545227ce4b8b7119c8aa01bdbc5bca44f741ed865e3e", func := "ninepin/ninepinlaw04.MatTurned", spec := "matTurned", inPlace := ["math/bits.Add64"], unfollowed := true, recurses := true, named := ["math/bits.divideError", "math/bits.overflowError"], apart := false, narrowed := true }
def MatTurnedUptoSaid : Prop := matTurnedUptoRow.holds Try.pinned (OpenSpec.upto matTurnedSpec)

/-- 'ninepinlaw04.MatSigns', WHERE WHAT IT READS IS OF BULK AT MOST 1048576: true; the input reads as it did. -/
def matSignsUptoRow : OpenClaim := { program := "ytcbepibdeokboaa", sum := "ffab753b06ac562607ee545227ce4b8b7119c8aa01bdbc5bca44f741ed865e3e", func := "ninepin/ninepinlaw04.MatSigns", spec := "matSigns", inPlace := ["math/bits.Add64"], unfollowed := true, recurses := true, named := ["math/bits.divideError", "math/bits.overflowError"], apart := false, narrowed := true }
def MatSignsUptoSaid : Prop := matSignsUptoRow.holds Try.pinned (OpenSpec.upto matSignsSpec)

/-- 'ninepinlaw04.MatDiag', WHERE WHAT IT READS IS OF BULK AT MOST 1048576: true; the input reads as it did. -/
def matDiagUptoRow : OpenClaim := { program := "ytcbepibdeokboaa", sum := "ffab753b06ac562607ee545227ce4b8b7119c8aa01bdbc5bca44f741ed865e3e", func := "ninepin/ninepinlaw04.MatDiag", spec := "matDiag", inPlace := ["math/bits.Add64"], unfollowed := true, recurses := true, named := ["math/bits.divideError", "math/bits.overflowError"], apart := false, narrowed := true }
def MatDiagUptoSaid : Prop := matDiagUptoRow.holds Try.pinned (OpenSpec.upto matDiagSpec)

end Rows
end Go.Proofs.Ytcbepibdeokboaa
