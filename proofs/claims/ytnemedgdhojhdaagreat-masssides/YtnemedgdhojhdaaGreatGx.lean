/- A number of 512 bits as an argument: what its reading says of it. A vector as an argument: what its reading says of it. A point as an argument: what its reading says of it. A span as an argument: what its reading says of it. The closed facts of a row, each for itself: what the kernel holds is freed at a declaration's end; those of the program alone, once for all rows. -/
import Derived.Test.YtnemedgdhojhdaaGreatZn
import Derived.Test.YtnemedgdhojhdaaGreatRows
import Derived.ProofKit
import Derived.OpenShut
import Derived.Test.YtnemedgdhojhdaaGreatVa
import Derived.Deep.Strs
import Derived.Test.YtnemedgdhojhdaaGreatAg
namespace Go.Proofs.YtnemedgdhojhdaaGreat
open Go.ChangeShapes Go.WideShapes Go.ChangeAt Go.RowKit
set_option maxRecDepth 4000

/-- A number by its limbs. -/
def ofLimbs : List Nat → Nat
  | [] => 0
  | z :: r => z + 18446744073709551616 * ofLimbs r
section
variable {H : Type} {enc' : TypeId × Value → H} {w : World} {base : Nat} {spare : Nat → Bool} {held : Bool}

/-- The number's datum. -/
def dat (n : Nat) : DataW H := .agg [.agg [.lit (.int .u64 (lm n 0)), .lit (.int .u64 (lm n 1)), .lit (.int .u64 (lm n 2)), .lit (.int .u64 (lm n 3)), .lit (.int .u64 (lm n 4)), .lit (.int .u64 (lm n 5)), .lit (.int .u64 (lm n 6)), .lit (.int .u64 (lm n 7))]]

end

end Go.Proofs.YtnemedgdhojhdaaGreat

namespace Go.Proofs.YtnemedgdhojhdaaGreat
open Go.ChangeShapes Go.WideShapes Go.ChangeAt Go.RowKit
set_option maxRecDepth 4000

section
variable {H : Type} {enc' : TypeId × Value → H} {w : World} {base : Nat} {spare : Nat → Bool} {held : Bool}

/-- The vector's datum. -/
def datV (x y z : Int) : DataW H := .agg [.lit (.int .i64 x), .lit (.int .i64 y), .lit (.int .i64 z)]
end

end Go.Proofs.YtnemedgdhojhdaaGreat

namespace Go.Proofs.YtnemedgdhojhdaaGreat
open Go.ChangeShapes Go.WideShapes Go.ChangeAt Go.RowKit
set_option maxRecDepth 4000

section
variable {H : Type} {enc' : TypeId × Value → H} {w : World} {base : Nat} {spare : Nat → Bool} {held : Bool}
end

end Go.Proofs.YtnemedgdhojhdaaGreat

namespace Go.Proofs.YtnemedgdhojhdaaGreat
open Go.ChangeShapes Go.WideShapes Go.ChangeAt Go.RowKit
set_option maxRecDepth 4000

section
variable {H : Type} {enc' : TypeId × Value → H} {w : World} {base : Nat} {spare : Nat → Bool} {held : Bool}
/-- The span's datum. -/
def datS (x y z : Nat) : DataW H := .agg [dat x, dat y, dat z]
end

end Go.Proofs.YtnemedgdhojhdaaGreat

namespace Go.Proofs.YtnemedgdhojhdaaGreat
open Go.ChangeShapes Go.WideShapes Go.ChangeAt Go.RowKit
set_option maxRecDepth 4000

theorem joined_split {P : Program} {f : FuncId} {fn : Func} {s : ChangeSpec} {c : OpenClaim}
  (h : ((c.wf (OpenSpec.ofChange s) && laidOutB P && mapsRowed P &&
  fn.params.all (P.readableRec ·) && namedTie P c.named s.vars) = true) ∧
  (((c.stops == []) && (P.stops == []) && (c.knobs == []) && (P.stopKnobs == [])) = true) ∧
  ((c.inPlace == P.inPlace f) = true) ∧ ((c.unfollowed == P.unfollowed f) = true) ∧ ((c.recurses == P.recurses f) = true) ∧ ((c.named == P.varsNamed f) = true) ∧
  (((c.maps == (fn.params.toList ++ s.plain.varTypes P).any (P.mapsRec ·)) && (c.ifaces == (fn.params.toList ++ s.plain.varTypes P).any (P.ifacesRec ·)) && (c.mapsOut == P.mapsAmong fn.resultTypes.toList) &&
  (c.loops == (fn.params.toList ++ s.plain.varTypes P).any (P.loopsFrom ·)) && (c.wideKeys == (fn.params.toList ++ s.plain.varTypes P ++ fn.resultTypes.toList).any (P.wideKeysFrom ·)) &&
  s.vars.all (P.varReadable ·) && fn.resultTypes.all (fun t => P.readableRec t && decide (t < P.types.size)) && (c.ifacesOut == fn.resultTypes.toList.any (P.ifacesRec ·)) && (c.loopsOut == fn.resultTypes.toList.any (P.loopsFrom ·)) && (c.plainKeys == P.plainKeys) && c.shortTexts.isNone) = true) ∧
  (P.stopsHeard = true) ∧ (P.mayEnter = true) ∧ ((c.lifted == P.liftsFinal) = true) ∧ (((P.make == some c.make) && (c.kinds == (if c.domain.isEmpty then [] else fn.params.toList.map fun t => match P.underlying t with | some (.int k) => some k | _ => none)) && (c.pinned == c.pinnedBy) &&
  (c.veiled == (fn.params.toList ++ s.plain.varTypes P ++ fn.resultTypes.toList).any (P.veiledRec ·)) && c.veiledFits P fn.params.toList (fn.params.toList ++ s.plain.varTypes P ++ fn.resultTypes.toList)) = true)) : joinedFacts P f fn s c = true := by
  simp only [Bool.and_eq_true] at h
  unfold joinedFacts
  simp only [Bool.and_eq_true]
  obtain ⟨⟨⟨⟨⟨a1, a2⟩, a3⟩, a4⟩, a5⟩, ⟨⟨⟨b1, b2⟩, b3⟩, b4⟩, c1, c2, c3, c4, ⟨⟨⟨⟨⟨⟨⟨⟨⟨⟨d1, d2⟩, d3⟩, d4⟩, d5⟩, d6⟩, d7⟩, d8⟩, d9⟩, d10⟩, d11⟩, e1, e2, e3, ⟨⟨⟨⟨f1, f2⟩, f3⟩, f4⟩, f5⟩⟩ := h
  exact ⟨⟨⟨⟨⟨⟨⟨⟨⟨⟨⟨⟨⟨⟨⟨⟨⟨⟨⟨⟨⟨⟨⟨⟨⟨⟨⟨⟨⟨⟨⟨a1, a2⟩, a3⟩, a4⟩, a5⟩, b1⟩, b2⟩, b3⟩, b4⟩, c1⟩, c2⟩, c3⟩, c4⟩, d1⟩, d2⟩, d3⟩, d4⟩, d5⟩, d6⟩, d7⟩, d8⟩, d9⟩, d10⟩, d11⟩, e1⟩, e2⟩, e3⟩, f1⟩, f2⟩, f3⟩, f4⟩, f5⟩
theorem seat_heard : Tryz.pinned.checked.prog.stopsHeard = true := by kernel_rfl
theorem seat_enter : Tryz.pinned.checked.prog.mayEnter = true := by kernel_rfl
theorem seat_lifts : Tryz.pinned.checked.prog.liftsFinal = Rows.shapeCoreRow.lifted := by kernel_rfl
theorem lifts_of {c : OpenClaim} (h : (c.lifted == Rows.shapeCoreRow.lifted) = true) : (c.lifted == Tryz.pinned.checked.prog.liftsFinal) = true := by rw [seat_lifts]; exact h

end Go.Proofs.YtnemedgdhojhdaaGreat
