/- The contracts of the carries of package wide: what adder, multiplier and the closures that they make do. -/
import Derived.Test.YtfoojpfgeicolaaWm
namespace Go.Proofs.Ytfoojpfgeicolaa
open Go.RowKit

/-- 2^64, under a name. -/
def B64 : Int := 18446744073709551616

theorem add64 (x y c : Int) (hx : 0 ≤ x) (hy : 0 ≤ y) (hc0 : 0 ≤ c) (hc : c ≤ 1) (w : World) :
    (callFunc 75 #[.int .u64 x, .int .u64 y, .int .u64 c]).run Try.prog w =
      .ok (.value (.tuple #[.int .u64 ((x + y + c) % B64), .int .u64 ((x + y + c) / B64)])) w := by
  rw [run_callFunc_extern Try.func75 (by kernel_rfl) (by kernel_rfl) (by kernel_rfl) (e := add64Entry) (by kernel_rfl), run_add64 x y c hx hy hc0 hc]
  rfl

theorem adder_any (c : Int) (w : World) :
    Calls Try.prog 72 #[.int .u64 c] w fun e w' => e = .returned (.func (.func 78) #[] #[.pointer (some ⟨w.heap.size, 0, none⟩)]) ∧ w' = w.alloc (.cells #[.int .u64 c] 22) := by
  have hmf : ∀ (fn : Fn) (first cap : Array Value) (w : World), (Instr.makeFunc fn first cap).run Try.prog w = .ok (.func fn first cap) w := fun _ _ _ _ => rfl
  go_enter Try.func72, Try.ntmps72
  go_wp2
  go_ret
  exact ⟨rfl, rfl⟩

theorem adder1_any (x y c : Int) (p : Addr) (w : World) (hx : 0 ≤ x) (hy : 0 ≤ y) (hc0 : 0 ≤ c) (hc : c ≤ 1) (hp : w.cell? p = some (.int .u64 c)) (hz : w.frozen? p = false) :
    Calls Try.prog 78 #[.int .u64 x, .int .u64 y, .pointer (some p)] w fun e w' => e = .returned (.int .u64 ((x + y + c) % B64)) ∧ w' = w.setCell p (.int .u64 ((x + y + c) / B64)) := by
  go_enter Try.func78, Try.ntmps78
  go_wp2_with (simp only [add64 x y c hx hy hc0 hc])
  go_ret
  exact ⟨rfl, rfl⟩

end Go.Proofs.Ytfoojpfgeicolaa
