/- The contract of face of package wide: what a function finds, or 0 and false where it leaves by panic. -/
import Derived.Test.YtfoojpfgeicolaaZa
import Derived.Defers
import Derived.Recover
namespace Go.Proofs.Ytfoojpfgeicolaa
open Go.RowKit

theorem catch_panicking (p : Addr) (x : Bool) (u : TypeId) (pv : Value) (older : List PanicEntry) (w : World) (hc : w.cell? p = some (.bool x)) (hz : w.frozen? p = false) :
    CallsD Try.prog 67 #[.pointer (some p)] (.panicking ({ v := .iface u pv, recovered := false } :: older)) w fun e u' w' =>
      e = .returned (.tuple #[]) ∧ u' = .panicking ({ v := .iface u pv, recovered := true } :: older) ∧ w' = w.setCell p (.bool false) := by
  refine callsD_of_wpS Try.func67 rfl fun c₀ cs hu => ?_
  apply wpS_region
  simp [wpOpsS, go_sem, recoverD, hu, Try.ntmps67, hc, hz, bodyPostS, results, Try.results67]

theorem catch_idle (p : Addr) (x : Bool) (w : World) (hc : w.cell? p = some (.bool x)) (hz : w.frozen? p = false) :
    CallsD Try.prog 67 #[.pointer (some p)] .returning w fun e u' w' => e = .returned (.tuple #[]) ∧ u' = .returning ∧ w' = w.setCell p (.bool true) := by
  refine callsD_of_wpS Try.func67 rfl fun c₀ cs hu => ?_
  apply wpS_region
  simp [wpOpsS, go_sem, recoverD, hu, Try.ntmps67, hc, hz, bodyPostS, results, Try.results67]
  cases c₀
  simp_all

/-- A whole number and a bool, read out of their blocks. -/
theorem results_told {P : Program} {fn : Func} {p q : Tmp} {ty tb : TypeId} {tmps : Array Value} {w : World} {n g k : Nat} {t t' : TypeId} {d : TypeDesc} {b : Bool}
    (hg : Blk w g t (cells8 n)) (hk : Blk w k t' #[.bool b]) (h : fn.results = #[.cell p ty, .cell q tb]) (hp : tmps.getD p undef = .pointer (some ⟨g, 0, none⟩)) (hq : tmps.getD q undef = .pointer (some ⟨k, 0, none⟩))
    (hu : P.underlying ty = some d) (hd : (match d with | .struct _ | .array _ _ => true | _ => false) = true) (hi : (P.info? ty).map (·.size) = some 8) (hb : P.underlying tb = some .bool) :
    (results fn tmps).run P w = .ok (.tuple #[.agg (cells8 n), .bool b]) w := by
  have hp' : tmps[p]?.getD undef = .pointer (some ⟨g, 0, none⟩) := by simpa using hp
  have hq' : tmps[q]?.getD undef = .pointer (some ⟨k, 0, none⟩) := by simpa using hq
  have hc : w.cell? ⟨k, 0, none⟩ = some (.bool b) := hk.cell 0
  have hA : (isAgg tb).run P w = .ok false w := by
    unfold isAgg
    rw [Sem.run_bind, run_underlying hb w]
    rfl
  have hL : (loadVar tb ⟨k, 0, none⟩).run P w = .ok (.bool b) w := by
    unfold loadVar
    rw [Sem.run_bind, hA]
    simp [go_sem, hc]
  simp [results, h, hp', hq', asAddr, run_loadVar_row w g t ty (cells8 n) (0, 0) d hg hu hd hi, hL, Result.andThen]

/-- What face answers. -/
def told (bad : Bool) (n : Nat) : Value := if bad then .tuple #[.agg (cells8 0), .bool false] else .tuple #[.agg (cells8 n), .bool true]

theorem face_any (f : FuncId) (cap : Array Value) (w : World) (n : Nat) (bad : Bool) (T : World → Prop)
    (hi : ∀ u, (callFunc f cap).run Try.prog u = .ok (.enter f cap) u)
    (hc : Calls Try.prog f cap ((w.alloc (.cells #[.int .u64 0, .int .u64 0, .int .u64 0, .int .u64 0, .int .u64 0, .int .u64 0, .int .u64 0, .int .u64 0] 25)).alloc (.cells #[.bool false] 4)) fun e u' =>
      Ends bad n e ∧ T u' ∧ Blk u' w.heap.size 25 (cells8 0) ∧ Blk u' (w.heap.size + 1) 4 #[.bool false])
    (hT1 : ∀ u cs, T u → T (u.setRow w.heap.size cs)) (hT2 : ∀ u v, T u → T (u.setCell ⟨w.heap.size + 1, 0, none⟩ v)) :
    Calls Try.prog 44 #[.func (.func f) #[] cap] w fun e w' => e = .returned (told bad n) ∧ T w' := by
  have hmf : ∀ (fn : Fn) (first cap : Array Value) (w : World), (Instr.makeFunc fn first cap).run Try.prog w = .ok (.func fn first cap) w := fun _ _ _ _ => rfl
  go_enter_defers Try.func44, Try.ntmps44
  go_wp2
  refine hc.mono ?_
  rintro e u ⟨he, ht, hb0, hb1⟩
  unfold Ends at he
  subst he
  cases bad with
  | true =>
    go_simp
    show bodyPostD Try.prog Try.f44 _ _ _ _
    refine leaves_cons (f := 67) (args := #[.pointer (some ⟨w.heap.size + 1, 0, none⟩)]) (by simp) (by simp [go_sem]) ?_
    refine (catch_panicking ⟨w.heap.size + 1, 0, none⟩ false _ _ [] _ (hb1.cell 0) (hb1.frozen 0)).mono ?_
    rintro e u' w'' ⟨rfl, rfl, rfl⟩
    exact ⟨_, results_told (hb0.other _ _ (by simp)) (hb1.set 0 _) rfl rfl rfl Try.underlying25 rfl iWide Try.underlying4, rfl, hT2 _ _ ht⟩
  | false =>
    go_simp
    have H0 := hide hb0
    have H1 : Hid (Blk (u.setRow w.heap.size (cells8 n)) (w.heap.size + 1) 4 #[.bool false]) := hb1.rowOther _ (by omega)
    have hc1 : (u.setRow w.heap.size (cells8 n)).cell? ⟨w.heap.size + 1, 0, none⟩ = some (.bool false) := (unhide H1).cell 0
    have hf1 : (u.setRow w.heap.size (cells8 n)).frozen? ⟨w.heap.size + 1, 0, none⟩ = false := (unhide H1).frozen 0
    go_wp2_with (refine st8 (n := n) 25 (.tmp 2) (.tmp 6) (unhide H0) rfl rfl rfl rfl rfl iWide ?_)
    have B1 := (unhide H1).set 0 (.bool true)
    refine leaves_cons (f := 67) (args := #[.pointer (some ⟨w.heap.size + 1, 0, none⟩)]) (by simp) (by simp [go_sem]) ?_
    refine (catch_idle ⟨w.heap.size + 1, 0, none⟩ true _ (B1.cell 0) (B1.frozen 0)).mono ?_
    rintro e u' w'' ⟨rfl, rfl, rfl⟩
    exact ⟨_, results_told ((((unhide H0).row _).other _ _ (by simp)).other _ _ (by simp)) (B1.set 0 _) rfl rfl rfl Try.underlying25 rfl iWide Try.underlying4, rfl, hT2 _ _ (hT2 _ _ (hT1 _ _ ht))⟩

end Go.Proofs.Ytfoojpfgeicolaa
