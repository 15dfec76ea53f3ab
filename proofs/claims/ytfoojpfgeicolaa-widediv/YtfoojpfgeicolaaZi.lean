/- The contract of Div of package wide, with what it hands to face. -/
import Derived.Test.YtfoojpfgeicolaaZh
namespace Go.Proofs.Ytfoojpfgeicolaa
open Go.RowKit

section
variable {P : Program} {ops : Array Oper} {S : Bool → World → Prop} {t : Nat} {E : Act → Prop}
/-- The store that turns the world. -/
theorem planT_store {r : List Nat} {a : Act} {o : Oper} (ho : ops[t]? = some o) (hw : Region.wanted o (yielded ops a.tmps) = true)
    (h : ∀ w, S false w → ∃ w', (execOp a.eval o).run P w = .ok .skip w' ∧ S true w') (hr : PlanT P ops S t E r (a.put o.dst undef)) : PlanT P ops S t E (t :: r) a :=
  ⟨o, undef, ho, fun b c h1 _ => .inl ⟨hw, fun w hS => by obtain ⟨rfl, rfl⟩ := h1 rfl; obtain ⟨w', h3, h4⟩ := h w hS; rw [h3]; exact ⟨rfl, h4⟩⟩, hr⟩
/-- A store that leaves both. -/
theorem planT_put {i : Nat} {r : List Nat} {a : Act} {o : Oper} (ho : ops[i]? = some o) (hi : i ≠ t) (hw : Region.wanted o (yielded ops a.tmps) = true)
    (h : ∀ b w, S b w → ∃ w', (execOp a.eval o).run P w = .ok .skip w' ∧ S b w') (hr : PlanT P ops S t E r (a.put o.dst undef)) : PlanT P ops S t E (i :: r) a :=
  ⟨o, undef, ho, fun b c _ h2 => .inl ⟨hw, fun w hS => by obtain ⟨w', h3, h4⟩ := h b w hS; rw [h3, h2 hi]; exact ⟨rfl, h4⟩⟩, hr⟩
end

theorem But.row {B g k : Nat} {a w : World} (h : But B g a w) (hk : k = g ∨ B ≤ k) (cs : Array Value) : But B g a (w.setRow k cs) :=
  ⟨h.os, h.tape, h.output, by have := h.size; simpa using this, fun i hi hne => (setRow_other w k i cs (by omega)).trans (h.block i hi hne)⟩
theorem But.alloc {B g : Nat} {a w : World} (h : But B g a w) (hB : B ≤ w.heap.size) (o : Obj) : But B g a (w.alloc o) :=
  h.trans (But.of_below ((Below.refl _ _).alloc hB _))

/-- What Div's own function knows of its blocks. -/
structure Di (w0 : World) (c l : Nat) (w : World) : Prop where
  r : Blk w w0.heap.size 25 (cells8 0)
  k : Blk w c 25 (cells8 l)
  b : But w0.heap.size c w0 w
  lt : c < w0.heap.size
theorem Di.keep {w0 w w' : World} {k l : Nat} (h : Di w0 k l w) (hb : Below w.heap.size w w') : Di w0 k l w' :=
  ⟨h.r.below hb h.r.lt, h.k.below hb h.k.lt, h.b.trans (But.of_below (hb.mono h.b.size)), h.lt⟩
theorem Di.put {w0 w : World} {k l : Nat} (h : Di w0 k l w) (n : Nat) : Di w0 k n (w.setRow k (cells8 n)) :=
  ⟨h.r.rowOther _ (by have := h.lt; omega), h.k.row _, h.b.row (.inl rfl) _, h.lt⟩

theorem Div1_core (a b n m : Nat) (bs : Bool) (g h k : Nat) (w : World) (HX : Hid (Blk w g 25 (cells8 a))) (HY : Hid (Blk w h 25 (cells8 b))) (HL : Hid (Blk w k 25 (cells8 0)))
    (hS : Hid (∀ u, Calls Try.prog 59 #[W a, W b] u fun e w' => (e = if bs then .panicked noAnswer else .returned (.tuple #[.agg (cells8 n), .agg (cells8 m)])) ∧ Below u.heap.size u w')) :
    Calls Try.prog 58 #[.pointer (some ⟨g, 0, none⟩), .pointer (some ⟨h, 0, none⟩), .pointer (some ⟨k, 0, none⟩)] w fun e w' => Ends bs n e ∧ Blk w' k 25 (cells8 (bif bs then 0 else m)) ∧ But w.heap.size k w w' := by
  have D0 : Hid (Di w k 0 (w.alloc (.cells #[.int .u64 0, .int .u64 0, .int .u64 0, .int .u64 0, .int .u64 0, .int .u64 0, .int .u64 0, .int .u64 0] 25))) :=
    ⟨cells8_0 ▸ Blk.new _ _ _, (unhide HL).alloc _, But.of_below ((Below.refl _ _).alloc (Nat.le_refl _) _), (unhide HL).lt⟩
  cases bs
  · have hS' : Hid (∀ u, Calls Try.prog 59 #[W a, W b] u fun e w' => e = .returned (.tuple #[.agg (cells8 n), .agg (cells8 m)]) ∧ Below u.heap.size u w') := hS
    clear hS
    go_enter Try.func58, Try.ntmps58
    go_upto_region 2 with (first
      | refine ld8 25 (.tmp 0) ((unhide HX).alloc _) rfl rfl rfl Try.underlying25 rfl iWide ?_
      | refine ld8 25 (.tmp 1) ((unhide HY).alloc _) rfl rfl rfl Try.underlying25 rfl iWide ?_
      | (go_at_call 59; refine (unhide hS' _).mono ?_; rintro e w' ⟨he, hb⟩; subst he)
      | refine st8 (n := n) 25 (.tmp 4) (.tmp 10) (Blk.first2 w' 25 _ _) rfl rfl rfl rfl rfl iWide ?_
      | refine st8 (n := m) 25 (.tmp 5) (.tmp 11) ((Blk.second2 w' 25 _ _).rowOther _ (by omega)) rfl rfl rfl rfl rfl iWide ?_)
    have D1 := hide ((unhide D0).keep hb)
    have hsz : w.heap.size < w'.heap.size := (unhide D1).r.lt
    have D2 : Hid (Di w k 0 ((((w'.alloc (.cells #[.int .u64 0, .int .u64 0, .int .u64 0, .int .u64 0, .int .u64 0, .int .u64 0, .int .u64 0, .int .u64 0] 25)).alloc (.cells #[.int .u64 0, .int .u64 0, .int .u64 0, .int .u64 0, .int .u64 0, .int .u64 0, .int .u64 0, .int .u64 0] 25)).setRow w'.heap.size (cells8 n)).setRow (w'.heap.size + 1) (cells8 m))) :=
      ⟨(((((unhide D1).r.alloc _).alloc _).rowOther _ (by omega)).rowOther _ (by omega)), (((((unhide D1).k.alloc _).alloc _).rowOther _ (by have := (unhide D1).lt; omega)).rowOther _ (by have := (unhide D1).lt; omega)),
        (((((unhide D1).b.alloc (by omega) _).alloc (by simp; omega) _).row (.inr (by omega)) _).row (.inr (by omega)) _), (unhide D1).lt⟩
    have N2 : Hid (Blk ((((w'.alloc (.cells #[.int .u64 0, .int .u64 0, .int .u64 0, .int .u64 0, .int .u64 0, .int .u64 0, .int .u64 0, .int .u64 0] 25)).alloc (.cells #[.int .u64 0, .int .u64 0, .int .u64 0, .int .u64 0, .int .u64 0, .int .u64 0, .int .u64 0, .int .u64 0] 25)).setRow w'.heap.size (cells8 n)).setRow (w'.heap.size + 1) (cells8 m)) w'.heap.size 25 (cells8 n)) := ((Blk.first2 w' 25 _ _).row _).rowOther _ (by omega)
    have M2 : Hid (Blk ((((w'.alloc (.cells #[.int .u64 0, .int .u64 0, .int .u64 0, .int .u64 0, .int .u64 0, .int .u64 0, .int .u64 0, .int .u64 0] 25)).alloc (.cells #[.int .u64 0, .int .u64 0, .int .u64 0, .int .u64 0, .int .u64 0, .int .u64 0, .int .u64 0, .int .u64 0] 25)).setRow w'.heap.size (cells8 n)).setRow (w'.heap.size + 1) (cells8 m)) (w'.heap.size + 1) 25 (cells8 m)) := ((Blk.second2 w' 25 _ _).rowOther _ (by omega)).row _
    have hk : Hid (w'.heap.size ≠ k) := by show w'.heap.size ≠ k; have := (unhide D1).lt; omega
    clear D0 D1 hb HX HY HL hsz
    generalize (((w'.alloc (.cells #[.int .u64 0, .int .u64 0, .int .u64 0, .int .u64 0, .int .u64 0, .int .u64 0, .int .u64 0, .int .u64 0] 25)).alloc (.cells #[.int .u64 0, .int .u64 0, .int .u64 0, .int .u64 0, .int .u64 0, .int .u64 0, .int .u64 0, .int .u64 0] 25)).setRow w'.heap.size (cells8 n)).setRow (w'.heap.size + 1) (cells8 m) = u at D2 N2 M2 ⊢
    generalize w'.heap.size = d at N2 M2 hk ⊢
    go_wp2_with (first
      | refine ld8 25 (.tmp 5) (unhide M2) rfl rfl rfl Try.underlying25 rfl iWide ?_
      | refine st8 (n := m) 25 (.tmp 2) (.tmp 12) (unhide D2).k rfl rfl rfl rfl rfl iWide ?_
      | refine ld8 25 (.tmp 4) ((unhide N2).rowOther _ (unhide hk)) rfl rfl rfl Try.underlying25 rfl iWide ?_
      | refine st8 (n := n) 25 (.tmp 3) (.tmp 13) ((unhide D2).put m).r rfl rfl rfl rfl rfl iWide ?_)
    have hlt := (unhide D2).lt
    exact res8 (((unhide D2).put m).r.row _) rfl rfl rfl Try.underlying25 rfl iWide ⟨rfl, ((unhide D2).put m).k.rowOther _ (by omega), ((unhide D2).put m).b.row (.inr (Nat.le_refl _)) _⟩
  · have hS' : Hid (∀ u, Calls Try.prog 59 #[W a, W b] u fun e w' => e = .panicked noAnswer ∧ Below u.heap.size u w') := hS
    clear hS
    go_enter Try.func58, Try.ntmps58
    go_wp2_with (first
      | refine ld8 25 (.tmp 0) ((unhide HX).alloc _) rfl rfl rfl Try.underlying25 rfl iWide ?_
      | refine ld8 25 (.tmp 1) ((unhide HY).alloc _) rfl rfl rfl Try.underlying25 rfl iWide ?_
      | (go_at_call 59; refine (unhide hS' _).mono ?_; rintro e w' ⟨he, hb⟩; subst he))
    exact ⟨rfl, rfl, ((unhide D0).keep hb).k, ((unhide D0).keep hb).b⟩

/-- Two whole numbers out of their blocks, and a value out of its slot. -/
theorem res88s {P : Program} {fn : Func} {R : Ending → World → Prop} {p q s : Tmp} {ty : TypeId} {a : Act} {w : World} {n m g k : Nat} {t : TypeId} {d : TypeDesc} {v : Value}
    (hg : Blk w g t (cells8 n)) (hk : Blk w k t (cells8 m)) (h : fn.results = #[.cell p ty, .cell q ty, .tmp s]) (hp : a.tmps.getD p undef = .pointer (some ⟨g, 0, none⟩)) (hq : a.tmps.getD q undef = .pointer (some ⟨k, 0, none⟩)) (hs : a.tmps.getD s undef = v) (hdf : a.defers = [])
    (hu : P.underlying ty = some d) (hd : (match d with | .struct _ | .array _ _ => true | _ => false) = true) (hi : (P.info? ty).map (·.size) = some 8)
    (hR : R (.returned (.tuple #[.agg (cells8 n), .agg (cells8 m), v])) w) : bodyPost P fn R .ret a w := by
  refine bodyPost_ret ?_ hdf hR
  have hp' : a.tmps[p]?.getD undef = .pointer (some ⟨g, 0, none⟩) := by simpa using hp
  have hq' : a.tmps[q]?.getD undef = .pointer (some ⟨k, 0, none⟩) := by simpa using hq
  have hs' : a.tmps[s]?.getD undef = v := by simpa using hs
  simp [results, h, hp', hq', hs', asAddr, run_loadVar_row w g t ty (cells8 n) (0, 0) d hg hu hd hi, run_loadVar_row w k t ty (cells8 m) (0, 0) d hk hu hd hi, Result.andThen]

/-- face of Div's own function. -/
theorem face_div (w : World) (g h k n L : Nat) (bs : Bool) (hk : k < w.heap.size)
    (hc : ∀ u, Below w.heap.size w u → Calls Try.prog 58 #[ptr g, ptr h, ptr k] u fun e u' => Ends bs n e ∧ Blk u' k 25 (cells8 L) ∧ But u.heap.size k u u') :
    Calls Try.prog 44 #[.func (.func 58) #[] #[ptr g, ptr h, ptr k]] w fun e w' => e = .returned (told bs n) ∧ Blk w' k 25 (cells8 L) ∧ But w.heap.size k w w' := by
  refine face_any 58 _ w n bs (fun u => Blk u k 25 (cells8 L) ∧ But w.heap.size k w u) (fun _ => by simp [go_sem]) ?_ (fun u cs ⟨h1, h2⟩ => ⟨h1.rowOther _ (by omega), h2.row (.inr (Nat.le_refl _)) _⟩) (fun u v ⟨h1, h2⟩ => ⟨h1.other _ _ (by simp; omega), h2.setCell (.inr (by simp)) v⟩)
  refine (hc _ (below2 _ _ _)).mono fun e u' ⟨he, hl, hb⟩ => ⟨he, ⟨hl, (But.of_below (below2 _ _ _)).trans (hb.mono (by simp; omega))⟩, ?_, ?_⟩
  · exact cells8_0 ▸ (Blk.first2 w 25 _ _).but hb (Blk.first2 w 25 _ _).lt (by omega)
  · exact (Blk.second2 w 4 _ _).but hb (Blk.second2 w 4 _ _).lt (by omega)

/-- What Div knows of its blocks at its end. -/
structure De (w0 : World) (g n L : Nat) (b : Bool) (w : World) : Prop where
  q : Blk w (g + 1 + 1) 25 (cells8 n)
  r : Blk w (g + 1 + 1 + 1) 25 (cells8 (bif b then L else 0))
  l : Blk w (g + 1 + 1 + 1 + 1) 25 (cells8 L)
  o : Below g w0 w

set_option maxHeartbeats 1000000 in
theorem Div_core (a b n m : Nat) (bs : Bool) (w : World)
    (hS : Hid (∀ u, Calls Try.prog 59 #[W a, W b] u fun e w' => (e = if bs then .panicked noAnswer else .returned (.tuple #[.agg (cells8 n), .agg (cells8 m)])) ∧ Below u.heap.size u w')) :
    Calls Try.prog 30 #[W a, W b] w fun e w' => e = .returned (.tuple #[.agg (cells8 (bif bs then 0 else n)), .agg (cells8 (bif bs then 0 else m)), .bool (!bs)]) ∧ Below w.heap.size w w' := by
  have hmf : ∀ (fn : Fn) (first cap : Array Value) (w : World), (Instr.makeFunc fn first cap).run Try.prog w = .ok (.func fn first cap) w := fun _ _ _ _ => rfl
  obtain ⟨N, hN⟩ : ∃ N, N = bif bs then 0 else n := ⟨_, rfl⟩
  obtain ⟨L, hL⟩ : ∃ L, L = bif bs then 0 else m := ⟨_, rfl⟩
  obtain ⟨ok, hok⟩ : ∃ ok, ok = !bs := ⟨_, rfl⟩
  rw [← hN, ← hL, ← hok]
  have hF : Hid (∀ (u : World) (g h k : Nat), Blk u g 25 (cells8 a) → Blk u h 25 (cells8 b) → Blk u k 25 (cells8 0) → Calls Try.prog 44 #[.func (.func 58) #[] #[ptr g, ptr h, ptr k]] u fun e w' => e = .returned (.tuple #[.agg (cells8 N), .bool ok]) ∧ Blk w' k 25 (cells8 L) ∧ But u.heap.size k u w') := by
    intro u g h k bg bh bk
    refine (face_div u g h k n L bs bk.lt fun v hb => ?_).mono fun e w' ⟨he, h⟩ => ⟨?_, h⟩
    · rw [hL]
      exact Div1_core a b n m bs g h k v (bg.below hb bg.lt) (bh.below hb bh.lt) (bk.below hb bk.lt) hS
    · rw [he, hN, hok]
      cases bs <;> rfl
  clear hS hN hL hok
  go_enter Try.func30, Try.ntmps30
  go_upto_region 2 with fail
  have D0 := hide (Qt.start w a b)
  have L0 : Hid (Blk (((((w.alloc (.cells (cells8 a) 25)).alloc (.cells (cells8 b) 25)).alloc (.cells #[.int .u64 0, .int .u64 0, .int .u64 0, .int .u64 0, .int .u64 0, .int .u64 0, .int .u64 0, .int .u64 0] 25)).alloc (.cells #[.int .u64 0, .int .u64 0, .int .u64 0, .int .u64 0, .int .u64 0, .int .u64 0, .int .u64 0, .int .u64 0] 25)).alloc (.cells #[.int .u64 0, .int .u64 0, .int .u64 0, .int .u64 0, .int .u64 0, .int .u64 0, .int .u64 0, .int .u64 0] 25)) (w.heap.size + 1 + 1 + 1 + 1) 25 (cells8 0)) := cells8_0 ▸ Blk.at (by simp) rfl
  have D1 := hide ((unhide D0).keep ((Below.refl _ _).alloc (Nat.le_refl _) (.cells #[.int .u64 0, .int .u64 0, .int .u64 0, .int .u64 0, .int .u64 0, .int .u64 0, .int .u64 0, .int .u64 0] 25)))
  clear D0
  have hF1 := hide (unhide hF _ _ _ _ (unhide D1).a (unhide D1).b (unhide L0))
  clear hF
  generalize ((((w.alloc (.cells (cells8 a) 25)).alloc (.cells (cells8 b) 25)).alloc (.cells #[.int .u64 0, .int .u64 0, .int .u64 0, .int .u64 0, .int .u64 0, .int .u64 0, .int .u64 0, .int .u64 0] 25)).alloc (.cells #[.int .u64 0, .int .u64 0, .int .u64 0, .int .u64 0, .int .u64 0, .int .u64 0, .int .u64 0, .int .u64 0] 25)).alloc (.cells #[.int .u64 0, .int .u64 0, .int .u64 0, .int .u64 0, .int .u64 0, .int .u64 0, .int .u64 0, .int .u64 0] 25) = w1 at D1 L0 hF1 ⊢
  go_upto_region 3 with (first
    | (go_at_call 44; refine (unhide hF1).mono ?_; rintro e w2 ⟨he, hl2, hb2⟩; subst he)
    | refine st8 (n := N) 25 (.tmp 4) (.tmp 11) ((unhide D1).q.but hb2 (unhide D1).q.lt (by omega)) rfl rfl rfl rfl rfl iWide ?_)
  have D2 : Hid (De w w.heap.size N L false (w2.setRow (w.heap.size + 1 + 1) (cells8 N)).drew) :=
    ⟨(((unhide D1).q.but hb2 (unhide D1).q.lt (by omega)).row _).drew, (((unhide D1).r.but hb2 (unhide D1).r.lt (by omega)).rowOther _ (by omega)).drew, (hl2.rowOther _ (by omega)).drew,
      (below_row ((unhide D1).o.trans (hb2.below (by have := (unhide D1).a.lt; omega) (by omega))) (by omega) _).drew⟩
  clear D1 L0 hl2 hb2 hF1
  refine region_planT (t := 4) (S := De w w.heap.size N L) (l := [0, 1, 2, 3, 4, 5]) (by kernel_rfl) (by kernel_rfl) (by kernel_rfl) (by kernel_rfl) (by kernel_rfl) (by kernel_rfl) (by kernel_rfl) (by decide) (unhide D2) ?_
  clear D2
  refine planT_read rfl (by decide) rfl (fun b u hS => exec_load8 25 (.tmp 4) hS.q rfl rfl Try.underlying25 rfl iWide) ?_
  refine planT_read rfl (by decide) rfl (fun b u hS => exec_load8 25 (.tmp 7) hS.l rfl rfl Try.underlying25 rfl iWide) ?_
  refine planT_read (v := ?_) rfl (by decide) rfl (fun b u hS => by go_simp; rfl) ?_
  go_simp
  refine planT_put rfl (by decide) rfl (fun b u hS => ⟨_, exec_store8 (n := N) 25 (.tmp 4) (.tmp 13) hS.q rfl rfl rfl rfl iWide, ⟨hS.q.row _, hS.r.rowOther _ (by omega), hS.l.rowOther _ (by omega), below_row hS.o (by omega) _⟩⟩) ?_
  refine planT_store rfl rfl (fun u hS => ⟨_, exec_store8 (n := L) 25 (.tmp 5) (.tmp 14) hS.r rfl rfl rfl rfl iWide, ⟨hS.q.rowOther _ (by omega), hS.r.row _, hS.l.rowOther _ (by omega), below_row hS.o (by omega) _⟩⟩) ?_
  go_simp
  refine planT_read (v := ?_) rfl (by decide) rfl (fun b u hS => by go_simp; rfl) ?_
  go_simp
  refine planT_end (fun u hS => ?_)
  have HS := hide hS
  clear hS
  go_wp2
  exact res88s (unhide HS).q (unhide HS).r rfl rfl rfl rfl rfl Try.underlying25 rfl iWide ⟨rfl, (unhide HS).o⟩

end Go.Proofs.Ytfoojpfgeicolaa
