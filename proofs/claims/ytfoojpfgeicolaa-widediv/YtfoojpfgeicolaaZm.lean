/- The contract of awake: it is true. -/
import Derived.Test.YtfoojpfgeicolaaZj
import Derived.Test.YtfoojpfgeicolaaZk
import Derived.Test.YtfoojpfgeicolaaZl
namespace Go.Proofs.Ytfoojpfgeicolaa
open Go.RowKit

theorem same_self (n : Nat) : same n n = true := decide_eq_true rfl
/-- Two new blocks, each filled. -/
theorem two_new (w : World) (o1 o2 : Obj) (cs cs' : Array Value) : Below w.heap.size w ((((w.alloc o1).alloc o2).setRow w.heap.size cs).setRow (w.heap.size + 1) cs') :=
  below_row (below_row (below2 w o1 o2) (Nat.le_refl _) cs) (by omega) cs'

/-- As st8, the operation asked first. -/
theorem st8o {P : Program} {ops : Array Oper} {rest : List Oper} {o : Oper} {a : Act} {w : World} {Q : Exit → Act → World → Prop} (ty : TypeId) (x y : Operand) {n g : Nat} {t : TypeId} {old : Array Value}
    (ho : o.op = .store ty x y) (hgd : o.guard = none) (hx : a.eval x = .pointer (some ⟨g, 0, none⟩)) (hy : a.eval y = .agg (cells8 n)) (hi : (P.info? ty).map (·.size) = some 8)
    (hg : Blk w g t old) (hold : old.size = 8)
    (h : wpList P ops Q rest (a.put o.dst undef) (w.setRow g (cells8 n))) : wpList P ops Q (o :: rest) a w := st8 ty x y hg hold ho hgd hx hy hi h

/-- What awake knows of its blocks. -/
structure Aw (w0 : World) (g h k q r s : Nat) (w : World) : Prop where
  q : Blk w g 25 (cells8 q)
  r : Blk w h 25 (cells8 r)
  s : Blk w k 25 (cells8 s)
  o : Below w0.heap.size w0 w
theorem Aw.keep {w0 w w' : World} {g h k q r s : Nat} (d : Aw w0 g h k q r s w) (hb : Below w.heap.size w w') : Aw w0 g h k q r s w' :=
  ⟨d.q.below hb d.q.lt, d.r.below hb d.r.lt, d.s.below hb d.s.lt, d.o.trans (hb.mono d.o.size)⟩

structure Aw2 (w0 : World) (g q r : Nat) (w : World) : Prop where
  q : Blk w g 25 (cells8 q)
  r : Blk w (g + 1) 25 (cells8 r)
  o : Below w0.heap.size w0 w
theorem Aw2.keep {w0 w w' : World} {g q r : Nat} (d : Aw2 w0 g q r w) (hb : Below w.heap.size w w') : Aw2 w0 g q r w' :=
  ⟨d.q.below hb d.q.lt, d.r.below hb d.r.lt, d.o.trans (hb.mono d.o.size)⟩

set_option maxHeartbeats 2000000 in
theorem awake_core (ec : Int → Nat) (q r s t : Nat) (w : World)
    (hO : Hid (∀ (n : Int) (u : World), -9223372036854775808 ≤ n → n < 9223372036854775808 → Calls Try.prog 11 #[.int .i64 n] u fun e w' => e = .returned (.agg (cells8 (ec n))) ∧ Below u.heap.size u w'))
    (hDa : Hid (∀ u, Calls Try.prog 30 #[W (ec 7), W (ec (-2))] u fun e w' => e = .returned (.tuple #[.agg (cells8 q), .agg (cells8 r), .bool true]) ∧ Below u.heap.size u w'))
    (hDb : Hid (∀ u, Calls Try.prog 30 #[W (ec 7), W (ec 0)] u fun e w' => e = .returned (.tuple #[.agg (cells8 0), .agg (cells8 0), .bool false]) ∧ Below u.heap.size u w'))
    (hSq : Hid (∀ u, Calls Try.prog 32 #[W (ec 8)] u fun e w' => e = .returned (.tuple #[.agg (cells8 s), .bool true]) ∧ Below u.heap.size u w'))
    (hS4 : Hid (∀ u, Calls Try.prog 10 #[.int .i64 (-4)] u fun e w' => e = .returned (.agg (cells8 q)) ∧ Below u.heap.size u w'))
    (hS1 : Hid (∀ u, Calls Try.prog 10 #[.int .i64 (-1)] u fun e w' => e = .returned (.agg (cells8 r)) ∧ Below u.heap.size u w'))
    (hS2 : Hid (∀ u, Calls Try.prog 10 #[.int .i64 2] u fun e w' => e = .returned (.agg (cells8 s)) ∧ Below u.heap.size u w'))
    (hS3 : Hid (∀ u, Calls Try.prog 10 #[.int .i64 (-3)] u fun e w' => e = .returned (.agg (cells8 t)) ∧ Below u.heap.size u w'))
    (hSh : Hid (∀ u, Calls Try.prog 28 #[W (ec (-5)), .int .i64 1] u fun e w' => e = .returned (.agg (cells8 t)) ∧ Below u.heap.size u w'))
    (hB : Hid (∀ u, Calls Try.prog 16 #[W (ec (-4))] u fun e w' => e = .returned (.int .i64 3) ∧ Below u.heap.size u w')) :
    Calls Try.prog 18 #[] w fun e w' => e = .returned (.bool true) ∧ Below w.heap.size w w' := by
  go_enter Try.func18, Try.ntmps18
  have B := hide (Below.refl w.heap.size w)
  go_wp2_with (first
    | (go_at_call 11; refine (unhide hO _ _ (by decide) (by decide)).mono ?_; rintro e w1 ⟨he, hb⟩; subst he; first | have D := hide ((unhide D).keep hb) | have B := hide ((unhide B).trans (hb.mono (unhide B).size)); clear hb)
    | (go_at_call 30; with_reducible refine (unhide hDa _).mono ?_; rintro e w3 ⟨he, hb⟩; subst he; first | have D := hide ((unhide D).keep hb) | have B := hide ((unhide B).trans (hb.mono (unhide B).size)); clear hb)
    | (go_at_call 30; with_reducible refine (unhide hDb _).mono ?_; rintro e w7 ⟨he, hb⟩; subst he; first | have D := hide ((unhide D).keep hb) | have B := hide ((unhide B).trans (hb.mono (unhide B).size)); clear hb)
    | (go_at_call 32; refine (unhide hSq _).mono ?_; rintro e w10 ⟨he, hb⟩; subst he; first | have D := hide ((unhide D).keep hb) | have B := hide ((unhide B).trans (hb.mono (unhide B).size)); clear hb)
    | refine st8o (n := q) 25 (.tmp 1) (.tmp 13) rfl rfl rfl rfl iWide (Blk.first2 w3 25 _ _) rfl ?_
    | (refine st8o (n := r) 25 (.tmp 2) (.tmp 14) rfl rfl rfl rfl iWide ((Blk.second2 w3 25 _ _).rowOther _ (by omega)) rfl ?_
       have D : Hid (Aw2 w w3.heap.size q r ((((w3.alloc (.cells #[.int .u64 0, .int .u64 0, .int .u64 0, .int .u64 0, .int .u64 0, .int .u64 0, .int .u64 0, .int .u64 0] 25)).alloc (.cells #[.int .u64 0, .int .u64 0, .int .u64 0, .int .u64 0, .int .u64 0, .int .u64 0, .int .u64 0, .int .u64 0] 25)).setRow w3.heap.size (cells8 q)).setRow (w3.heap.size + 1) (cells8 r))) := ⟨((Blk.first2 w3 25 _ _).row _).rowOther _ (by omega), ((Blk.second2 w3 25 _ _).rowOther _ (by omega)).row _, (unhide B).trans ((two_new w3 _ _ _ _).mono (unhide B).size)⟩
       clear B
       generalize ((((w3.alloc (.cells #[.int .u64 0, .int .u64 0, .int .u64 0, .int .u64 0, .int .u64 0, .int .u64 0, .int .u64 0, .int .u64 0] 25)).alloc (.cells #[.int .u64 0, .int .u64 0, .int .u64 0, .int .u64 0, .int .u64 0, .int .u64 0, .int .u64 0, .int .u64 0] 25)).setRow w3.heap.size (cells8 q)).setRow (w3.heap.size + 1) (cells8 r)) = w4 at D ⊢
       generalize w3.heap.size = g at D ⊢)
    | refine st8o (n := 0) 25 (.tmp 4) (.tmp 20) rfl rfl rfl rfl iWide (Blk.first2 w7 25 _ _) rfl ?_
    | (refine st8o (n := 0) 25 (.tmp 5) (.tmp 21) rfl rfl rfl rfl iWide ((Blk.second2 w7 25 _ _).rowOther _ (by omega)) rfl ?_
       have D := hide ((unhide D).keep (two_new w7 (.cells #[.int .u64 0, .int .u64 0, .int .u64 0, .int .u64 0, .int .u64 0, .int .u64 0, .int .u64 0, .int .u64 0] 25) (.cells #[.int .u64 0, .int .u64 0, .int .u64 0, .int .u64 0, .int .u64 0, .int .u64 0, .int .u64 0, .int .u64 0] 25) (cells8 0) (cells8 0)))
       generalize ((((w7.alloc (.cells #[.int .u64 0, .int .u64 0, .int .u64 0, .int .u64 0, .int .u64 0, .int .u64 0, .int .u64 0, .int .u64 0] 25)).alloc (.cells #[.int .u64 0, .int .u64 0, .int .u64 0, .int .u64 0, .int .u64 0, .int .u64 0, .int .u64 0, .int .u64 0] 25)).setRow w7.heap.size (cells8 0)).setRow (w7.heap.size + 1) (cells8 0)) = w8 at D ⊢
       generalize w7.heap.size = g7)
    | refine st8new (n := s) 25 (.tmp 7) (.tmp 26) rfl rfl rfl rfl rfl iWide ?_)
  have D : Hid (Aw w g (g + 1) w10.heap.size q r s (w10.alloc (.cells (cells8 s) 25)).drew) :=
    ⟨((unhide D).q.alloc _).drew, ((unhide D).r.alloc _).drew, (Blk.new _ _ _).drew, ((unhide D).o.alloc (unhide D).o.size _).drew⟩
  generalize w10.heap.size = g10 at D ⊢
  refine region_plan (S := Aw w g (g + 1) g10 q r s) (l := [0, 1, 2, 3, 4, 5, 6, 7, 8, 9, 10, 11, 12, 13, 14, 15, 16, 17, 18, 19, 20, 21, 22, 23, 24, 25, 26, 27, 28, 29, 30, 31, 32, 33, 34]) (by kernel_rfl) (by kernel_rfl) (by kernel_rfl) (by kernel_rfl) (by kernel_rfl) (by kernel_rfl) (by kernel_rfl) (unhide D) ?_
  clear D
  refine plan_read (v := ?_) rfl rfl (fun u hS => by go_simp; rfl) ?_
  refine plan_read (v := ?_) rfl rfl (fun u hS => by go_simp; rfl) ?_
  go_simp
  refine plan_read rfl rfl (fun u hS => exec_load8 25 (.tmp 1) hS.q rfl rfl Try.underlying25 rfl iWide) ?_
  refine plan_call (v := .agg (cells8 q)) (f := 10) (args := #[.int .i64 (-4)]) rfl rfl (fun u hS => by go_simp) (fun u hS => (unhide hS4 u).mono fun _ _ ⟨he, hb⟩ => ⟨he, hS.keep hb⟩) ?_
  go_simp
  refine plan_read (v := .bool true) rfl rfl (fun u hS => exec_eql_wide_is (n := q) (m := q) (b := true) _ (.tmp 30) (.tmp 31) (same_self _) rfl rfl rfl) ?_
  go_simp
  refine plan_read (v := ?_) rfl rfl (fun u hS => by go_simp; rfl) ?_
  refine plan_read (v := ?_) rfl rfl (fun u hS => by go_simp; rfl) ?_
  go_simp
  refine plan_read rfl rfl (fun u hS => exec_load8 25 (.tmp 2) hS.r rfl rfl Try.underlying25 rfl iWide) ?_
  refine plan_call (v := .agg (cells8 r)) (f := 10) (args := #[.int .i64 (-1)]) rfl rfl (fun u hS => by go_simp) (fun u hS => (unhide hS1 u).mono fun _ _ ⟨he, hb⟩ => ⟨he, hS.keep hb⟩) ?_
  go_simp
  refine plan_read (v := .bool true) rfl rfl (fun u hS => exec_eql_wide_is (n := r) (m := r) (b := true) _ (.tmp 35) (.tmp 36) (same_self _) rfl rfl rfl) ?_
  go_simp
  refine plan_read (v := ?_) rfl rfl (fun u hS => by go_simp; rfl) ?_
  refine plan_read (v := ?_) rfl rfl (fun u hS => by go_simp; rfl) ?_
  go_simp
  refine plan_read (v := ?_) rfl rfl (fun u hS => by go_simp; rfl) ?_
  refine plan_read (v := ?_) rfl rfl (fun u hS => by go_simp; rfl) ?_
  go_simp
  refine plan_read (v := ?_) rfl rfl (fun u hS => by go_simp; rfl) ?_
  refine plan_read (v := ?_) rfl rfl (fun u hS => by go_simp; rfl) ?_
  go_simp
  refine plan_read (v := ?_) rfl rfl (fun u hS => by go_simp; rfl) ?_
  refine plan_read (v := ?_) rfl rfl (fun u hS => by go_simp; rfl) ?_
  refine plan_read (v := ?_) rfl rfl (fun u hS => by go_simp; rfl) ?_
  go_simp
  refine plan_read rfl rfl (fun u hS => exec_load8 25 (.tmp 7) hS.s rfl rfl Try.underlying25 rfl iWide) ?_
  refine plan_call (v := .agg (cells8 s)) (f := 10) (args := #[.int .i64 2]) rfl rfl (fun u hS => by go_simp) (fun u hS => (unhide hS2 u).mono fun _ _ ⟨he, hb⟩ => ⟨he, hS.keep hb⟩) ?_
  go_simp
  refine plan_read (v := .bool true) rfl rfl (fun u hS => exec_eql_wide_is (n := s) (m := s) (b := true) _ (.tmp 47) (.tmp 48) (same_self _) rfl rfl rfl) ?_
  go_simp
  refine plan_read (v := ?_) rfl rfl (fun u hS => by go_simp; rfl) ?_
  refine plan_read (v := ?_) rfl rfl (fun u hS => by go_simp; rfl) ?_
  go_simp
  refine plan_call (v := .agg (cells8 (ec (-5)))) (f := 11) (args := #[.int .i64 (-5)]) rfl rfl (fun u hS => by go_simp) (fun u hS => (unhide hO (-5) u (by decide) (by decide)).mono fun _ _ ⟨he, hb⟩ => ⟨he, hS.keep hb⟩) ?_
  go_simp
  refine plan_call (v := .agg (cells8 t)) (f := 28) (args := #[W (ec (-5)), .int .i64 1]) rfl rfl (fun u hS => by go_simp) (fun u hS => (unhide hSh u).mono fun _ _ ⟨he, hb⟩ => ⟨he, hS.keep hb⟩) ?_
  go_simp
  refine plan_call (v := .agg (cells8 t)) (f := 10) (args := #[.int .i64 (-3)]) rfl rfl (fun u hS => by go_simp) (fun u hS => (unhide hS3 u).mono fun _ _ ⟨he, hb⟩ => ⟨he, hS.keep hb⟩) ?_
  go_simp
  refine plan_read (v := .bool true) rfl rfl (fun u hS => exec_eql_wide_is (n := t) (m := t) (b := true) _ (.tmp 53) (.tmp 54) (same_self _) rfl rfl rfl) ?_
  go_simp
  refine plan_read (v := ?_) rfl rfl (fun u hS => by go_simp; rfl) ?_
  refine plan_read (v := ?_) rfl rfl (fun u hS => by go_simp; rfl) ?_
  go_simp
  refine plan_call (v := .agg (cells8 (ec (-4)))) (f := 11) (args := #[.int .i64 (-4)]) rfl rfl (fun u hS => by go_simp) (fun u hS => (unhide hO (-4) u (by decide) (by decide)).mono fun _ _ ⟨he, hb⟩ => ⟨he, hS.keep hb⟩) ?_
  go_simp
  refine plan_call (v := .int .i64 3) (f := 16) (args := #[W (ec (-4))]) rfl rfl (fun u hS => by go_simp) (fun u hS => (unhide hB u).mono fun _ _ ⟨he, hb⟩ => ⟨he, hS.keep hb⟩) ?_
  go_simp
  refine plan_read (v := ?_) rfl rfl (fun u hS => by go_simp; rfl) ?_
  refine plan_read (v := ?_) rfl rfl (fun u hS => by go_simp; rfl) ?_
  go_simp
  refine plan_read (v := ?_) rfl rfl (fun u hS => by go_simp; rfl) ?_
  go_simp
  refine plan_end (fun u hS => ?_)
  have O := hide hS.o
  clear hS
  go_wp2
  go_ret
  exact ⟨rfl, unhide O⟩

end Go.Proofs.Ytfoojpfgeicolaa
