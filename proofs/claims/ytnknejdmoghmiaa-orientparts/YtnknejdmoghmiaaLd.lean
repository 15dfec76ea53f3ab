/- Package orient: Volume; the law OrientParts. The law OrientParts. -/
import Derived.Test.YtnknejdmoghmiaaHo
import Derived.Test.YtnknejdmoghmiaaHs
import Derived.Test.YtnknejdmoghmiaaHu
namespace Go.Proofs.Ytnknejdmoghmiaa
open Go.RowKit
set_option maxRecDepth 4000
set_option linter.unusedVariables false

theorem volF_7 (A : Option Addr) (n c : Nat) (w : World)
    (hR : Hid (∀ u, Below w.heap.size w u → Calls Try.prog 105 #[.int .i64 8, .func (Fn.func 110) #[] #[], .slice A n c] u fun x w' => x = .returned (.int .i64 7) ∧ Below u.heap.size u w')) :
    Calls Try.prog 56 #[.slice A n c] w fun e w' => e = .returned (.tuple #[.agg (cells8 0), .int .i64 7]) ∧ Below w.heap.size w w' := by
  go_enter Try.func56, Try.ntmps56
  go_upto_region 1 with fail
  have D := hide ((Gen.start w).push 40 z8)
  go_wp2_with (first | (go_at_call 105; with_reducible refine (unhide hR _ (unhide D).o).mono ?_; rintro e w' ⟨he, hb⟩; subst he; have D := hide ((unhide D).keep hb); clear hb) | (with_reducible refine at_list ?_;  refine wpList_value rfl (exec_build0 _ 40 rfl bWide0) ?_) | (with_reducible refine at_list ?_; apply stGend (unhide D) rWide _ _ rfl rfl rfl rfl (by repeat (first | exact List.mem_cons_self | apply List.mem_cons_of_mem)) (by omega) rfl rfl (cells8_one _); intro B O))
  exact resGT rWide (unhide B) rfl rfl rfl rfl rfl ⟨rfl, unhide O⟩
theorem volF_8 (A : Option Addr) (n c : Nat) (w : World)
    (hR : Hid (∀ u, Below w.heap.size w u → Calls Try.prog 105 #[.int .i64 8, .func (Fn.func 110) #[] #[], .slice A n c] u fun x w' => x = .returned (.int .i64 8) ∧ Below u.heap.size u w')) :
    Calls Try.prog 56 #[.slice A n c] w fun e w' => e = .returned (.tuple #[.agg (cells8 0), .int .i64 8]) ∧ Below w.heap.size w w' := by
  go_enter Try.func56, Try.ntmps56
  go_upto_region 1 with fail
  have D := hide ((Gen.start w).push 40 z8)
  go_wp2_with (first | (go_at_call 105; with_reducible refine (unhide hR _ (unhide D).o).mono ?_; rintro e w' ⟨he, hb⟩; subst he; have D := hide ((unhide D).keep hb); clear hb) | (with_reducible refine at_list ?_;  refine wpList_value rfl (exec_build0 _ 40 rfl bWide0) ?_) | (with_reducible refine at_list ?_; apply stGend (unhide D) rWide _ _ rfl rfl rfl rfl (by repeat (first | exact List.mem_cons_self | apply List.mem_cons_of_mem)) (by omega) rfl rfl (cells8_one _); intro B O))
  exact resGT rWide (unhide B) rfl rfl rfl rfl rfl ⟨rfl, unhide O⟩
set_option maxHeartbeats 2000000 in
theorem volF_0 (g off c : Nat) (q0 q1 q2 q3 : Pt) (v : Nat) (w : World) (hg : g < w.heap.size)
    (r0 : Hid (w.rangeAt g (off + 0 * 3) (v3 q0.1 q0.2.1 q0.2.2).toList)) (r1 : Hid (w.rangeAt g (off + 1 * 3) (v3 q1.1 q1.2.1 q1.2.2).toList)) (r2 : Hid (w.rangeAt g (off + 2 * 3) (v3 q2.1 q2.2.1 q2.2.2).toList)) (r3 : Hid (w.rangeAt g (off + 3 * 3) (v3 q3.1 q3.2.1 q3.2.2).toList))
    (hR : Hid (∀ u, Below w.heap.size w u → Calls Try.prog 105 #[.int .i64 8, .func (Fn.func 110) #[] #[], .slice (some ⟨g, off, none⟩) 4 c] u fun x w' => x = .returned (.int .i64 0) ∧ Below u.heap.size u w'))
    (hV : Hid (Ans 107 #[.agg (v3 q0.1 q0.2.1 q0.2.2), .agg (v3 q1.1 q1.2.1 q1.2.2), .agg (v3 q2.1 q2.2.1 q2.2.2), .agg (v3 q3.1 q3.2.1 q3.2.2)] (.agg (cells8 v)))) :
    Calls Try.prog 56 #[.slice (some ⟨g, off, none⟩) 4 c] w fun e w' => e = .returned (.tuple #[.agg (cells8 v), .int .i64 0]) ∧ Below w.heap.size w w' := by
  go_enter Try.func56, Try.ntmps56
  go_upto_region 1 with fail
  have D := hide ((Gen.start w).push 40 z8)
  go_upto_region 4 with (first | (go_at_call 105; with_reducible refine (unhide hR _ (unhide D).o).mono ?_; rintro e w' ⟨he, hb⟩; subst he; have D := hide ((unhide D).keep hb); clear hb))
  have D1 : Hid (Gen w [(w.heap.size, 40, bif false then cells8 v else z8)] w') := unhide D
  clear D hR
  refine region_planT (t := 13) (S := fun b u => Gen w [(w.heap.size, 40, bif b then cells8 v else z8)] u) (l := [0, 1, 2, 3, 4, 5, 6, 7, 8, 9, 10, 11, 12, 13, 14]) (by kernel_rfl) (by kernel_rfl) (by kernel_rfl) (by kernel_rfl) (by kernel_rfl) (by kernel_rfl) (by kernel_rfl) (by decide) (unhide D1).drew ?_
  clear D1
  refine planT_read (v := .slice (some ⟨g, off, none⟩) 4 c) rfl (by decide) rfl (fun b u hS => by go_simp) ?_
  go_simp
  refine planT_read (v := .pointer (some ⟨g, off + 0 * 3, none⟩)) rfl (by decide) rfl (fun b u hS => exec_ixP (g := g) (off := off) (n := 4) (c := c) (i := 0) u elPoints _ _ (by decide) rfl rfl rfl) ?_
  go_simp
  refine planT_read (v := .agg (v3 q0.1 q0.2.1 q0.2.2)) rfl (by decide) rfl (fun b u hS => exec_ldP (g := g) (k := off + 0 * 3) _ rfl rfl (at_below (unhide r0) hS.o hg)) ?_
  go_simp
  refine planT_read (v := .slice (some ⟨g, off, none⟩) 4 c) rfl (by decide) rfl (fun b u hS => by go_simp) ?_
  go_simp
  refine planT_read (v := .pointer (some ⟨g, off + 1 * 3, none⟩)) rfl (by decide) rfl (fun b u hS => exec_ixP (g := g) (off := off) (n := 4) (c := c) (i := 1) u elPoints _ _ (by decide) rfl rfl rfl) ?_
  go_simp
  refine planT_read (v := .agg (v3 q1.1 q1.2.1 q1.2.2)) rfl (by decide) rfl (fun b u hS => exec_ldP (g := g) (k := off + 1 * 3) _ rfl rfl (at_below (unhide r1) hS.o hg)) ?_
  go_simp
  refine planT_read (v := .slice (some ⟨g, off, none⟩) 4 c) rfl (by decide) rfl (fun b u hS => by go_simp) ?_
  go_simp
  refine planT_read (v := .pointer (some ⟨g, off + 2 * 3, none⟩)) rfl (by decide) rfl (fun b u hS => exec_ixP (g := g) (off := off) (n := 4) (c := c) (i := 2) u elPoints _ _ (by decide) rfl rfl rfl) ?_
  go_simp
  refine planT_read (v := .agg (v3 q2.1 q2.2.1 q2.2.2)) rfl (by decide) rfl (fun b u hS => exec_ldP (g := g) (k := off + 2 * 3) _ rfl rfl (at_below (unhide r2) hS.o hg)) ?_
  go_simp
  refine planT_read (v := .slice (some ⟨g, off, none⟩) 4 c) rfl (by decide) rfl (fun b u hS => by go_simp) ?_
  go_simp
  refine planT_read (v := .pointer (some ⟨g, off + 3 * 3, none⟩)) rfl (by decide) rfl (fun b u hS => exec_ixP (g := g) (off := off) (n := 4) (c := c) (i := 3) u elPoints _ _ (by decide) rfl rfl rfl) ?_
  go_simp
  refine planT_read (v := .agg (v3 q3.1 q3.2.1 q3.2.2)) rfl (by decide) rfl (fun b u hS => exec_ldP (g := g) (k := off + 3 * 3) _ rfl rfl (at_below (unhide r3) hS.o hg)) ?_
  go_simp
  refine planT_keep (v := .agg (cells8 v)) (f := 107) (args := #[.agg (v3 q0.1 q0.2.1 q0.2.2), .agg (v3 q1.1 q1.2.1 q1.2.2), .agg (v3 q2.1 q2.2.1 q2.2.2), .agg (v3 q3.1 q3.2.1 q3.2.2)]) rfl (by decide) rfl (fun b u hS => by go_simp) (fun b u hS => (unhide hV u).mono fun _ _ ⟨he, hb⟩ => ⟨he, hS.keep hb⟩) ?_
  go_simp
  refine planT_store rfl rfl (fun u hS => ⟨_, exec_store8 (n := v) 40 (.tmp 2) (.tmp 23) (hS.blk (g := w.heap.size) (t := 40) (cs := z8) (by repeat (first | exact List.mem_cons_self | apply List.mem_cons_of_mem))) rfl rfl rfl rfl iWide, ⟨fun k hk => ?_, below_row hS.o (Nat.le_refl _) _⟩⟩) ?_
  · simp only [List.mem_cons, List.not_mem_nil, or_false] at hk
    rcases hk with rfl
    exact (hS.blk (g := w.heap.size) (t := 40) (cs := z8) (by repeat (first | exact List.mem_cons_self | apply List.mem_cons_of_mem))).row _
  go_simp
  refine planT_read (v := ?_) rfl (by decide) rfl (fun b u hS => by go_simp; rfl) ?_
  go_simp
  refine planT_end (fun u hS => ?_)
  have B := hide (hS.blk (g := w.heap.size) (t := 40) (cs := cells8 v) (by repeat (first | exact List.mem_cons_self | apply List.mem_cons_of_mem)))
  have O := hide hS.o
  clear hS
  go_wp2
  exact resGT rWide (unhide B) rfl rfl rfl rfl rfl ⟨rfl, unhide O⟩
/-- Volume. -/
def vlE (n : Nat) (ps : Nat → Pt) : Int := bif allQ n ps then (bif (n : Int) == 4 then 0 else 8) else 7
def vlI (n : Nat) (ps : Nat → Pt) : Int := if vlE n ps = 0 then volP (ps 0) (ps 1) (ps 2) (ps 3) else 0
theorem vlE_cases (n : Nat) (ps : Nat → Pt) : (vlE n ps = 0 ∧ allQ n ps = true ∧ n = 4) ∨ vlE n ps = 7 ∨ vlE n ps = 8 := by
  unfold vlE
  cases allQ n ps
  · exact .inr (.inl rfl)
  · cases h : ((n : Int) == 4)
    · exact .inr (.inr rfl)
    · exact .inl ⟨rfl, rfl, by have := of_decide_eq_true h; omega⟩
theorem VolumeO (A : Option Addr) (n c : Nat) (ps : Nat → Pt) (w : World) (hn : n ≤ 9223372036854775807) (hP : PRow w A n ps) :
    Calls Try.prog 56 #[.slice A n c] w fun e w' => e = .returned (.tuple #[V (vlI n ps), .int .i64 (vlE n ps)]) ∧ Below w.heap.size w w' := by
  have hR := fun (E : Int) (hE : vlE n ps = E) u (hu : Below w.heap.size w u) => by
    have := RefFour 8 A n c ps u hn (hP.below hu)
    rw [show (bif allQ n ps then (bif (n : Int) == 4 then 0 else 8) else 7) = E from hE] at this
    exact this
  unfold vlI
  rcases vlE_cases n ps with ⟨h, ha, rfl⟩ | h | h
  · rw [h, if_pos rfl]
    obtain ⟨g, off, rfl, hg, hr⟩ := hP.resolve_left (by decide)
    have hq := allQ_iff.1 ha
    exact volF_0 g off c (ps 0) (ps 1) (ps 2) (ps 3) _ w hg (hr 0 (by decide)) (hr 1 (by decide)) (hr 2 (by decide)) (hr 3 (by decide)) (hR 0 h) (VolO _ _ _ _ _ _ _ _ _ _ _ _ (hq 0 (by decide)) (hq 1 (by decide)) (hq 2 (by decide)) (hq 3 (by decide)))
  · rw [h, if_neg (by decide)]
    exact volF_7 A n c w (hR 7 h)
  · rw [h, if_neg (by decide)]
    exact volF_8 A n c w (hR 8 h)

end Go.Proofs.Ytnknejdmoghmiaa

namespace Go.Proofs.Ytnknejdmoghmiaa
open Go.RowKit
set_option maxRecDepth 4000
set_option linter.unusedVariables false

theorem vol_szP {a b c d : Pt} (ha : chkQ a = true) (hb : chkQ b = true) (hc : chkQ c = true) (hd : chkQ d = true) : Sz 192 (volP a b c d) := by
  obtain ⟨u1, u2, u3⟩ := less64 hb ha
  obtain ⟨x1, x2, x3⟩ := less64 hc ha
  obtain ⟨y1, y2, y3⟩ := less64 hd ha
  unfold volP volI detI
  have s1 := (cross_sz u2 x3 u3 x2).mul y1.sz
  have s2 := (cross_sz u3 x1 u1 x3).mul y2.sz
  have s3 := (cross_sz u1 x2 u2 x1).mul y3.sz
  exact (s1.add s2).add (s3.mono (by decide))
theorem vol_parts (a b c d p : Pt) : volP p b c d + volP a p c d + (volP a b p d + volP a b c p) = volP a b c d := by
  obtain ⟨a1, a2, a3⟩ := a
  obtain ⟨b1, b2, b3⟩ := b
  obtain ⟨c1, c2, c3⟩ := c
  obtain ⟨d1, d2, d3⟩ := d
  obtain ⟨p1, p2, p3⟩ := p
  simp only [volP, volI, detI]
  grind
def vo4 (a b c d : Pt) : Int := bif fourB a b c d then volP a b c d else 0
theorem VolF4 (a b c d : Pt) (u : World) (g : Nat) (hb : Blk u g 26 (w12 a.1 a.2.1 a.2.2 b.1 b.2.1 b.2.2 c.1 c.2.1 c.2.2 d.1 d.2.1 d.2.2)) : Calls Try.prog 56 #[.slice (some ⟨g, 0, none⟩) 4 4] u fun e w' => e = .returned (.tuple #[.agg (cells8 (enc (vo4 a b c d))), .int .i64 (sdE a b c d)]) ∧ Below u.heap.size u w' := by
  have h := VolumeO (some ⟨g, 0, none⟩) 4 4 _ u (by decide) (PRow.four hb)
  have hq : allQ 4 (nthP [(a.1, a.2.1, a.2.2), (b.1, b.2.1, b.2.2), (c.1, c.2.1, c.2.2), (d.1, d.2.1, d.2.2)]) = fourB a b c d := allQ4 _ _ _ _ _ _ _ _ _ _ _ _
  have hE : vlE 4 (nthP [(a.1, a.2.1, a.2.2), (b.1, b.2.1, b.2.2), (c.1, c.2.1, c.2.2), (d.1, d.2.1, d.2.2)]) = sdE a b c d := by
    unfold vlE sdE
    rw [hq]
    rfl
  have hI : vlI 4 (nthP [(a.1, a.2.1, a.2.2), (b.1, b.2.1, b.2.2), (c.1, c.2.1, c.2.2), (d.1, d.2.1, d.2.2)]) = vo4 a b c d := by
    unfold vlI vo4
    rw [hE]
    unfold sdE
    cases fourB a b c d
    · exact if_neg (by decide)
    · exact if_pos rfl
  rw [hE, hI] at h
  exact h
theorem parts_cases (a b c d p : Pt) : (sdE a b c d = 7 ∧ sdE p b c d = 0) ∨ (sdE a b c d = 7 ∧ sdE p b c d = 7) ∨ (sdE a b c d = 0 ∧ sdE p b c d = 7) ∨ (chkQ a = true ∧ chkQ b = true ∧ chkQ c = true ∧ chkQ d = true ∧ chkQ p = true) := by
  unfold sdE fourB
  cases chkQ a <;> cases chkQ b <;> cases chkQ c <;> cases chkQ d <;> cases chkQ p <;> simp
theorem addT (x y : Int) (hx : Fit x) (hy : Fit y) (h : Fit (x + y)) : Ans 67 #[.agg (cells8 (enc x)), .agg (cells8 (enc y))] (.tuple #[.agg (cells8 (enc (x + y))), .bool true]) := fun w => by
  have := AddZ x y hx hy w
  rw [toldZ_fit h] at this
  exact this
theorem four_yes {a b c d : Pt} (ha : chkQ a = true) (hb : chkQ b = true) (hc : chkQ c = true) (hd : chkQ d = true) : vo4 a b c d = volP a b c d ∧ sdE a b c d = 0 := by
  unfold vo4 sdE fourB
  rw [ha, hb, hc, hd]
  exact ⟨rfl, rfl⟩
theorem orientParts_all (a b c d p : Pt) : Ans 21 #[.agg (v3 a.1 a.2.1 a.2.2), .agg (v3 b.1 b.2.1 b.2.2), .agg (v3 c.1 c.2.1 c.2.2), .agg (v3 d.1 d.2.1 d.2.2), .agg (v3 p.1 p.2.1 p.2.2)] (.bool true) := fun w => by
  have h0 := VolF4 a b c d
  have h1 := VolF4 p b c d
  have h2 := VolF4 a p c d
  have h3 := VolF4 a b p d
  have h4 := VolF4 a b c p
  rcases parts_cases a b c d p with ⟨e0, e1⟩ | ⟨e0, e1⟩ | ⟨e0, e1⟩ | ⟨ka, kb, kc, kd, kp⟩
  · rw [e0] at h0
    rw [e1] at h1
    exact parts_70 a b c d p _ _ _ _ _ _ _ _ w h0 h1 h2 h3 h4 awake7Z
  · rw [e0] at h0
    rw [e1] at h1
    exact parts_77 a b c d p _ _ _ _ _ _ _ _ w h0 h1 h2 h3 h4 awake7Z
  · rw [e0] at h0
    rw [e1] at h1
    exact parts_07 a b c d p _ _ _ _ _ _ _ _ w h0 h1 h2 h3 h4 awake7Z
  · obtain ⟨i0, e0⟩ := four_yes ka kb kc kd
    obtain ⟨i1, e1⟩ := four_yes kp kb kc kd
    obtain ⟨i2, e2⟩ := four_yes ka kp kc kd
    obtain ⟨i3, e3⟩ := four_yes ka kb kp kd
    obtain ⟨i4, e4⟩ := four_yes ka kb kc kp
    rw [i0, e0] at h0
    rw [i1, e1] at h1
    rw [i2, e2] at h2
    rw [i3, e3] at h3
    rw [i4, e4] at h4
    have s1 := vol_szP kp kb kc kd
    have s2 := vol_szP ka kp kc kd
    have s3 := vol_szP ka kb kp kd
    have s4 := vol_szP ka kb kc kp
    have s12 := s1.add s2
    have s34 := s3.add s4
    refine parts_00 a b c d p _ _ _ _ _ _ _ _ w h0 h1 h2 h3 h4 (addT _ _ (s1.fit (by decide)) (s2.fit (by decide)) (s12.fit (by decide))) (addT _ _ (s3.fit (by decide)) (s4.fit (by decide)) (s34.fit (by decide))) (addT _ _ (s12.fit (by decide)) (s34.fit (by decide)) ((s12.add s34).fit (by decide))) ?_ awake7Z
    rw [vol_parts]
    exact decide_eq_true rfl

end Go.Proofs.Ytnknejdmoghmiaa
