/- The law OrientParts. -/
import Derived.Test.YtnknejdmoghmiaaHr
import Derived.Test.YtnknejdmoghmiaaHs
import Derived.Test.YtnknejdmoghmiaaHu
namespace Go.Proofs.Ytnknejdmoghmiaa
open Go.RowKit
set_option maxRecDepth 4000
set_option linter.unusedVariables false

theorem vol_szP {a b c d : Pt} (ha : chkQ a = true) (hb : chkQ b = true) (hc : chkQ c = true) (hd : chkQ d = true) : Sz 192 (volP a b c d) := by
  obtain ⟨u1, u2, u3⟩ := less64 hb ha
  obtain ⟨x1, x2, x3⟩ := less64 hc ha
  obtain ⟨y1, y2, y3⟩ := less64 hd ha
  unfold volP volI detI
  have s1 := (cross_sz u2 x3 u3 x2).mul y1.sz
  have s2 := (cross_sz u3 x1 u1 x3).mul y2.sz
  have s3 := (cross_sz u1 x2 u2 x1).mul y3.sz
  exact (s1.add s2).add (s3.mono (by decide))
theorem vol_parts (a b c d p : Pt) : volP p b c d + volP a p c d + (volP a b p d + volP a b c p) = volP a b c d := by
  obtain ⟨a1, a2, a3⟩ := a
  obtain ⟨b1, b2, b3⟩ := b
  obtain ⟨c1, c2, c3⟩ := c
  obtain ⟨d1, d2, d3⟩ := d
  obtain ⟨p1, p2, p3⟩ := p
  simp only [volP, volI, detI]
  grind
def vo4 (a b c d : Pt) : Int := bif fourB a b c d then volP a b c d else 0
theorem VolF4 (a b c d : Pt) (u : World) (g : Nat) (hb : Blk u g 26 (w12 a.1 a.2.1 a.2.2 b.1 b.2.1 b.2.2 c.1 c.2.1 c.2.2 d.1 d.2.1 d.2.2)) : Calls Try.prog 56 #[.slice (some ⟨g, 0, none⟩) 4 4] u fun e w' => e = .returned (.tuple #[.agg (cells8 (enc (vo4 a b c d))), .int .i64 (sdE a b c d)]) ∧ Below u.heap.size u w' := by
  have h := VolumeO (some ⟨g, 0, none⟩) 4 4 _ u (by decide) (PRow.four hb)
  have hq : allQ 4 (nthP [(a.1, a.2.1, a.2.2), (b.1, b.2.1, b.2.2), (c.1, c.2.1, c.2.2), (d.1, d.2.1, d.2.2)]) = fourB a b c d := allQ4 _ _ _ _ _ _ _ _ _ _ _ _
  have hE : vlE 4 (nthP [(a.1, a.2.1, a.2.2), (b.1, b.2.1, b.2.2), (c.1, c.2.1, c.2.2), (d.1, d.2.1, d.2.2)]) = sdE a b c d := by
    unfold vlE sdE
    rw [hq]
    rfl
  have hI : vlI 4 (nthP [(a.1, a.2.1, a.2.2), (b.1, b.2.1, b.2.2), (c.1, c.2.1, c.2.2), (d.1, d.2.1, d.2.2)]) = vo4 a b c d := by
    unfold vlI vo4
    rw [hE]
    unfold sdE
    cases fourB a b c d
    · exact if_neg (by decide)
    · exact if_pos rfl
  rw [hE, hI] at h
  exact h
theorem parts_cases (a b c d p : Pt) : (sdE a b c d = 7 ∧ sdE p b c d = 0) ∨ (sdE a b c d = 7 ∧ sdE p b c d = 7) ∨ (sdE a b c d = 0 ∧ sdE p b c d = 7) ∨ (chkQ a = true ∧ chkQ b = true ∧ chkQ c = true ∧ chkQ d = true ∧ chkQ p = true) := by
  unfold sdE fourB
  cases chkQ a <;> cases chkQ b <;> cases chkQ c <;> cases chkQ d <;> cases chkQ p <;> simp
theorem addT (x y : Int) (hx : Fit x) (hy : Fit y) (h : Fit (x + y)) : Ans 67 #[.agg (cells8 (enc x)), .agg (cells8 (enc y))] (.tuple #[.agg (cells8 (enc (x + y))), .bool true]) := fun w => by
  have := AddZ x y hx hy w
  rw [toldZ_fit h] at this
  exact this
theorem four_yes {a b c d : Pt} (ha : chkQ a = true) (hb : chkQ b = true) (hc : chkQ c = true) (hd : chkQ d = true) : vo4 a b c d = volP a b c d ∧ sdE a b c d = 0 := by
  unfold vo4 sdE fourB
  rw [ha, hb, hc, hd]
  exact ⟨rfl, rfl⟩
theorem orientParts_all (a b c d p : Pt) : Ans 21 #[.agg (v3 a.1 a.2.1 a.2.2), .agg (v3 b.1 b.2.1 b.2.2), .agg (v3 c.1 c.2.1 c.2.2), .agg (v3 d.1 d.2.1 d.2.2), .agg (v3 p.1 p.2.1 p.2.2)] (.bool true) := fun w => by
  have h0 := VolF4 a b c d
  have h1 := VolF4 p b c d
  have h2 := VolF4 a p c d
  have h3 := VolF4 a b p d
  have h4 := VolF4 a b c p
  rcases parts_cases a b c d p with ⟨e0, e1⟩ | ⟨e0, e1⟩ | ⟨e0, e1⟩ | ⟨ka, kb, kc, kd, kp⟩
  · rw [e0] at h0
    rw [e1] at h1
    exact parts_70 a b c d p _ _ _ _ _ _ _ _ w h0 h1 h2 h3 h4 awake7Z
  · rw [e0] at h0
    rw [e1] at h1
    exact parts_77 a b c d p _ _ _ _ _ _ _ _ w h0 h1 h2 h3 h4 awake7Z
  · rw [e0] at h0
    rw [e1] at h1
    exact parts_07 a b c d p _ _ _ _ _ _ _ _ w h0 h1 h2 h3 h4 awake7Z
  · obtain ⟨i0, e0⟩ := four_yes ka kb kc kd
    obtain ⟨i1, e1⟩ := four_yes kp kb kc kd
    obtain ⟨i2, e2⟩ := four_yes ka kp kc kd
    obtain ⟨i3, e3⟩ := four_yes ka kb kp kd
    obtain ⟨i4, e4⟩ := four_yes ka kb kc kp
    rw [i0, e0] at h0
    rw [i1, e1] at h1
    rw [i2, e2] at h2
    rw [i3, e3] at h3
    rw [i4, e4] at h4
    have s1 := vol_szP kp kb kc kd
    have s2 := vol_szP ka kp kc kd
    have s3 := vol_szP ka kb kp kd
    have s4 := vol_szP ka kb kc kp
    have s12 := s1.add s2
    have s34 := s3.add s4
    refine parts_00 a b c d p _ _ _ _ _ _ _ _ w h0 h1 h2 h3 h4 (addT _ _ (s1.fit (by decide)) (s2.fit (by decide)) (s12.fit (by decide))) (addT _ _ (s3.fit (by decide)) (s4.fit (by decide)) (s34.fit (by decide))) (addT _ _ (s12.fit (by decide)) (s34.fit (by decide)) ((s12.add s34).fit (by decide))) ?_ awake7Z
    rw [vol_parts]
    exact decide_eq_true rfl

end Go.Proofs.Ytnknejdmoghmiaa
