/- A text that a closure appends to; package fix: Text. -/
import Derived.Test.YtlekbhdchkdnnaaGreatDoorFd
import Derived.Lib.AppendStr
import Derived.Laws.IdiomStrings
import Derived.ArgAppend
import Derived.Lib.BufferRead
namespace Go.Proofs.YtlekbhdchkdnnaaGreatDoor
open Go.RowKit
set_option maxRecDepth 4000
set_option linter.unusedVariables false

theorem iU8 : (Tryz.prog.info? 5).map (fun i => (i.zero, i.size, i.bytes)) = some (some (.int .u8 0), 1, 1) := by kernel_rfl
theorem iBytes : (Tryz.prog.info? 67).map (·.size) = some 1 := by kernel_rfl
def bs (l : List UInt8) : ByteArray := ⟨l.toArray⟩
def bc (l : List UInt8) : List Value := l.map fun b => .int .u8 (b.toNat : Int)
theorem bs_size (l : List UInt8) : (bs l).size = l.length := by show l.toArray.size = l.length; simp
theorem bs_cells (l : List UInt8) : Lib.strCells (bs l) = bc l := by unfold Lib.strCells bs bc; simp
theorem bc_append (l m : List UInt8) : bc (l ++ m) = bc l ++ bc m := by unfold bc; simp

/-- The block g holds the slice of a text, whose bytes are l. -/
structure Txt (w0 : World) (g : Nat) (l : List UInt8) (w : World) : Prop where
  v : ∃ v, Blk w g 67 #[v] ∧ w.ownsRow (g + 1) 5 1 v l.length (bc l)
  o : Below w0.heap.size w0 w
  g : w0.heap.size ≤ g
theorem Txt.keep {w0 w w' : World} {g : Nat} {l : List UInt8} (h : Txt w0 g l w) (hb : Below w.heap.size w w') : Txt w0 g l w' := by
  obtain ⟨v, hB, hown⟩ := h.v
  refine ⟨⟨v, hB.below hb hB.lt, ?_⟩, h.o.trans (hb.mono h.o.size), h.g⟩
  exact hown.kept ⟨hb.os, hb.tape, hb.output, hb.size, fun k hk _ => hb.block k hk⟩ (row := none) (by cases v.ownBlock <;> simp)
theorem Txt.start (w : World) : Txt w w.heap.size [] (w.alloc (.cells #[.slice none 0 0] 67)) :=
  ⟨⟨.slice none 0 0, Blk.new _ _ _, World.ownsRow_nil _ _ _ _⟩, (Below.refl _ _).alloc (Nat.le_refl _) _, Nat.le_refl _⟩

theorem info3 {P : Program} {t : TypeId} {z : Option Value} {s b : Nat} (h : (P.info? t).map (fun i => (i.zero, i.size, i.bytes)) = some (z, s, b)) : ∃ i, P.info? t = some i ∧ i.zero = z ∧ i.size = s ∧ i.bytes = b := by
  cases hi : P.info? t with
  | none => rw [hi] at h; cases h
  | some i => rw [hi] at h; simp at h; exact ⟨i, rfl, h.1, h.2.1, h.2.2⟩

theorem own_slice {w : World} {b n : Nat} {e : TypeId} {v : Value} {xs : List Value} (h : w.ownsRow b e 1 v n xs) : ∃ p n c, v = .slice p n c := by
  rcases h.2 with ⟨rfl, _⟩ | ⟨g, cap, cur, rfl, _⟩
  · exact ⟨_, _, _, rfl⟩
  · exact ⟨_, _, _, rfl⟩
theorem own_kept {w w' : World} {g n : Nat} {e t : TypeId} {v : Value} {xs : List Value} {cs : Array Value} (hB : Blk w g t cs) (h : w.ownsRow (g + 1) e 1 v n xs) (hg : w.grownBy w' v.ownBlock) : Blk w' g t cs := by
  refine (hg.block g hB.lt fun hc => ?_).trans hB
  have := (h.lt g hc.symm).1
  omega
theorem own_set {w : World} {g n : Nat} {e : TypeId} {v : Value} {xs : List Value} (h : w.ownsRow (g + 1) e 1 v n xs) (u : Value) : (w.setCell ⟨g, 0, none⟩ u).ownsRow (g + 1) e 1 v n xs := by
  refine ⟨h.1, ?_⟩
  rcases h.2 with hn | ⟨k, cap, cur, rfl, hb, hgg, rest⟩
  · exact .inl hn
  · refine .inr ⟨k, cap, cur, rfl, hb, ?_, rest⟩
    rw [Below.heap_setCell w ⟨g, 0, none⟩ u k (by show k ≠ g; omega)]
    exact hgg

theorem put_any (l m : List UInt8) (g : Nat) (w0 w : World) (h : Txt w0 g l w) (hl : l.length + m.length ≤ 1000) :
    Calls Tryz.prog 69 #[.string (bs m), .pointer (some ⟨g, 0, none⟩)] w fun e w' => e = .returned (.tuple #[]) ∧ Txt w0 g (l ++ m) w' := by
  obtain ⟨v, hB, hown⟩ := h.v
  obtain ⟨i, hi, hz0, hz1, hz2⟩ := info3 iU8
  have hg := h.g
  have ho := hide h.o
  have hc : w.cell? ⟨g, 0, none⟩ = some v := hB.cell 0
  have HB := hide hB
  have HO := hide hown
  have Hi := hide hi
  have Hz0 := hide hz0
  have Hz1 := hide hz1
  have Hz2 := hide hz2
  have Hm := hide (bs_size m)
  clear h hB hown hi hz0 hz1 hz2
  go_enter Tryz.func69, Tryz.ntmps69
  go_wp2_with (at_builtin; refine Lib.wpList_append_own_string w rfl (.tmp 3) (.tmp 4) 67 9 rfl (g + 1) 5 i Tryz.underlying67 Tryz.underlying9 (unhide Hi) (unhide Hz0) (unhide Hz1) (unhide Hz2) v l.length (bc l) rfl (unhide HO) (bs m) rfl (by rw [unhide Hm]; unfold maxLen; omega) (by rw [unhide Hm]; omega) (by have := (unhide HB).lt; omega) ?_; intro v' w' h1 h2 _; obtain ⟨p1, n1, c1, rfl⟩ := own_slice h1; have hB2 := hide (own_kept (unhide HB) (unhide HO) h2); have hc2 := (unhide hB2).cell 0; have hf2 := (unhide hB2).frozen 0; have H1 := hide h1; have H2 := hide h2; clear h1 h2)
  go_end0
  refine ⟨rfl, ⟨⟨_, (unhide hB2).set 0 _, ?_⟩, ?_, hg⟩⟩
  · have h3 := own_set (unhide H1) (.slice p1 n1 c1)
    rw [unhide Hm, bs_cells, ← bc_append, ← List.length_append] at h3
    exact h3
  · exact ((unhide ho).grown (unhide H2) (unhide ho).size (fun k hk => by have := (unhide HO).lt k hk; omega)).setCell hg _

/-- A sign of sixteen. -/
def hx (h : Nat) : UInt8 := UInt8.ofNat (if h < 10 then 48 + h else 87 + h)
/-- The first k signs of what is behind the point. -/
def hexes (n : Nat) : Nat → List UInt8
  | 0 => []
  | k + 1 => hexes n k ++ [hx (n / 16 ^ (7 - k) % 16)]
theorem hexes_len (n k : Nat) : (hexes n k).length = k := by
  induction k with
  | zero => rfl
  | succ k ih => simp [hexes, ih]
theorem sign_cut (h : Nat) (hh : h < 16) : (ByteArray.mk #[48, 49, 50, 51, 52, 53, 54, 55, 56, 57, 97, 98, 99, 100, 101, 102]).extract h (h + 1) = bs [hx h] := by
  have : ∀ h : Fin 16, (ByteArray.mk #[48, 49, 50, 51, 52, 53, 54, 55, 56, 57, 97, 98, 99, 100, 101, 102]).extract h.val (h.val + 1) = bs [hx h.val] := by decide
  exact this ⟨h, hh⟩
theorem u64w (z : Int) : IntKind.u64.wrap z = z % 18446744073709551616 := by simp [IntKind.wrap, IntKind.signed, IntKind.bits]
theorem text_end {w0 w : World} {g : Nat} {l : List UInt8} (h : Txt w0 g l w) : ∃ v, w.cell? ⟨g, 0, none⟩ = some v ∧ (convert 67 9 v).run Tryz.prog w = .ok (.string (bs l)) w := by
  obtain ⟨v, hB, hown⟩ := h.v
  refine ⟨v, hB.cell 0, ?_⟩
  rcases hown.2 with ⟨rfl, h0⟩ | ⟨k, cap, cur, rfl, hb, hgg, hn, hm, hs, ht⟩
  · obtain rfl : l = [] := List.length_eq_zero_iff.1 h0
    exact Lib.run_convert_nil_bytes w 67 9 5 0 Tryz.underlying67 Tryz.underlying5 Tryz.underlying9
  · refine run_convert_bytes_back w 67 9 5 ⟨k, 0, none⟩ cap l Tryz.underlying67 Tryz.underlying5 Tryz.underlying9 fun j hj => ?_
    rw [Addr.add_lit, Nat.zero_add, cell_of_row w k j cur 5 (0, 0) hgg]
    have h1 : cur[j]? = (cur.toList.take (l.length * 1))[j]? := by rw [List.getElem?_take, if_pos (by omega), Array.getElem?_toList]
    rw [h1, ht]
    unfold bc
    simp [hj]

set_option maxHeartbeats 2000000 in
theorem text_neg (a : Int) (n : Nat) (hn : n < 18446744073709551616) (d : List UInt8) (h : a < 0) (w : World) (hw : IntKind.u64.wrap (-IntKind.u64.wrap a) = (n : Int)) (hF : Hid (Ans 70 #[.int .u64 ((n : Int) / 4294967296), .int .i64 10] (.string (bs d)))) (hd : d.length ≤ 20) :
    Calls Tryz.prog 39 #[.int .i64 a] w fun e w' => e = .returned (.string (bs (([45] : List UInt8) ++ d ++ [46] ++ hexes n 8))) ∧ Below w.heap.size w w' := by
  have hP := hide put_any
  go_enter Tryz.func39, Tryz.ntmps39
  go_upto_region 2 with fail
  have T := hide (Txt.start w)
  generalize hgz : w.alloc (.cells #[.slice none 0 0] 67) = w1 at *
  clear hgz
  go_upto_region 7 with (go_at_call 69; refine (unhide hP [] [45] _ _ _ (unhide T) (by decide)).mono ?_; rintro e w' ⟨he, ht⟩; subst he; have T := hide ht; clear ht)
  clear hw
  go_upto_region 9 with (first | (go_at_call 70; with_reducible refine (unhide hF _).mono ?_; rintro e w2 ⟨he, hb⟩; subst he; have T := hide ((unhide T).keep hb); clear hb) | (go_at_call 69; first | (with_reducible refine (unhide hP _ d _ _ _ (unhide T) (by simp; omega)).mono ?_; rintro e w3 ⟨he, ht⟩; subst he; have T := hide ht; clear ht) | (refine (unhide hP _ [46] _ _ _ (unhide T) (by simp; omega)).mono ?_; rintro e w3 ⟨he, ht⟩; subst he; have T := hide ht; clear ht)))
  have T : Hid (Txt w w.heap.size (([45] : List UInt8) ++ d ++ [46]) _) := T
  generalize hD : ([45] : List UInt8) ++ d ++ [46] = D at *
  have hDl : D.length ≤ 30 := by rw [← hD]; simp; omega
  have hD2 := hide hD
  clear hD hF
  go_wp2_with fail
  go_loopw [24] (fun i wr => ∃ k : Nat, k ≤ 8 ∧ i = .int .i64 k ∧ Hid (Txt w w.heap.size (D ++ hexes n k) wr)) (fun i _ => 8 - (intOf i).toNat)
  case atStart => exact ⟨0, by omega, rfl, by simpa [hexes] using T⟩
  case round =>
    obtain ⟨k, hk, rfl, hT⟩ := hrel
    by_cases h8 : k < 8
    · rcases lt8 h8 with rfl | rfl | rfl | rfl | rfl | rfl | rfl | rfl
      · obtain ⟨h, hh, he, hq⟩ : ∃ h : Nat, h < 16 ∧ IntKind.u64.wrap ((n : Int) * 4294967296) / 1152921504606846976 = (h : Int) ∧ hexes n (0 + 1) = hexes n 0 ++ [hx h] := ⟨n / 268435456 % 16, by omega, by rw [u64w]; omega, rfl⟩
        have hq := hide hq
        clear hn
        go_wp2_with (go_at_call 69; rw [sign_cut h hh]; refine (unhide hP _ [hx h] _ _ _ (unhide hT) (by rw [List.length_append, hexes_len]; simp; omega)).mono ?_; rintro e w4 ⟨he, ht⟩; subst he; have hT2 := hide ht; clear ht)
        go_roundw
        case rel => exact ⟨0 + 1, by omega, by go_num, by rw [unhide hq, ← List.append_assoc]; exact hT2⟩
        case measure => simp [intOf]
      · obtain ⟨h, hh, he, hq⟩ : ∃ h : Nat, h < 16 ∧ IntKind.u64.wrap ((n : Int) * 68719476736) / 1152921504606846976 = (h : Int) ∧ hexes n (1 + 1) = hexes n 1 ++ [hx h] := ⟨n / 16777216 % 16, by omega, by rw [u64w]; omega, rfl⟩
        have hq := hide hq
        clear hn
        go_wp2_with (go_at_call 69; rw [sign_cut h hh]; refine (unhide hP _ [hx h] _ _ _ (unhide hT) (by rw [List.length_append, hexes_len]; simp; omega)).mono ?_; rintro e w4 ⟨he, ht⟩; subst he; have hT2 := hide ht; clear ht)
        go_roundw
        case rel => exact ⟨1 + 1, by omega, by go_num, by rw [unhide hq, ← List.append_assoc]; exact hT2⟩
        case measure => simp [intOf]
      · obtain ⟨h, hh, he, hq⟩ : ∃ h : Nat, h < 16 ∧ IntKind.u64.wrap ((n : Int) * 1099511627776) / 1152921504606846976 = (h : Int) ∧ hexes n (2 + 1) = hexes n 2 ++ [hx h] := ⟨n / 1048576 % 16, by omega, by rw [u64w]; omega, rfl⟩
        have hq := hide hq
        clear hn
        go_wp2_with (go_at_call 69; rw [sign_cut h hh]; refine (unhide hP _ [hx h] _ _ _ (unhide hT) (by rw [List.length_append, hexes_len]; simp; omega)).mono ?_; rintro e w4 ⟨he, ht⟩; subst he; have hT2 := hide ht; clear ht)
        go_roundw
        case rel => exact ⟨2 + 1, by omega, by go_num, by rw [unhide hq, ← List.append_assoc]; exact hT2⟩
        case measure => simp [intOf]
      · obtain ⟨h, hh, he, hq⟩ : ∃ h : Nat, h < 16 ∧ IntKind.u64.wrap ((n : Int) * 17592186044416) / 1152921504606846976 = (h : Int) ∧ hexes n (3 + 1) = hexes n 3 ++ [hx h] := ⟨n / 65536 % 16, by omega, by rw [u64w]; omega, rfl⟩
        have hq := hide hq
        clear hn
        go_wp2_with (go_at_call 69; rw [sign_cut h hh]; refine (unhide hP _ [hx h] _ _ _ (unhide hT) (by rw [List.length_append, hexes_len]; simp; omega)).mono ?_; rintro e w4 ⟨he, ht⟩; subst he; have hT2 := hide ht; clear ht)
        go_roundw
        case rel => exact ⟨3 + 1, by omega, by go_num, by rw [unhide hq, ← List.append_assoc]; exact hT2⟩
        case measure => simp [intOf]
      · obtain ⟨h, hh, he, hq⟩ : ∃ h : Nat, h < 16 ∧ IntKind.u64.wrap ((n : Int) * 281474976710656) / 1152921504606846976 = (h : Int) ∧ hexes n (4 + 1) = hexes n 4 ++ [hx h] := ⟨n / 4096 % 16, by omega, by rw [u64w]; omega, rfl⟩
        have hq := hide hq
        clear hn
        go_wp2_with (go_at_call 69; rw [sign_cut h hh]; refine (unhide hP _ [hx h] _ _ _ (unhide hT) (by rw [List.length_append, hexes_len]; simp; omega)).mono ?_; rintro e w4 ⟨he, ht⟩; subst he; have hT2 := hide ht; clear ht)
        go_roundw
        case rel => exact ⟨4 + 1, by omega, by go_num, by rw [unhide hq, ← List.append_assoc]; exact hT2⟩
        case measure => simp [intOf]
      · obtain ⟨h, hh, he, hq⟩ : ∃ h : Nat, h < 16 ∧ IntKind.u64.wrap ((n : Int) * 4503599627370496) / 1152921504606846976 = (h : Int) ∧ hexes n (5 + 1) = hexes n 5 ++ [hx h] := ⟨n / 256 % 16, by omega, by rw [u64w]; omega, rfl⟩
        have hq := hide hq
        clear hn
        go_wp2_with (go_at_call 69; rw [sign_cut h hh]; refine (unhide hP _ [hx h] _ _ _ (unhide hT) (by rw [List.length_append, hexes_len]; simp; omega)).mono ?_; rintro e w4 ⟨he, ht⟩; subst he; have hT2 := hide ht; clear ht)
        go_roundw
        case rel => exact ⟨5 + 1, by omega, by go_num, by rw [unhide hq, ← List.append_assoc]; exact hT2⟩
        case measure => simp [intOf]
      · obtain ⟨h, hh, he, hq⟩ : ∃ h : Nat, h < 16 ∧ IntKind.u64.wrap ((n : Int) * 72057594037927936) / 1152921504606846976 = (h : Int) ∧ hexes n (6 + 1) = hexes n 6 ++ [hx h] := ⟨n / 16 % 16, by omega, by rw [u64w]; omega, rfl⟩
        have hq := hide hq
        clear hn
        go_wp2_with (go_at_call 69; rw [sign_cut h hh]; refine (unhide hP _ [hx h] _ _ _ (unhide hT) (by rw [List.length_append, hexes_len]; simp; omega)).mono ?_; rintro e w4 ⟨he, ht⟩; subst he; have hT2 := hide ht; clear ht)
        go_roundw
        case rel => exact ⟨6 + 1, by omega, by go_num, by rw [unhide hq, ← List.append_assoc]; exact hT2⟩
        case measure => simp [intOf]
      · obtain ⟨h, hh, he, hq⟩ : ∃ h : Nat, h < 16 ∧ IntKind.u64.wrap ((n : Int) * 1152921504606846976) / 1152921504606846976 = (h : Int) ∧ hexes n (7 + 1) = hexes n 7 ++ [hx h] := ⟨n / 1 % 16, by omega, by rw [u64w]; omega, rfl⟩
        have hq := hide hq
        clear hn
        go_wp2_with (go_at_call 69; rw [sign_cut h hh]; refine (unhide hP _ [hx h] _ _ _ (unhide hT) (by rw [List.length_append, hexes_len]; simp; omega)).mono ?_; rintro e w4 ⟨he, ht⟩; subst he; have hT2 := hide ht; clear ht)
        go_roundw
        case rel => exact ⟨7 + 1, by omega, by go_num, by rw [unhide hq, ← List.append_assoc]; exact hT2⟩
        case measure => simp [intOf]
    · obtain rfl : k = 8 := by omega
      obtain ⟨v, hc, hcv⟩ := text_end (unhide hT)
      have O := hide (unhide hT).o
      clear hT
      go_wp2
      go_ret
      exact ⟨congrArg (fun D => Ending.returned (Value.string (bs (D ++ hexes n 8)))) (unhide hD2).symm, unhide O⟩
set_option maxHeartbeats 2000000 in
theorem text_pos (a : Int) (n : Nat) (hn : n < 18446744073709551616) (d : List UInt8) (h : ¬ a < 0) (w : World) (hw : IntKind.u64.wrap a = (n : Int)) (hF : Hid (Ans 70 #[.int .u64 ((n : Int) / 4294967296), .int .i64 10] (.string (bs d)))) (hd : d.length ≤ 20) :
    Calls Tryz.prog 39 #[.int .i64 a] w fun e w' => e = .returned (.string (bs (([] : List UInt8) ++ d ++ [46] ++ hexes n 8))) ∧ Below w.heap.size w w' := by
  have hP := hide put_any
  go_enter Tryz.func39, Tryz.ntmps39
  go_upto_region 2 with fail
  have T := hide (Txt.start w)
  generalize hgz : w.alloc (.cells #[.slice none 0 0] 67) = w1 at *
  clear hgz
  go_upto_region 7 with (go_at_call 69; refine (unhide hP [] [45] _ _ _ (unhide T) (by decide)).mono ?_; rintro e w' ⟨he, ht⟩; subst he; have T := hide ht; clear ht)
  clear hw
  go_upto_region 9 with (first | (go_at_call 70; with_reducible refine (unhide hF _).mono ?_; rintro e w2 ⟨he, hb⟩; subst he; have T := hide ((unhide T).keep hb); clear hb) | (go_at_call 69; first | (with_reducible refine (unhide hP _ d _ _ _ (unhide T) (by simp; omega)).mono ?_; rintro e w3 ⟨he, ht⟩; subst he; have T := hide ht; clear ht) | (refine (unhide hP _ [46] _ _ _ (unhide T) (by simp; omega)).mono ?_; rintro e w3 ⟨he, ht⟩; subst he; have T := hide ht; clear ht)))
  have T : Hid (Txt w w.heap.size (([] : List UInt8) ++ d ++ [46]) _) := T
  generalize hD : ([] : List UInt8) ++ d ++ [46] = D at *
  have hDl : D.length ≤ 30 := by rw [← hD]; simp; omega
  have hD2 := hide hD
  clear hD hF
  go_wp2_with fail
  go_loopw [24] (fun i wr => ∃ k : Nat, k ≤ 8 ∧ i = .int .i64 k ∧ Hid (Txt w w.heap.size (D ++ hexes n k) wr)) (fun i _ => 8 - (intOf i).toNat)
  case atStart => exact ⟨0, by omega, rfl, by simpa [hexes] using T⟩
  case round =>
    obtain ⟨k, hk, rfl, hT⟩ := hrel
    by_cases h8 : k < 8
    · rcases lt8 h8 with rfl | rfl | rfl | rfl | rfl | rfl | rfl | rfl
      · obtain ⟨h, hh, he, hq⟩ : ∃ h : Nat, h < 16 ∧ IntKind.u64.wrap ((n : Int) * 4294967296) / 1152921504606846976 = (h : Int) ∧ hexes n (0 + 1) = hexes n 0 ++ [hx h] := ⟨n / 268435456 % 16, by omega, by rw [u64w]; omega, rfl⟩
        have hq := hide hq
        clear hn
        go_wp2_with (go_at_call 69; rw [sign_cut h hh]; refine (unhide hP _ [hx h] _ _ _ (unhide hT) (by rw [List.length_append, hexes_len]; simp; omega)).mono ?_; rintro e w4 ⟨he, ht⟩; subst he; have hT2 := hide ht; clear ht)
        go_roundw
        case rel => exact ⟨0 + 1, by omega, by go_num, by rw [unhide hq, ← List.append_assoc]; exact hT2⟩
        case measure => simp [intOf]
      · obtain ⟨h, hh, he, hq⟩ : ∃ h : Nat, h < 16 ∧ IntKind.u64.wrap ((n : Int) * 68719476736) / 1152921504606846976 = (h : Int) ∧ hexes n (1 + 1) = hexes n 1 ++ [hx h] := ⟨n / 16777216 % 16, by omega, by rw [u64w]; omega, rfl⟩
        have hq := hide hq
        clear hn
        go_wp2_with (go_at_call 69; rw [sign_cut h hh]; refine (unhide hP _ [hx h] _ _ _ (unhide hT) (by rw [List.length_append, hexes_len]; simp; omega)).mono ?_; rintro e w4 ⟨he, ht⟩; subst he; have hT2 := hide ht; clear ht)
        go_roundw
        case rel => exact ⟨1 + 1, by omega, by go_num, by rw [unhide hq, ← List.append_assoc]; exact hT2⟩
        case measure => simp [intOf]
      · obtain ⟨h, hh, he, hq⟩ : ∃ h : Nat, h < 16 ∧ IntKind.u64.wrap ((n : Int) * 1099511627776) / 1152921504606846976 = (h : Int) ∧ hexes n (2 + 1) = hexes n 2 ++ [hx h] := ⟨n / 1048576 % 16, by omega, by rw [u64w]; omega, rfl⟩
        have hq := hide hq
        clear hn
        go_wp2_with (go_at_call 69; rw [sign_cut h hh]; refine (unhide hP _ [hx h] _ _ _ (unhide hT) (by rw [List.length_append, hexes_len]; simp; omega)).mono ?_; rintro e w4 ⟨he, ht⟩; subst he; have hT2 := hide ht; clear ht)
        go_roundw
        case rel => exact ⟨2 + 1, by omega, by go_num, by rw [unhide hq, ← List.append_assoc]; exact hT2⟩
        case measure => simp [intOf]
      · obtain ⟨h, hh, he, hq⟩ : ∃ h : Nat, h < 16 ∧ IntKind.u64.wrap ((n : Int) * 17592186044416) / 1152921504606846976 = (h : Int) ∧ hexes n (3 + 1) = hexes n 3 ++ [hx h] := ⟨n / 65536 % 16, by omega, by rw [u64w]; omega, rfl⟩
        have hq := hide hq
        clear hn
        go_wp2_with (go_at_call 69; rw [sign_cut h hh]; refine (unhide hP _ [hx h] _ _ _ (unhide hT) (by rw [List.length_append, hexes_len]; simp; omega)).mono ?_; rintro e w4 ⟨he, ht⟩; subst he; have hT2 := hide ht; clear ht)
        go_roundw
        case rel => exact ⟨3 + 1, by omega, by go_num, by rw [unhide hq, ← List.append_assoc]; exact hT2⟩
        case measure => simp [intOf]
      · obtain ⟨h, hh, he, hq⟩ : ∃ h : Nat, h < 16 ∧ IntKind.u64.wrap ((n : Int) * 281474976710656) / 1152921504606846976 = (h : Int) ∧ hexes n (4 + 1) = hexes n 4 ++ [hx h] := ⟨n / 4096 % 16, by omega, by rw [u64w]; omega, rfl⟩
        have hq := hide hq
        clear hn
        go_wp2_with (go_at_call 69; rw [sign_cut h hh]; refine (unhide hP _ [hx h] _ _ _ (unhide hT) (by rw [List.length_append, hexes_len]; simp; omega)).mono ?_; rintro e w4 ⟨he, ht⟩; subst he; have hT2 := hide ht; clear ht)
        go_roundw
        case rel => exact ⟨4 + 1, by omega, by go_num, by rw [unhide hq, ← List.append_assoc]; exact hT2⟩
        case measure => simp [intOf]
      · obtain ⟨h, hh, he, hq⟩ : ∃ h : Nat, h < 16 ∧ IntKind.u64.wrap ((n : Int) * 4503599627370496) / 1152921504606846976 = (h : Int) ∧ hexes n (5 + 1) = hexes n 5 ++ [hx h] := ⟨n / 256 % 16, by omega, by rw [u64w]; omega, rfl⟩
        have hq := hide hq
        clear hn
        go_wp2_with (go_at_call 69; rw [sign_cut h hh]; refine (unhide hP _ [hx h] _ _ _ (unhide hT) (by rw [List.length_append, hexes_len]; simp; omega)).mono ?_; rintro e w4 ⟨he, ht⟩; subst he; have hT2 := hide ht; clear ht)
        go_roundw
        case rel => exact ⟨5 + 1, by omega, by go_num, by rw [unhide hq, ← List.append_assoc]; exact hT2⟩
        case measure => simp [intOf]
      · obtain ⟨h, hh, he, hq⟩ : ∃ h : Nat, h < 16 ∧ IntKind.u64.wrap ((n : Int) * 72057594037927936) / 1152921504606846976 = (h : Int) ∧ hexes n (6 + 1) = hexes n 6 ++ [hx h] := ⟨n / 16 % 16, by omega, by rw [u64w]; omega, rfl⟩
        have hq := hide hq
        clear hn
        go_wp2_with (go_at_call 69; rw [sign_cut h hh]; refine (unhide hP _ [hx h] _ _ _ (unhide hT) (by rw [List.length_append, hexes_len]; simp; omega)).mono ?_; rintro e w4 ⟨he, ht⟩; subst he; have hT2 := hide ht; clear ht)
        go_roundw
        case rel => exact ⟨6 + 1, by omega, by go_num, by rw [unhide hq, ← List.append_assoc]; exact hT2⟩
        case measure => simp [intOf]
      · obtain ⟨h, hh, he, hq⟩ : ∃ h : Nat, h < 16 ∧ IntKind.u64.wrap ((n : Int) * 1152921504606846976) / 1152921504606846976 = (h : Int) ∧ hexes n (7 + 1) = hexes n 7 ++ [hx h] := ⟨n / 1 % 16, by omega, by rw [u64w]; omega, rfl⟩
        have hq := hide hq
        clear hn
        go_wp2_with (go_at_call 69; rw [sign_cut h hh]; refine (unhide hP _ [hx h] _ _ _ (unhide hT) (by rw [List.length_append, hexes_len]; simp; omega)).mono ?_; rintro e w4 ⟨he, ht⟩; subst he; have hT2 := hide ht; clear ht)
        go_roundw
        case rel => exact ⟨7 + 1, by omega, by go_num, by rw [unhide hq, ← List.append_assoc]; exact hT2⟩
        case measure => simp [intOf]
    · obtain rfl : k = 8 := by omega
      obtain ⟨v, hc, hcv⟩ := text_end (unhide hT)
      have O := hide (unhide hT).o
      clear hT
      go_wp2
      go_ret
      exact ⟨congrArg (fun D => Ending.returned (Value.string (bs (D ++ hexes n 8)))) (unhide hD2).symm, unhide O⟩

end Go.Proofs.YtlekbhdchkdnnaaGreatDoor
