/- Package vec: the closure of Cross; Cross over integers. -/
import Derived.Test.YtljggjnaolbapaaGreatVh
namespace Go.Proofs.YtljggjnaolbapaaGreat
open Go.RowKit
set_option maxRecDepth 4000
set_option linter.unusedVariables false

theorem Gen.four {u : World} {g0 g1 g2 g3 : Nat} {t0 t1 t2 t3 : TypeId} {c0 c1 c2 c3 : Array Value} (h0 : Blk u g0 t0 c0) (h1 : Blk u g1 t1 c1) (h2 : Blk u g2 t2 c2) (h3 : Blk u g3 t3 c3) : Gen u [(g0, t0, c0), (g1, t1, c1), (g2, t2, c2), (g3, t3, c3)] u := by
  refine ⟨fun p hp => ?_, Below.refl _ _⟩
  simp only [List.mem_cons, List.not_mem_nil, or_false] at hp
  rcases hp with rfl | rfl | rfl | rfl
  · exact h0
  · exact h1
  · exact h2
  · exact h3

set_option maxHeartbeats 1000000 in
theorem clos_Cross_X (px py pz qx qy qz rx ry rz sx sy sz v : Int) (A1 B1 A2 B2 g0 g1 g2 g3 : Nat) (u : World) (h0 : Blk u g0 24 (v3 px py pz)) (h1 : Blk u g1 24 (v3 qx qy qz)) (h2 : Blk u g2 24 (v3 rx ry rz)) (h3 : Blk u g3 24 (v3 sx sy sz))
    (t1 : Hid (Ans 51 #[.int .i64 px, .int .i64 qx] (.agg (c16 A1 B1)))) (t2 : Hid (Ans 56 #[.int .i64 rx, .int .i64 sx] (.agg (c16 A2 B2))))
    (hB : Hid (∀ u p, Blk u p 58 (prs [(A1, B1), (A2, B2)]).toArray → Calls Tryz.prog 50 #[.slice (some ⟨p, 0, none⟩) 2 2] u fun e w' => e = .returned (.int .i64 v) ∧ Below u.heap.size u w')) :
    Calls Tryz.prog 55 #[.func (Fn.func 75) #[] #[], .pointer (some ⟨g0, 0, none⟩), .pointer (some ⟨g1, 0, none⟩), .pointer (some ⟨g2, 0, none⟩), .pointer (some ⟨g3, 0, none⟩)] u fun e w' => e = .returned (.int .i64 v) ∧ Below u.heap.size u w' := by
  have D := hide (Gen.four h0 h1 h2 h3)
  clear h0 h1 h2 h3
  go_enter Tryz.func55, Tryz.ntmps55
  go_upto_region 1 with fail
  refine region_walk (S := Gen u _) (l := [0, 1, 3, 4, 7, 8, 10, 11, 2, 5, 6, 9, 12, 13, 14, 15, 16]) (t := [2, 5, 6, 9, 12, 13, 14, 15]) (by kernel_rfl) (by kernel_rfl) (by kernel_rfl) (by kernel_rfl) (by kernel_rfl) (by kernel_rfl) (by kernel_rfl) (by kernel_rfl) (unhide D).drew ?_
  have D0 := (unhide D).drew
  refine walk_read (v := ?_) rfl rfl rfl (fun u hS => by go_simp; rfl) ?_
  go_simp
  refine walk_read (v := .agg (v3 px py pz)) rfl rfl rfl (fun u hS => exec_loadG hS rVec _ rfl rfl (by repeat (first | exact List.mem_cons_self | apply List.mem_cons_of_mem)) rfl) ?_
  go_simp
  refine walk_read (v := ?_) rfl rfl rfl (fun u hS => by go_simp; rfl) ?_
  go_simp
  refine walk_read (v := .agg (v3 qx qy qz)) rfl rfl rfl (fun u hS => exec_loadG hS rVec _ rfl rfl (by repeat (first | exact List.mem_cons_self | apply List.mem_cons_of_mem)) rfl) ?_
  go_simp
  refine walk_read (v := ?_) rfl rfl rfl (fun u hS => by go_simp; rfl) ?_
  go_simp
  refine walk_read (v := .agg (v3 rx ry rz)) rfl rfl rfl (fun u hS => exec_loadG hS rVec _ rfl rfl (by repeat (first | exact List.mem_cons_self | apply List.mem_cons_of_mem)) rfl) ?_
  go_simp
  refine walk_read (v := ?_) rfl rfl rfl (fun u hS => by go_simp; rfl) ?_
  go_simp
  refine walk_read (v := .agg (v3 sx sy sz)) rfl rfl rfl (fun u hS => exec_loadG hS rVec _ rfl rfl (by repeat (first | exact List.mem_cons_self | apply List.mem_cons_of_mem)) rfl) ?_
  go_simp
  refine walk_call (f := 75) (args := #[.agg (v3 px py pz)]) rfl rfl rfl (by go_simp) ?_
  refine (alongX px py pz _).mono fun e w1 ⟨he, hb⟩ => ?_
  have D1 := D0.keep hb
  refine ⟨_, he, D1, ?_⟩
  clear hb he
  go_simp
  refine walk_call (f := 75) (args := #[.agg (v3 qx qy qz)]) rfl rfl rfl (by go_simp) ?_
  refine (alongX qx qy qz _).mono fun e w2 ⟨he, hb⟩ => ?_
  have D2 := D1.keep hb
  refine ⟨_, he, D2, ?_⟩
  clear hb he
  go_simp
  refine walk_call (f := 51) (args := #[.int .i64 px, .int .i64 qx]) rfl rfl rfl (by go_simp) ?_
  refine (unhide t1 _).mono fun e w3 ⟨he, hb⟩ => ?_
  have D3 := D2.keep hb
  refine ⟨_, he, D3, ?_⟩
  clear hb he
  go_simp
  refine walk_call (f := 75) (args := #[.agg (v3 rx ry rz)]) rfl rfl rfl (by go_simp) ?_
  refine (alongX rx ry rz _).mono fun e w4 ⟨he, hb⟩ => ?_
  have D4 := D3.keep hb
  refine ⟨_, he, D4, ?_⟩
  clear hb he
  go_simp
  refine walk_call (f := 75) (args := #[.agg (v3 sx sy sz)]) rfl rfl rfl (by go_simp) ?_
  refine (alongX sx sy sz _).mono fun e w5 ⟨he, hb⟩ => ?_
  have D5 := D4.keep hb
  refine ⟨_, he, D5, ?_⟩
  clear hb he
  go_simp
  refine walk_call (f := 56) (args := #[.int .i64 rx, .int .i64 sx]) rfl rfl rfl (by go_simp) ?_
  refine (unhide t2 _).mono fun e w6 ⟨he, hb⟩ => ?_
  have D6 := D5.keep hb
  refine ⟨_, he, D6, ?_⟩
  clear hb he
  go_simp
  have D7 := D6.push 58 (prs [(A1, B1), (A2, B2)]).toArray
  refine walk_turn rfl rfl rfl (exec_bs2 w6 (.tmp 13) (.tmp 20) rfl rfl rfl) D7.tail ?_
  go_simp
  refine walk_call (f := 50) (args := #[.slice (some ⟨w6.heap.size, 0, none⟩) 2 2]) rfl rfl rfl (by go_simp) ?_
  refine (unhide hB _ _ (D7.blk List.mem_cons_self)).mono fun e w8 ⟨he, hb⟩ => ?_
  have D8 := D7.tail.keep hb
  refine ⟨_, he, D8, ?_⟩
  clear hb he
  go_simp
  refine walk_read (v := ?_) rfl rfl rfl (fun u hS => by go_simp; rfl) ?_
  go_simp
  refine walk_end ?_
  have O := hide D8.o
  clear D D0 D1 D2 D3 D4 D5 D6 D7 D8
  go_wp2
  go_ret
  exact ⟨rfl, unhide O⟩

set_option maxHeartbeats 1000000 in
theorem clos_Cross_Y (px py pz qx qy qz rx ry rz sx sy sz v : Int) (A1 B1 A2 B2 g0 g1 g2 g3 : Nat) (u : World) (h0 : Blk u g0 24 (v3 px py pz)) (h1 : Blk u g1 24 (v3 qx qy qz)) (h2 : Blk u g2 24 (v3 rx ry rz)) (h3 : Blk u g3 24 (v3 sx sy sz))
    (t1 : Hid (Ans 51 #[.int .i64 py, .int .i64 qy] (.agg (c16 A1 B1)))) (t2 : Hid (Ans 56 #[.int .i64 ry, .int .i64 sy] (.agg (c16 A2 B2))))
    (hB : Hid (∀ u p, Blk u p 58 (prs [(A1, B1), (A2, B2)]).toArray → Calls Tryz.prog 50 #[.slice (some ⟨p, 0, none⟩) 2 2] u fun e w' => e = .returned (.int .i64 v) ∧ Below u.heap.size u w')) :
    Calls Tryz.prog 55 #[.func (Fn.func 76) #[] #[], .pointer (some ⟨g0, 0, none⟩), .pointer (some ⟨g1, 0, none⟩), .pointer (some ⟨g2, 0, none⟩), .pointer (some ⟨g3, 0, none⟩)] u fun e w' => e = .returned (.int .i64 v) ∧ Below u.heap.size u w' := by
  have D := hide (Gen.four h0 h1 h2 h3)
  clear h0 h1 h2 h3
  go_enter Tryz.func55, Tryz.ntmps55
  go_upto_region 1 with fail
  refine region_walk (S := Gen u _) (l := [0, 1, 3, 4, 7, 8, 10, 11, 2, 5, 6, 9, 12, 13, 14, 15, 16]) (t := [2, 5, 6, 9, 12, 13, 14, 15]) (by kernel_rfl) (by kernel_rfl) (by kernel_rfl) (by kernel_rfl) (by kernel_rfl) (by kernel_rfl) (by kernel_rfl) (by kernel_rfl) (unhide D).drew ?_
  have D0 := (unhide D).drew
  refine walk_read (v := ?_) rfl rfl rfl (fun u hS => by go_simp; rfl) ?_
  go_simp
  refine walk_read (v := .agg (v3 px py pz)) rfl rfl rfl (fun u hS => exec_loadG hS rVec _ rfl rfl (by repeat (first | exact List.mem_cons_self | apply List.mem_cons_of_mem)) rfl) ?_
  go_simp
  refine walk_read (v := ?_) rfl rfl rfl (fun u hS => by go_simp; rfl) ?_
  go_simp
  refine walk_read (v := .agg (v3 qx qy qz)) rfl rfl rfl (fun u hS => exec_loadG hS rVec _ rfl rfl (by repeat (first | exact List.mem_cons_self | apply List.mem_cons_of_mem)) rfl) ?_
  go_simp
  refine walk_read (v := ?_) rfl rfl rfl (fun u hS => by go_simp; rfl) ?_
  go_simp
  refine walk_read (v := .agg (v3 rx ry rz)) rfl rfl rfl (fun u hS => exec_loadG hS rVec _ rfl rfl (by repeat (first | exact List.mem_cons_self | apply List.mem_cons_of_mem)) rfl) ?_
  go_simp
  refine walk_read (v := ?_) rfl rfl rfl (fun u hS => by go_simp; rfl) ?_
  go_simp
  refine walk_read (v := .agg (v3 sx sy sz)) rfl rfl rfl (fun u hS => exec_loadG hS rVec _ rfl rfl (by repeat (first | exact List.mem_cons_self | apply List.mem_cons_of_mem)) rfl) ?_
  go_simp
  refine walk_call (f := 76) (args := #[.agg (v3 px py pz)]) rfl rfl rfl (by go_simp) ?_
  refine (alongY px py pz _).mono fun e w1 ⟨he, hb⟩ => ?_
  have D1 := D0.keep hb
  refine ⟨_, he, D1, ?_⟩
  clear hb he
  go_simp
  refine walk_call (f := 76) (args := #[.agg (v3 qx qy qz)]) rfl rfl rfl (by go_simp) ?_
  refine (alongY qx qy qz _).mono fun e w2 ⟨he, hb⟩ => ?_
  have D2 := D1.keep hb
  refine ⟨_, he, D2, ?_⟩
  clear hb he
  go_simp
  refine walk_call (f := 51) (args := #[.int .i64 py, .int .i64 qy]) rfl rfl rfl (by go_simp) ?_
  refine (unhide t1 _).mono fun e w3 ⟨he, hb⟩ => ?_
  have D3 := D2.keep hb
  refine ⟨_, he, D3, ?_⟩
  clear hb he
  go_simp
  refine walk_call (f := 76) (args := #[.agg (v3 rx ry rz)]) rfl rfl rfl (by go_simp) ?_
  refine (alongY rx ry rz _).mono fun e w4 ⟨he, hb⟩ => ?_
  have D4 := D3.keep hb
  refine ⟨_, he, D4, ?_⟩
  clear hb he
  go_simp
  refine walk_call (f := 76) (args := #[.agg (v3 sx sy sz)]) rfl rfl rfl (by go_simp) ?_
  refine (alongY sx sy sz _).mono fun e w5 ⟨he, hb⟩ => ?_
  have D5 := D4.keep hb
  refine ⟨_, he, D5, ?_⟩
  clear hb he
  go_simp
  refine walk_call (f := 56) (args := #[.int .i64 ry, .int .i64 sy]) rfl rfl rfl (by go_simp) ?_
  refine (unhide t2 _).mono fun e w6 ⟨he, hb⟩ => ?_
  have D6 := D5.keep hb
  refine ⟨_, he, D6, ?_⟩
  clear hb he
  go_simp
  have D7 := D6.push 58 (prs [(A1, B1), (A2, B2)]).toArray
  refine walk_turn rfl rfl rfl (exec_bs2 w6 (.tmp 13) (.tmp 20) rfl rfl rfl) D7.tail ?_
  go_simp
  refine walk_call (f := 50) (args := #[.slice (some ⟨w6.heap.size, 0, none⟩) 2 2]) rfl rfl rfl (by go_simp) ?_
  refine (unhide hB _ _ (D7.blk List.mem_cons_self)).mono fun e w8 ⟨he, hb⟩ => ?_
  have D8 := D7.tail.keep hb
  refine ⟨_, he, D8, ?_⟩
  clear hb he
  go_simp
  refine walk_read (v := ?_) rfl rfl rfl (fun u hS => by go_simp; rfl) ?_
  go_simp
  refine walk_end ?_
  have O := hide D8.o
  clear D D0 D1 D2 D3 D4 D5 D6 D7 D8
  go_wp2
  go_ret
  exact ⟨rfl, unhide O⟩

set_option maxHeartbeats 1000000 in
theorem clos_Cross_Z (px py pz qx qy qz rx ry rz sx sy sz v : Int) (A1 B1 A2 B2 g0 g1 g2 g3 : Nat) (u : World) (h0 : Blk u g0 24 (v3 px py pz)) (h1 : Blk u g1 24 (v3 qx qy qz)) (h2 : Blk u g2 24 (v3 rx ry rz)) (h3 : Blk u g3 24 (v3 sx sy sz))
    (t1 : Hid (Ans 51 #[.int .i64 pz, .int .i64 qz] (.agg (c16 A1 B1)))) (t2 : Hid (Ans 56 #[.int .i64 rz, .int .i64 sz] (.agg (c16 A2 B2))))
    (hB : Hid (∀ u p, Blk u p 58 (prs [(A1, B1), (A2, B2)]).toArray → Calls Tryz.prog 50 #[.slice (some ⟨p, 0, none⟩) 2 2] u fun e w' => e = .returned (.int .i64 v) ∧ Below u.heap.size u w')) :
    Calls Tryz.prog 55 #[.func (Fn.func 77) #[] #[], .pointer (some ⟨g0, 0, none⟩), .pointer (some ⟨g1, 0, none⟩), .pointer (some ⟨g2, 0, none⟩), .pointer (some ⟨g3, 0, none⟩)] u fun e w' => e = .returned (.int .i64 v) ∧ Below u.heap.size u w' := by
  have D := hide (Gen.four h0 h1 h2 h3)
  clear h0 h1 h2 h3
  go_enter Tryz.func55, Tryz.ntmps55
  go_upto_region 1 with fail
  refine region_walk (S := Gen u _) (l := [0, 1, 3, 4, 7, 8, 10, 11, 2, 5, 6, 9, 12, 13, 14, 15, 16]) (t := [2, 5, 6, 9, 12, 13, 14, 15]) (by kernel_rfl) (by kernel_rfl) (by kernel_rfl) (by kernel_rfl) (by kernel_rfl) (by kernel_rfl) (by kernel_rfl) (by kernel_rfl) (unhide D).drew ?_
  have D0 := (unhide D).drew
  refine walk_read (v := ?_) rfl rfl rfl (fun u hS => by go_simp; rfl) ?_
  go_simp
  refine walk_read (v := .agg (v3 px py pz)) rfl rfl rfl (fun u hS => exec_loadG hS rVec _ rfl rfl (by repeat (first | exact List.mem_cons_self | apply List.mem_cons_of_mem)) rfl) ?_
  go_simp
  refine walk_read (v := ?_) rfl rfl rfl (fun u hS => by go_simp; rfl) ?_
  go_simp
  refine walk_read (v := .agg (v3 qx qy qz)) rfl rfl rfl (fun u hS => exec_loadG hS rVec _ rfl rfl (by repeat (first | exact List.mem_cons_self | apply List.mem_cons_of_mem)) rfl) ?_
  go_simp
  refine walk_read (v := ?_) rfl rfl rfl (fun u hS => by go_simp; rfl) ?_
  go_simp
  refine walk_read (v := .agg (v3 rx ry rz)) rfl rfl rfl (fun u hS => exec_loadG hS rVec _ rfl rfl (by repeat (first | exact List.mem_cons_self | apply List.mem_cons_of_mem)) rfl) ?_
  go_simp
  refine walk_read (v := ?_) rfl rfl rfl (fun u hS => by go_simp; rfl) ?_
  go_simp
  refine walk_read (v := .agg (v3 sx sy sz)) rfl rfl rfl (fun u hS => exec_loadG hS rVec _ rfl rfl (by repeat (first | exact List.mem_cons_self | apply List.mem_cons_of_mem)) rfl) ?_
  go_simp
  refine walk_call (f := 77) (args := #[.agg (v3 px py pz)]) rfl rfl rfl (by go_simp) ?_
  refine (alongZ px py pz _).mono fun e w1 ⟨he, hb⟩ => ?_
  have D1 := D0.keep hb
  refine ⟨_, he, D1, ?_⟩
  clear hb he
  go_simp
  refine walk_call (f := 77) (args := #[.agg (v3 qx qy qz)]) rfl rfl rfl (by go_simp) ?_
  refine (alongZ qx qy qz _).mono fun e w2 ⟨he, hb⟩ => ?_
  have D2 := D1.keep hb
  refine ⟨_, he, D2, ?_⟩
  clear hb he
  go_simp
  refine walk_call (f := 51) (args := #[.int .i64 pz, .int .i64 qz]) rfl rfl rfl (by go_simp) ?_
  refine (unhide t1 _).mono fun e w3 ⟨he, hb⟩ => ?_
  have D3 := D2.keep hb
  refine ⟨_, he, D3, ?_⟩
  clear hb he
  go_simp
  refine walk_call (f := 77) (args := #[.agg (v3 rx ry rz)]) rfl rfl rfl (by go_simp) ?_
  refine (alongZ rx ry rz _).mono fun e w4 ⟨he, hb⟩ => ?_
  have D4 := D3.keep hb
  refine ⟨_, he, D4, ?_⟩
  clear hb he
  go_simp
  refine walk_call (f := 77) (args := #[.agg (v3 sx sy sz)]) rfl rfl rfl (by go_simp) ?_
  refine (alongZ sx sy sz _).mono fun e w5 ⟨he, hb⟩ => ?_
  have D5 := D4.keep hb
  refine ⟨_, he, D5, ?_⟩
  clear hb he
  go_simp
  refine walk_call (f := 56) (args := #[.int .i64 rz, .int .i64 sz]) rfl rfl rfl (by go_simp) ?_
  refine (unhide t2 _).mono fun e w6 ⟨he, hb⟩ => ?_
  have D6 := D5.keep hb
  refine ⟨_, he, D6, ?_⟩
  clear hb he
  go_simp
  have D7 := D6.push 58 (prs [(A1, B1), (A2, B2)]).toArray
  refine walk_turn rfl rfl rfl (exec_bs2 w6 (.tmp 13) (.tmp 20) rfl rfl rfl) D7.tail ?_
  go_simp
  refine walk_call (f := 50) (args := #[.slice (some ⟨w6.heap.size, 0, none⟩) 2 2]) rfl rfl rfl (by go_simp) ?_
  refine (unhide hB _ _ (D7.blk List.mem_cons_self)).mono fun e w8 ⟨he, hb⟩ => ?_
  have D8 := D7.tail.keep hb
  refine ⟨_, he, D8, ?_⟩
  clear hb he
  go_simp
  refine walk_read (v := ?_) rfl rfl rfl (fun u hS => by go_simp; rfl) ?_
  go_simp
  refine walk_end ?_
  have O := hide D8.o
  clear D D0 D1 D2 D3 D4 D5 D6 D7 D8
  go_wp2
  go_ret
  exact ⟨rfl, unhide O⟩

/-- p q less r s, brought in. -/
def crI (p q r s : Int) : Int := cl ((p * q + -r * s) / 4294967296)
theorem CrossTwo (p q r s : Int) (h1 : I64 p) (h2 : I64 q) (h3 : I64 r) (h4 : I64 s) (u : World) (g : Nat) (hB : Blk u g 58 (prs [(enc p, enc q), (enc (-r), enc s)]).toArray) :
    Calls Tryz.prog 50 #[.slice (some ⟨g, 0, none⟩) 2 2] u fun e w' => e = .returned (.int .i64 (crI p q r s)) ∧ Below u.heap.size u w' :=
  TwoProd p q (-r) s (h1.sz.mono (by decide)) (h2.sz.mono (by decide)) (h3.sz.neg.mono (by decide)) (h4.sz.mono (by decide)) u g hB
theorem CrossZ (ax ay az bx b_y bz_ : Int) (h1 : I64 ax) (h2 : I64 ay) (h3 : I64 az) (h4 : I64 bx) (h5 : I64 b_y) (h6 : I64 bz_) :
    Ans 20 #[.agg (v3 ax ay az), .agg (v3 bx b_y bz_)] (.agg (v3 (crI ay bz_ az b_y) (crI az bx ax bz_) (crI ax b_y ay bx))) := fun w =>
  cross_core ax ay az bx b_y bz_ _ _ _ w (fun u g0 g1 g2 g3 k0 k1 k2 k3 =>
    each_Cross (Gen u [(g0, 24, v3 ay az ax), (g1, 24, v3 bz_ bx b_y), (g2, 24, v3 az ax ay), (g3, 24, v3 b_y bz_ bx)]) g0 g1 g2 g3 _ _ _ u (Gen.four k0 k1 k2 k3) (fun _ _ h hb => h.keep hb)
      (fun v hS => (clos_Cross_X ay az ax bz_ bx b_y az ax ay b_y bz_ bx _ _ _ _ _ g0 g1 g2 g3 v (hS.blk (by repeat (first | exact List.mem_cons_self | apply List.mem_cons_of_mem))) (hS.blk (by repeat (first | exact List.mem_cons_self | apply List.mem_cons_of_mem))) (hS.blk (by repeat (first | exact List.mem_cons_self | apply List.mem_cons_of_mem))) (hS.blk (by repeat (first | exact List.mem_cons_self | apply List.mem_cons_of_mem))) (TimesZ ay bz_ h2 h6) (LessZ az b_y h3 h5) (CrossTwo ay bz_ az b_y h2 h6 h3 h5)))
      (fun v hS => (clos_Cross_Y ay az ax bz_ bx b_y az ax ay b_y bz_ bx _ _ _ _ _ g0 g1 g2 g3 v (hS.blk (by repeat (first | exact List.mem_cons_self | apply List.mem_cons_of_mem))) (hS.blk (by repeat (first | exact List.mem_cons_self | apply List.mem_cons_of_mem))) (hS.blk (by repeat (first | exact List.mem_cons_self | apply List.mem_cons_of_mem))) (hS.blk (by repeat (first | exact List.mem_cons_self | apply List.mem_cons_of_mem))) (TimesZ az bx h3 h4) (LessZ ax bz_ h1 h6) (CrossTwo az bx ax bz_ h3 h4 h1 h6)))
      (fun v hS => (clos_Cross_Z ay az ax bz_ bx b_y az ax ay b_y bz_ bx _ _ _ _ _ g0 g1 g2 g3 v (hS.blk (by repeat (first | exact List.mem_cons_self | apply List.mem_cons_of_mem))) (hS.blk (by repeat (first | exact List.mem_cons_self | apply List.mem_cons_of_mem))) (hS.blk (by repeat (first | exact List.mem_cons_self | apply List.mem_cons_of_mem))) (hS.blk (by repeat (first | exact List.mem_cons_self | apply List.mem_cons_of_mem))) (TimesZ ax b_y h1 h5) (LessZ ay bx h2 h4) (CrossTwo ax b_y ay bx h1 h5 h2 h4))))

end Go.Proofs.YtljggjnaolbapaaGreat
