/- The law WideUndone, over whatever sums, differences, opposites and shifts: it returns true where each undoes the other. -/
import Derived.Test.YtfoojpfgeicolabZn
import Derived.Deep.DeepCutAuto
namespace Go.Proofs.Ytfoojpfgeicolab
open Go.RowKit

set_option maxRecDepth 100000 in
set_option maxHeartbeats 4000000 in
theorem undone_core (add sub : Nat → Nat → Nat) (addb subb : Nat → Nat → Bool) (ng shl shr : Nat → Nat) (ngb shlb : Nat → Bool) (a b : Nat) (n : Int) (w : World)
    (hAdd : Hid (∀ x y u, Calls Try.prog 9 #[W x, W y] u fun e w' => e = .returned (.tuple #[.agg (cells8 (add x y)), .bool (addb x y)]) ∧ Below u.heap.size u w'))
    (hSub : Hid (∀ x y u, Calls Try.prog 12 #[W x, W y] u fun e w' => e = .returned (.tuple #[.agg (cells8 (sub x y)), .bool (subb x y)]) ∧ Below u.heap.size u w'))
    (hNeg : Hid (∀ x u, Calls Try.prog 13 #[W x] u fun e w' => e = .returned (.tuple #[.agg (cells8 (ng x)), .bool (ngb x)]) ∧ Below u.heap.size u w'))
    (hShl : Hid (∀ x u, Calls Try.prog 14 #[W x, .int .i64 n] u fun e w' => e = .returned (.tuple #[.agg (cells8 (shl x)), .bool (shlb x)]) ∧ Below u.heap.size u w'))
    (hShr : Hid (∀ x u, Calls Try.prog 15 #[W x, .int .i64 n] u fun e w' => e = .returned (.agg (cells8 (shr x))) ∧ Below u.heap.size u w'))
    (hAw : Hid (∀ u, Calls Try.prog 11 #[] u fun e w' => e = .returned (.bool true) ∧ Below u.heap.size u w'))
    (h1 : Hid (addb a b = true → subb (add a b) b = true ∧ same (sub (add a b) b) a = true))
    (h2 : Hid (ngb a = true → ngb (ng a) = true ∧ same (ng (ng a)) a = true))
    (h3 : Hid (shlb a = true → same (shr (shl a)) a = true)) :
    Calls Try.prog 4 #[W a, W b, .int .i64 n] w fun e w' => e = .returned (.bool true) ∧ Below w.heap.size w w' := by
  go_enter Try.func4, Try.ntmps4
  go_upto_region 1 with fail
  have D := hide (Env.two w a b)
  go_upto_region 3 with (first
    | (with_reducible refine at_list ?_; apply ldE (unhide D) _ rfl rfl rfl (by repeat (first | exact List.mem_cons_self | apply List.mem_cons_of_mem)))
    | (with_reducible refine at_list ?_; refine stE (unhide D) _ _ rfl rfl rfl rfl rfl ?_; intro D'; have D := hide D'; clear D')
    | (go_at_call 9; refine (unhide hAdd _ _ _).mono ?_; rintro e w' ⟨he, hb⟩; subst he; have D := hide ((unhide D).keep hb); clear hb)
    | (go_at_call 12; refine (unhide hSub _ _ _).mono ?_; rintro e w' ⟨he, hb⟩; subst he; have D := hide ((unhide D).keep hb); clear hb))
  generalize addb a b = E at h1 ⊢
  generalize subb (add a b) b = F at h1 ⊢
  go_cut [38] (fun s38 wx => s38 = .bool false ∧ w'.alloc (.cells (cells8 (sub (add a b) b)) 25) = wx)
  case first =>
    cases E
    · go_wp2_with (first
        | (with_reducible refine at_list ?_; apply ldE (unhide D) _ rfl rfl rfl (by repeat (first | exact List.mem_cons_self | apply List.mem_cons_of_mem)))
        | (with_reducible refine at_list ?_; apply ldEw (unhide D) _ rfl rfl rfl (by repeat (first | exact List.mem_cons_self | apply List.mem_cons_of_mem))))
      go_meet
      case rel => exact ⟨rfl, rfl⟩
    · obtain ⟨h11, h12⟩ := unhide h1 rfl
      subst h11
      have h13 := hide h12
      clear h12
      go_wp2_with (first
        | (with_reducible refine at_list ?_; apply ldE (unhide D) _ rfl rfl rfl (by repeat (first | exact List.mem_cons_self | apply List.mem_cons_of_mem)))
        | (with_reducible refine at_list ?_; apply ldEw (unhide D) _ rfl rfl rfl (by repeat (first | exact List.mem_cons_self | apply List.mem_cons_of_mem)))
        | (with_reducible refine at_list ?_; refine neqEw (unhide h13) _ _ rfl rfl rfl rfl ?_))
      go_meet
      case rel => exact ⟨rfl, rfl⟩
  case rest =>
    obtain ⟨hs, hw⟩ := hcut
    subst hs
    subst hw
    clear h1
    go_upto_region 7 with (first
      | (with_reducible refine at_list ?_; apply ldE (unhide D) _ rfl rfl rfl (by repeat (first | exact List.mem_cons_self | apply List.mem_cons_of_mem)))
      | (with_reducible refine at_list ?_; refine stE (unhide D) _ _ rfl rfl rfl rfl rfl ?_; intro D'; have D := hide D'; clear D')
      | (go_at_call 13; refine (unhide hNeg _ _).mono ?_; rintro e w' ⟨he, hb⟩; subst he; have D := hide ((unhide D).keep hb); clear hb))
    generalize ngb a = J at h2 ⊢
    generalize ngb (ng a) = L at h2 ⊢
    go_cut [58] (fun s58 wx => s58 = .bool false ∧ w'.alloc (.cells (cells8 (ng (ng a))) 25) = wx)
    case first =>
      cases J
      · go_wp2_with (first
          | (with_reducible refine at_list ?_; apply ldE (unhide D) _ rfl rfl rfl (by repeat (first | exact List.mem_cons_self | apply List.mem_cons_of_mem)))
          | (with_reducible refine at_list ?_; apply ldEw (unhide D) _ rfl rfl rfl (by repeat (first | exact List.mem_cons_self | apply List.mem_cons_of_mem))))
        go_meet
        case rel => exact ⟨rfl, rfl⟩
      · obtain ⟨h21, h22⟩ := unhide h2 rfl
        subst h21
        have h23 := hide h22
        clear h22
        go_wp2_with (first
          | (with_reducible refine at_list ?_; apply ldE (unhide D) _ rfl rfl rfl (by repeat (first | exact List.mem_cons_self | apply List.mem_cons_of_mem)))
          | (with_reducible refine at_list ?_; apply ldEw (unhide D) _ rfl rfl rfl (by repeat (first | exact List.mem_cons_self | apply List.mem_cons_of_mem)))
          | (with_reducible refine at_list ?_; refine neqEw (unhide h23) _ _ rfl rfl rfl rfl ?_))
        go_meet
        case rel => exact ⟨rfl, rfl⟩
    case rest =>
      obtain ⟨hs, hw⟩ := hcut
      subst hs
      subst hw
      clear h2
      go_upto_region 10 with (first
        | (with_reducible refine at_list ?_; apply ldE (unhide D) _ rfl rfl rfl (by repeat (first | exact List.mem_cons_self | apply List.mem_cons_of_mem)))
        | (with_reducible refine at_list ?_; refine stE (unhide D) _ _ rfl rfl rfl rfl rfl ?_; intro D'; have D := hide D'; clear D')
        | (go_at_call 14; refine (unhide hShl _ _).mono ?_; rintro e w' ⟨he, hb⟩; subst he; have D := hide ((unhide D).keep hb); clear hb))
      generalize shlb a = P at h3 ⊢
      refine region_plan (S := Env w _) (l := [0, 1, 2, 3, 4, 5, 6, 7, 8, 9, 10, 11, 12]) (by kernel_rfl) (by kernel_rfl) (by kernel_rfl) (by kernel_rfl) (by kernel_rfl) (by kernel_rfl) (by kernel_rfl) ((unhide D).drew) ?_
      cases P
      · clear D
        refine plan_read (v := ?_) rfl rfl (fun u hS => by go_simp; rfl) ?_
        refine plan_read (v := ?_) rfl rfl (fun u hS => by go_simp; rfl) ?_
        refine plan_read (v := ?_) rfl rfl (fun u hS => by go_simp; rfl) ?_
        go_simp
        refine plan_skip rfl rfl ?_
        refine plan_skip rfl rfl ?_
        refine plan_skip rfl rfl ?_
        refine plan_skip rfl rfl ?_
        refine plan_skip rfl rfl ?_
        go_simp
        refine plan_read (v := ?_) rfl rfl (fun u hS => by go_simp; rfl) ?_
        go_simp
        refine plan_read (v := ?_) rfl rfl (fun u hS => by go_simp; rfl) ?_
        go_simp
        refine plan_call (v := .bool true) (f := 11) (args := #[]) rfl rfl (fun u hS => by go_simp) (fun u hS => (unhide hAw u).mono fun _ _ ⟨he, hb⟩ => ⟨he, hS.keep hb⟩) ?_
        go_simp
        refine plan_read (v := ?_) rfl rfl (fun u hS => by go_simp; rfl) ?_
        refine plan_read (v := ?_) rfl rfl (fun u hS => by go_simp; rfl) ?_
        go_simp
        refine plan_end (fun u hS => ?_)
        have O := hide hS.o
        clear hS
        go_wp2
        go_ret
        exact ⟨rfl, unhide O⟩
      · have h33 := hide (unhide h3 rfl)
        clear D
        refine plan_read (v := ?_) rfl rfl (fun u hS => by go_simp; rfl) ?_
        refine plan_read (v := ?_) rfl rfl (fun u hS => by go_simp; rfl) ?_
        refine plan_read (v := ?_) rfl rfl (fun u hS => by go_simp; rfl) ?_
        go_simp
        refine plan_read rfl rfl (fun u hS => exec_load8 (n := shl a) 25 (.tmp 15) (hS.blk (by repeat (first | exact List.mem_cons_self | apply List.mem_cons_of_mem))) rfl rfl Try.underlying25 rfl iWide) ?_
        refine plan_read (v := ?_) rfl rfl (fun u hS => by go_simp; rfl) ?_
        go_simp
        refine plan_call (v := .agg (cells8 (shr (shl a)))) (f := 15) (args := #[W (shl a), .int .i64 n]) rfl rfl (fun u hS => by go_simp) (fun u hS => (unhide hShr _ u).mono fun _ _ ⟨he, hb⟩ => ⟨he, hS.keep hb⟩) ?_
        go_simp
        refine plan_read rfl rfl (fun u hS => exec_load8 (n := a) 25 (.tmp 3) (hS.blk (by repeat (first | exact List.mem_cons_self | apply List.mem_cons_of_mem))) rfl rfl Try.underlying25 rfl iWide) ?_
        refine plan_read (v := .bool true) rfl rfl (fun u hS => exec_eql_wide_is _ (.tmp 70) (.tmp 71) (unhide h33) rfl rfl rfl) ?_
        go_simp
        refine plan_read (v := ?_) rfl rfl (fun u hS => by go_simp; rfl) ?_
        go_simp
        refine plan_read (v := ?_) rfl rfl (fun u hS => by go_simp; rfl) ?_
        go_simp
        refine plan_call (v := .bool true) (f := 11) (args := #[]) rfl rfl (fun u hS => by go_simp) (fun u hS => (unhide hAw u).mono fun _ _ ⟨he, hb⟩ => ⟨he, hS.keep hb⟩) ?_
        go_simp
        refine plan_read (v := ?_) rfl rfl (fun u hS => by go_simp; rfl) ?_
        refine plan_read (v := ?_) rfl rfl (fun u hS => by go_simp; rfl) ?_
        go_simp
        refine plan_end (fun u hS => ?_)
        have O := hide hS.o
        clear hS
        go_wp2
        go_ret
        exact ⟨rfl, unhide O⟩

end Go.Proofs.Ytfoojpfgeicolab
