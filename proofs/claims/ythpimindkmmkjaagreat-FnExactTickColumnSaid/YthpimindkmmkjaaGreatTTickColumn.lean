import Derived.Test.YthpimindkmmkjaaGreatUTickColumn
import Derived.Test.YthpimindkmmkjaaGreatCTickColumn
import Derived.Test.YthpimindkmmkjaaGreatChecked
import Derived.Test.YthpimindkmmkjaaGreatRows
import Derived.Laws.FloatArith
import Derived.ProofKit
import Derived.WalkKit
import Derived.WalkLawsBesides
import Derived.WalkSpells
import Derived.Deep.QuietTactic
import Derived.BigQuiet
import Derived.Deep.RegionHeld3
import Derived.ChangeKeysEq
import Derived.Laws.BitsAllLaws
import Derived.Deep.MidRow
import Derived.Deep.WholeRow
import Derived.StillTailTactics
import Derived.Deep.Slices
import Derived.ChangeSame
import Derived.OrdersIn
import Derived.ControlIn
import Derived.RangeFuncSeq
import Derived.RangeFuncNested
import Derived.ArgAppend
import Derived.OwnWalkIn
import Derived.TacticsInMore
import Derived.Below
import Derived.Laws.AppendOwn
import Derived.RangeFuncLeaves
import Derived.RangeFuncBox
import Derived.MapKept
import Derived.StillTail
import Derived.Carry
import Derived.Shelf.Abstract
import Derived.OpenShut
/- The law FnExactTickColumn of chapter 1: at every argument the call returns true, and what was there before it is as it was. -/
namespace Go.Proofs.YthpimindkmmkjaaGreat
open Go.RowKit Go.Fl

set_option maxHeartbeats 4000000 in
set_option maxRecDepth 100000 in
theorem sSettleC (c : Nat → Nat) (t : Int) (hb : ∀ i, i < 177 → c i < 4294967296) (h : ColOk c t) (r : Nat → Nat) (s n : Int) (h1 : ColOk (setW c) t → r = setW c ∧ s = t ∧ n = 0) (h0 : ¬ ColOk (setW c) t → r = (fun _ => 0) ∧ s = 0 ∧ n = 4) (w : World) (g : Nat) (T : TypeId) (hg : vAt w g 178 (clw c t) T) :
    Calls Tryz.prog 51 #[.pointer (some ⟨g, 0, none⟩)] w fun e w' => e = .returned (.tuple #[.agg (vls 178 (clw r s)), .int .i64 n]) ∧ Below w.heap.size w w' := by
  have hgl := hg.lt
  have k0 : Hid (Kept w [(w.heap.size, vls 178 (clw (fun _ => 0) 0), 35), (g, vls 178 (clw c t), T)] (w.alloc (.cells (vls 178 (clw (fun _ => 0) 0)) 35))) := hid (Kept.push ⟨Below.refl _ _, fun x hx => by rw [List.mem_singleton.1 hx]; exact hg⟩ _ _)
  have HB := hid hb
  have HQ := hid h
  have H1 := hid h1
  have H0 := hid h0
  clear hb h h1 h0 hg
  go_enter Tryz.func51, Tryz.ntmps51
  go_wp2_with fail
  refine (sShares _).mono ?_
  rintro e v ⟨rfl, hv⟩
  have k2 := hid (k0.out.stay hv)
  have bv : w.heap.size + 1 ≤ v.heap.size := by have := k2.out.lt (x := (w.heap.size, vls 178 (clw (fun _ => 0) 0), 35)) in0; simp only at this; omega
  have fv := k2.out.fresh
  have kA := hid (k2.out.push (fls fun _ => 0) 23)
  have tokA : True := trivial
  clear k0 hv k2
  go_wp2_with (first
    | (have _t := kB; refine store_row (by rfl) 35 _ _ (by rfl) (w3.heap.size) (vls 178 (clw c t)) (vls 178 (clw (fun _ => 0) 0)) (by rfl) (by rfl) kB.out (by rw [vls_size]; exact info_col) (by simp) (vls_one (clw_one _ _)) (by omega) f3 ?_; intro w4 k4; replace k4 := hid k4; clear kB)
    | (have _t := k3; refine load_cut (by rfl) 35 _ (by rfl) g 0 178 (by rfl) (k3.out.v in2) (by omega) (vls 178 (clw c t)) (vls_ext fun i _ => by rw [Nat.zero_add]) _ Tryz.underlying35 (by rfl) info_col ?_)
    | (have _t := tokA; refine store_row (by rfl) 23 _ _ (by rfl) (v.heap.size) (fls shr) (fls fun _ => 0) (by rfl) (by rfl) kA.out (by rw [fls_size]; exact info_a20) (by simp) (fls_one _) (by omega) fv ?_; intro w3 k3; replace k3 := hid k3; have kB := hid (k3.out.push (vls 178 (clw (fun _ => 0) 0)) 35); have b3 : v.heap.size + 1 ≤ w3.heap.size := (by have := k3.out.lt (x := (v.heap.size, fls shr, 23)) in0; simp only at this; omega); have f3 := k3.out.fresh; clear kA tokA))
  have k5 : Hid (Kept w [(w3.heap.size, vls 178 (clw (stS c (0) (0)) t), 35), (v.heap.size, fls shr, 23), (w.heap.size, vls 178 (clw (fun _ => 0) 0), 35), (g, vls 178 (clw c t), T)] w4) := hid (Kept.ext k4.out (fun i _ => (clw_same (fun i => stS_zero c i) t i).symm))
  clear k3 k4 f3 fv
  go_loopw [6] (fun i wr => ∃ k : Nat, k ≤ 8 ∧ i = .int .i64 k ∧ Hid (Kept w [(w3.heap.size, vls 178 (clw (stS c (k) (0)) t), 35), (v.heap.size, fls shr, 23), (w.heap.size, vls 178 (clw (fun _ => 0) 0), 35), (g, vls 178 (clw c t), T)] wr)) (fun i _ => 8 - (intOf i).toNat)
  case atStart => exact ⟨0, by omega, rfl, k5⟩
  case round =>
    clear k5
    obtain ⟨k, hk, rfl, h0⟩ := hrel
    by_cases hlt : k < 8
    · have HL := hid hlt
      have hk3 : (k : Int) < 8 := by omega
      have k7 := h0
      clear h0
      go_wp2_with fail
      go_loopw [7] (fun i wq => ∃ j : Nat, j ≤ 20 ∧ i = .int .i64 j ∧ Hid (Kept w [(w3.heap.size, vls 178 (clw (stS c (k) (j)) t), 35), (v.heap.size, fls shr, 23), (w.heap.size, vls 178 (clw (fun _ => 0) 0), 35), (g, vls 178 (clw c t), T)] wq)) (fun i _ => 20 - (intOf i).toNat)
      case atStart => exact ⟨0, by omega, rfl, k7⟩
      case round =>
        clear k7
        obtain ⟨j, hj, rfl, h0⟩ := hrel
        by_cases hlj : j < 20
        · have HJ := hid hlj
          have hj3 : (j : Int) < 20 := by omega
          have F := fall_f HQ.out hlt hlj
          have r1 := fun w => run_mul (P := Tryz.prog) 22 F.sh F.am w
          rw [faC_at c k hlj] at r1
          have r2 := fun w => run_sub (P := Tryz.prog) 22 (amtB_iff.1 F.am) F.le w
          rw [show fsub (c (k * 20 + j)) (faC c (k * 20 + j)) = leC c (k * 20 + j) from rfl] at r2
          have tok1 : True := trivial
          have LA := hid F.la
          have FA := hid F.fa
          have R1 := hid r1
          have R2 := hid r2
          clear F r1 r2
          go_wp2_with fail
          have h0 := hid h0.out.drew
          refine wp_region_still_tail 12 (by kernel_rfl) (by kernel_rfl) ?_
          change wpStill _ _ wr.drew (fun a' => wpList _ _ _ _ a' wr.drew) _ _
          simp only [List.take_succ_cons, List.take_zero, List.drop_succ_cons, List.drop_zero]
          generalize wr.drew = wa at h0 ⊢
          still_step
          still_step
          refine still_load rfl 22 _ rfl _ rfl _ ((show vAt wa v.heap.size 20 (flw shr) 23 from h0.out.at (x := (v.heap.size, fls shr, 23)) in1).oneAt j HJ.out (.float .f32 (shr j)) rfl Tryz.underlying22 (by rfl)) ?_
          simp only [Act.put, List.setIfInBounds_toArray, List.set_cons_zero, List.set_cons_succ]
          still_step
          still_step
          still_step
          still_step
          still_step
          still_step
          still_step
          refine still_load rfl 22 _ rfl _ rfl _ ((h0.out.v in3).oneAt (k * 20 + j) (by have := HL.out; have := HJ.out; omega) (.float .f32 (c (k * 20 + j))) (clw_f (by have := HL.out; have := HJ.out; omega)) Tryz.underlying22 (by rfl)) ?_
          simp only [Act.put, List.setIfInBounds_toArray, List.set_cons_zero, List.set_cons_succ]
          refine still_val rfl (.float .f32 (faC c (k * 20 + j))) (run_binop_val _ _ _ _ (by rfl) (by rfl) (by simp [eqGuard]) (R1.out _)) ?_
          simp only [Act.put, List.setIfInBounds_toArray, List.set_cons_zero, List.set_cons_succ]
          refine wpStill_nil ?_
          go_wp2_with fail
          have h0 := hid h0.out.drew
          refine wp_region_still_tail 15 (by kernel_rfl) (by kernel_rfl) ?_
          change wpStill _ _ wa.drew (fun a' => wpList _ _ _ _ a' wa.drew) _ _
          simp only [List.take_succ_cons, List.take_zero, List.drop_succ_cons, List.drop_zero]
          generalize wa.drew = wb at h0 ⊢
          still_step
          still_step
          still_step
          still_step
          still_step
          still_step
          still_step
          still_step
          still_step
          refine still_load rfl 22 _ rfl _ rfl _ ((h0.out.v in3).oneAt (k * 20 + j) (by have := HL.out; have := HJ.out; omega) (.float .f32 (c (k * 20 + j))) (clw_f (by have := HL.out; have := HJ.out; omega)) Tryz.underlying22 (by rfl)) ?_
          simp only [Act.put, List.setIfInBounds_toArray, List.set_cons_zero, List.set_cons_succ]
          still_step
          refine still_val rfl (.float .f32 (leC c (k * 20 + j))) (run_binop_val _ _ _ _ (by rfl) (by rfl) (by simp [eqGuard]) (R2.out _)) ?_
          simp only [Act.put, List.setIfInBounds_toArray, List.set_cons_zero, List.set_cons_succ]
          still_step
          still_step
          still_step
          refine wpStill_nil ?_
          rcases Nat.eq_zero_or_pos k with hz | hz
          · have hk4 : ¬ (0 : Int) < (k : Int) := by omega
            have hk5 : ¬ 0 < k := by omega
            have HM := hid hz
            have R4 := hid (fun w => run_mul (P := Tryz.prog) 22 (x := faC c j) (by have := FA.out; rwa [hz, show 0 * 20 + j = j by omega] at this) (mass_amt hlj) w)
            obtain ⟨g1, g2, g3⟩ := grC_f HQ.out hlj
            have R5 := hid (fun w => run_float_arith (P := Tryz.prog) w .quo 22 .f32 _ _ _ g2)
            have R6 := hid (fun w => run_add (P := Tryz.prog) 22 (gaS_nn HQ.out j (by omega)) g3 w)
            have EF := hid (show faC c (k * 20 + j) = faC c j by rw [hz, show 0 * 20 + j = j by omega])
            clear g1 g2 g3 hz
            go_wp2_with (have _t := tok1; refine store_one (by rfl) 22 _ _ (by rfl) info_f32c (w3.heap.size) (k * 20 + j) (.float .f32 (leC c (k * 20 + j))) (by rfl) (by rfl) rfl rfl h0.out (by omega) (by omega) (neC (by omega) (neC (by omega) (neC (by omega) ne0))) ?_; intro wy h1; replace h1 := hid (h1.ext (stM_is c t HL.out HJ.out)); clear h0 tok1)
            rw [EF.out]
            have h1 := hid h1.out.drew
            refine wp_region_still_tail 9 (by kernel_rfl) (by kernel_rfl) ?_
            change wpStill _ _ wy.drew (fun a' => wpList _ _ _ _ a' wy.drew) _ _
            simp only [List.take_succ_cons, List.take_zero, List.drop_succ_cons, List.drop_zero]
            generalize wy.drew = wz at h1 ⊢
            still_step
            refine still_load rfl 22 _ rfl _ rfl _ ((h1.out.v in0).oneAt 176 (by omega) (.float .f32 (gaS c j)) (stM_gauge' c t HM.out HJ.out) Tryz.underlying22 (by rfl)) ?_
            simp only [Act.put, List.setIfInBounds_toArray, List.set_cons_zero, List.set_cons_succ]
            still_step
            still_step
            still_call (back (sMass j HJ.out _))
            refine still_val rfl (.float .f32 (fmul (faC c j) (mass j))) (run_binop_val _ _ _ _ (by rfl) (by rfl) (by simp [eqGuard]) (R4.out _)) ?_
            simp only [Act.put, List.setIfInBounds_toArray, List.set_cons_zero, List.set_cons_succ]
            refine still_val rfl (.float .f32 (grC c j)) (run_binop_val _ _ _ _ (by rfl) (by rfl) (by simp [eqGuard]) (R5.out _)) ?_
            simp only [Act.put, List.setIfInBounds_toArray, List.set_cons_zero, List.set_cons_succ]
            refine still_val rfl (.float .f32 (gaS c (j + 1))) (run_binop_val _ _ _ _ (by rfl) (by rfl) (by simp [eqGuard]) (R6.out _)) ?_
            simp only [Act.put, List.setIfInBounds_toArray, List.set_cons_zero, List.set_cons_succ]
            still_step
            refine wpStill_nil ?_
            have tok1 : True := trivial
            go_wp2_with (have _t := tok1; refine store_one (by rfl) 22 _ _ (by rfl) info_f32c (w3.heap.size) 176 (.float .f32 (gaS c (j + 1))) (by rfl) (by rfl) rfl rfl h1.out (by omega) (by omega) (neC (by omega) (neC (by omega) (neC (by omega) ne0))) ?_; intro wx h2; replace h2 := hid (h2.ext (stS_gauge' c t HM.out HJ.out)); clear h1 tok1)
            go_roundw
            case rel => exact ⟨j + 1, by omega, by go_num, h2⟩
            case measure => simp [intOf]; omega
          · obtain ⟨m, hm⟩ : ∃ m, k = m + 1 := ⟨k - 1, by omega⟩
            have hk4 : (0 : Int) < (k : Int) := by omega
            have HM := hid hm
            have hkm : (k : Int) - 1 = (m : Int) := by omega
            have hm3 : (m : Int) < 8 := by omega
            have hwm : IntKind.i64.wrap (m : Int) = (m : Int) := by rw [IntKind.wrap_i64]; omega
            have G := fall_f HQ.out (k := m) (by omega) hlj
            have R3 := hid (fun w => run_add (P := Tryz.prog) 22 (amt_nn G.la) (amt_nn (show amtB (faC c (m * 20 + j + 20)) = true by rw [show m * 20 + j + 20 = k * 20 + j by omega]; exact FA.out)) w)
            have EF := hid (show faC c (k * 20 + j) = faC c (m * 20 + j + 20) by rw [show m * 20 + j + 20 = k * 20 + j by omega])
            clear G hm
            go_wp2_with (have _t := tok1; refine store_one (by rfl) 22 _ _ (by rfl) info_f32c (w3.heap.size) (k * 20 + j) (.float .f32 (leC c (k * 20 + j))) (by rfl) (by rfl) rfl rfl h0.out (by omega) (by omega) (neC (by omega) (neC (by omega) (neC (by omega) ne0))) ?_; intro wy h1; replace h1 := hid (h1.ext (stM_is c t HL.out HJ.out)); clear h0 tok1)
            rw [EF.out]
            have h1 := hid h1.out.drew
            refine wp_region_still_tail 15 (by kernel_rfl) (by kernel_rfl) ?_
            change wpStill _ _ wy.drew (fun a' => wpList _ _ _ _ a' wy.drew) _ _
            simp only [List.take_succ_cons, List.take_zero, List.drop_succ_cons, List.drop_zero]
            generalize wy.drew = wz at h1 ⊢
            still_step
            still_step
            still_step
            still_step
            still_step
            still_step
            still_step
            still_step
            still_step
            refine still_load rfl 22 _ rfl _ rfl _ ((h1.out.v in0).oneAt (m * 20 + j) (by have := HL.out; have := HM.out; have := HJ.out; omega) (.float .f32 (leC c (m * 20 + j))) (stM_low' c t HL.out HM.out HJ.out) Tryz.underlying22 (by rfl)) ?_
            simp only [Act.put, List.setIfInBounds_toArray, List.set_cons_zero, List.set_cons_succ]
            still_step
            refine still_val rfl (.float .f32 (dwC c (m * 20 + j))) (run_binop_val _ _ _ _ (by rfl) (by rfl) (by simp [eqGuard]) (R3.out _)) ?_
            simp only [Act.put, List.setIfInBounds_toArray, List.set_cons_zero, List.set_cons_succ]
            still_step
            still_step
            still_step
            refine wpStill_nil ?_
            have tok1 : True := trivial
            go_wp2_with (have _t := tok1; refine store_one (by rfl) 22 _ _ (by rfl) info_f32c (w3.heap.size) (m * 20 + j) (.float .f32 (dwC c (m * 20 + j))) (by rfl) (by rfl) rfl rfl h1.out (by have := HM.out; omega) (by omega) (neC (by omega) (neC (by omega) (neC (by omega) ne0))) ?_; intro wx h2; replace h2 := hid (h2.ext (stS_low' c t HL.out HM.out HJ.out)); clear h1 tok1)
            go_roundw
            case rel => exact ⟨j + 1, by omega, by go_num, h2⟩
            case measure => simp [intOf]; omega
        · obtain rfl : j = 20 := by omega
          have h3 := hid (h0.out.ext (fun i _ => clw_same (fun i => stS_next c k i) t i))
          clear h0
          go_wp2
          go_roundw
          case rel => exact ⟨k + 1, by omega, by go_num, h3⟩
          case measure => simp [intOf]; omega
    · obtain rfl : k = 8 := by omega
      have h3 := hid (h0.out.ext (fun i _ => clw_same (fun i => stS_end c i) t i))
      have tok1 : True := trivial
      have hx := hid (setW_lt HQ.out HB.out)
      clear h0
      go_wp2_with fail
      rcases Classical.em (ColOk (setW c) t) with hok | hok
      · obtain ⟨rfl, rfl, rfl⟩ := H1.out hok
        refine (sMadeC_t (setW c) s hx.out hok _ w3.heap.size 35 (h3.out.v in0)).mono ?_
        rintro e y ⟨rfl, hy⟩
        have k9 : Hid (Kept w [(w.heap.size, vls 178 (clw (fun _ => 0) 0), 35)] y) := hid (Kept.sub (h3.out.stay hy) (fun x hx => by rw [List.mem_singleton.1 hx]; exact in2))
        clear h3 hy hok H1 H0
        go_wp2_with (have _t := tok1; refine store_row (by rfl) 35 _ _ (by rfl) (w.heap.size) (vls 178 (clw (setW c) s)) (vls 178 (clw (fun _ => 0) 0)) (by rfl) (by rfl) k9.out (by rw [vls_size]; exact info_col) (by simp) (vls_one (clw_one _ _)) (by omega) ne0 ?_; intro xk k8; replace k8 := hid k8; clear k9 tok1)
        exact bodyPost_ret (results_row_tmp rfl _ _ (w.heap.size) 35 (vls 178 (clw (setW c) s)) (0, 0) _ rfl (k8.out.at (x := (w.heap.size, vls 178 (clw (setW c) s), 35)) in0) Tryz.underlying35 rfl (by rw [vls_size]; exact info_col)) rfl ⟨rfl, k8.out.1⟩
      · obtain ⟨rfl, rfl, rfl⟩ := H0.out hok
        refine (sMadeC_f (setW c) t hx.out hok _ w3.heap.size 35 (h3.out.v in0)).mono ?_
        rintro e y ⟨rfl, hy⟩
        have k9 : Hid (Kept w [(w.heap.size, vls 178 (clw (fun _ => 0) 0), 35)] y) := hid (Kept.sub (h3.out.stay hy) (fun x hx => by rw [List.mem_singleton.1 hx]; exact in2))
        clear h3 hy hok H1 H0
        go_wp2_with (have _t := tok1; refine store_row (by rfl) 35 _ _ (by rfl) (w.heap.size) (vls 178 (clw (fun _ => 0) 0)) (vls 178 (clw (fun _ => 0) 0)) (by rfl) (by rfl) k9.out (by rw [vls_size]; exact info_col) (by simp) (vls_one (clw_one _ _)) (by omega) ne0 ?_; intro xk k8; replace k8 := hid k8; clear k9 tok1)
        exact bodyPost_ret (results_row_tmp rfl _ _ (w.heap.size) 35 (vls 178 (clw (fun _ => 0) 0)) (0, 0) _ rfl (k8.out.at (x := (w.heap.size, vls 178 (clw (fun _ => 0) 0), 35)) in0) Tryz.underlying35 rfl (by rw [vls_size]; exact info_col)) rfl ⟨rfl, k8.out.1⟩

theorem ix_air {i : Nat} (hi : i < 8) (g : Nat) (w : World) : (Instr.indexAt 33 (.pointer (some ⟨g, 160, none⟩)) (.int .i64 (i : Int))).run Tryz.prog w = .ok (.pointer (some ⟨g, 160 + i * 2, none⟩)) w := by
  have ha : Tryz.prog.arrayLen 33 = 8 := by kernel_rfl
  have hz : ∀ w, (sizeOf (Tryz.prog.elem 33)).run Tryz.prog w = .ok 2 w := fun w => by kernel_rfl
  have h8 : (i : Int) < 8 := by omega
  rw [run_indexAt_array _ _ _ _ _ (by kernel_rfl)]
  simp [ha, hz, h8, Addr.add]

theorem ix_dr {i : Nat} (hi : i < 8) (g : Nat) (w : World) : (Instr.indexAt 31 (.pointer (some ⟨g, 0, none⟩)) (.int .i64 (i : Int))).run Tryz.prog w = .ok (.pointer (some ⟨g, i * 20, none⟩)) w := by
  have ha : Tryz.prog.arrayLen 31 = 8 := by kernel_rfl
  have hz : ∀ w, (sizeOf (Tryz.prog.elem 31)).run Tryz.prog w = .ok 20 w := fun w => by kernel_rfl
  have h8 : (i : Int) < 8 := by omega
  rw [run_indexAt_array _ _ _ _ _ (by kernel_rfl)]
  simp [ha, hz, h8, Addr.add]
  omega

set_option maxRecDepth 100000 in
set_option maxHeartbeats 1000000 in
theorem sGrowL (c : Nat → Nat) (t : Int) (hb : ∀ i, i < 177 → c i < 4294967296) (h : ColOk c t) (K : Nat) (hK : K ≤ 8) (hM : ∀ j, j < K → okCel c j) (hN : K < 8 → ¬ okCel c K) (r : Nat → Nat) (s n : Int) (hr1 : K = 8 → r = gcG c 8 8 ∧ s = t ∧ n = 0) (hr0 : K ≠ 8 → r = (fun _ => 0) ∧ s = 0 ∧ n = 4) (w : World) (g : Nat) (T : TypeId) (hg : vAt w g 178 (clw c t) T) :
    Calls Tryz.prog 50 #[.pointer (some ⟨g, 0, none⟩)] w fun e w' => e = .returned (.tuple #[.agg (vls 178 (clw r s)), .int .i64 n]) ∧ Below w.heap.size w w' := by
  have hgl := hg.lt
  have kk : Kept w [(g, vls 178 (clw c t), T)] w := ⟨Below.refl _ _, fun x hx => by rw [List.mem_singleton.1 hx]; exact hg⟩
  have k0 : Hid (Kept w [(w.heap.size + 1, vls 178 (clw (fun _ => 0) 0), 35), (w.heap.size, vls 178 (clw (fun _ => 0) 0), 35), (g, vls 178 (clw c t), T)] ((w.alloc (.cells (vls 178 (clw (fun _ => 0) 0)) 35)).alloc (.cells (vls 178 (clw (fun _ => 0) 0)) 35))) := by
    have := (kk.push (vls 178 (clw (fun _ => 0) 0)) 35).push (vls 178 (clw (fun _ => 0) 0)) 35
    simp only [World.size_alloc] at this
    exact hid this
  have HGL := hid hgl
  have HB := hid hb
  have HQ := hid h
  have HM := hid hM
  have HN := hid hN
  have HR1 := hid hr1
  have HR0 := hid hr0
  have kkH := hid (kk.push (vls 178 (clw (fun _ => 0) 0)) 35)
  clear hb h hM hN hr1 hr0 hg hgl kk
  go_enter Tryz.func50, Tryz.ntmps50
  have tok1 : True := trivial
  go_wp2_with (first
    | (have _t := tok1; clear tok1; refine load_cut (by rfl) 35 _ (by rfl) g 0 178 (by rfl) (kkH.out.v in1) (by omega) (vls 178 (clw c t)) (vls_ext fun i _ => by rw [Nat.zero_add]) _ Tryz.underlying35 (by rfl) info_col ?_; have tok2 : True := trivial)
    | (have _t := tok2; clear tok2; refine store_row (by rfl) 35 _ _ (by rfl) (w.heap.size + 1) (vls 178 (clw c t)) (vls 178 (clw (fun _ => 0) 0)) (by rfl) (by rfl) k0.out (by rw [vls_size]; exact info_col) (by simp) (vls_one (clw_one _ _)) (by omega) (neC (by omega) (neC (by have := HGL.out; omega) ne0)) ?_; intro w2 k2; replace k2 := hid k2; clear k0 kkH))
  have k5 : Hid (Kept w [(w.heap.size + 1, vls 178 (clw (gcG c 0 0) t), 35), (w.heap.size, vls 178 (clw (fun _ => 0) 0), 35), (g, vls 178 (clw c t), T)] w2) := hid (k2.out.ext (fun i _ => (clw_same (fun i => gcG_zero c i) t i).symm))
  clear k2
  go_loopw [5] (fun i wr => ∃ k : Nat, k ≤ K ∧ i = .int .i64 k ∧ Hid (Kept w [(w.heap.size + 1, vls 178 (clw (gcG c k k) t), 35), (w.heap.size, vls 178 (clw (fun _ => 0) 0), 35), (g, vls 178 (clw c t), T)] wr)) (fun i _ => 8 - (intOf i).toNat)
  case atStart => exact ⟨0, by omega, rfl, k5⟩
  case round =>
    clear k5
    obtain ⟨k, hk, rfl, h0⟩ := hrel
    by_cases h8 : k < 8
    · have HL := hid h8
      have hk3 : (k : Int) < 8 := by omega
      have HV := hid (gcel_val HQ.out HB.out h8)
      have HF : Hid (∀ j, j < 20 → clw c t (k * 20 + j) = .float .f32 ((gCel c k).c j)) := hid fun j hj => clw_f (by omega)
      have HF0 : Hid (clw c t (160 + k * 2) = .float .f32 (gCel c k).h) := hid (clw_f (by omega))
      have HF1 : Hid (clw c t (160 + k * 2 + 1) = .float .f32 (gCel c k).v) := hid (clw_f (by omega))
      by_cases hlt : k < K
      · have HK2 := hid hlt
        have HC := hid (fun w (hp : vAt w g 178 (clw c t) T) => sOnceO_t tickT (gCel c k) HV.out (HM.out k hlt) w g g T T 178 (k * 20) (clw c t) (by omega) HF.out 178 (160 + k * 2) (clw c t) (by omega) HF0.out HF1.out hp hp)
        clear hlt hk
        go_wp2_with fail
        refine region_act (w0 := w) (lk := [(w.heap.size + 1, vls 178 (clw (gcG c k k) t), 35), (w.heap.size, vls 178 (clw (fun _ => 0) 0), 35), (g, vls 178 (clw c t), T)]) (fun a0 a1 wq => ∃ g6 g7 : Nat, a1 = ((((((((((((((((((a0.put (some 17) (.pointer (some ⟨g, 0, none⟩))).put (some 18) (.int .i64 (k : Int))).put (some 19) (.pointer (some ⟨g, 0, none⟩))).put (some 20) (.pointer (some ⟨g, 0, none⟩))).put (some 21) (.pointer (some ⟨g, k * 20, none⟩))).put (some 22) (.pointer (some ⟨g, 0, none⟩))).put (some 23) (.int .i64 (k : Int))).put (some 24) (.pointer (some ⟨g, 0, none⟩))).put (some 25) (.pointer (some ⟨g, 160, none⟩))).put (some 26) (.pointer (some ⟨g, 160 + k * 2, none⟩))).put (some 27) (.tuple #[.agg (fls (nCel c k).c), .agg #[.float .f32 (nCel c k).h, .float .f32 (nCel c k).v], .int .i64 0])).put (some 16) (.tuple #[.agg (fls (nCel c k).c), .agg #[.float .f32 (nCel c k).h, .float .f32 (nCel c k).v], .int .i64 0])).put (some 28) (.agg (fls (nCel c k).c))).put (some 29) (.agg #[.float .f32 (nCel c k).h, .float .f32 (nCel c k).v])).put (some 30) (.int .i64 0)).put (some 6) (.pointer (some ⟨g6, 0, none⟩))).put (some 7) (.pointer (some ⟨g7, 0, none⟩))).put (some 8) (.int .i64 0)) ∧ (g7 ≠ w.heap.size + 1 ∧ g6 ≠ w.heap.size + 1) ∧ Kept w [(g7, #[.float .f32 (nCel c k).h, .float .f32 (nCel c k).v], 32), (g6, fls (nCel c k).c, 30), (w.heap.size + 1, vls 178 (clw (gcG c k k) t), 35), (w.heap.size, vls 178 (clw (fun _ => 0) 0), 35), (g, vls 178 (clw c t), T)] wq) 20 #[false, false, false, false, false, false, false, false, false, false, false, false, false, false, false, false, false, false, false, false] (by kernel_rfl) rfl rfl ?_ ?_
        · have kd := h0.out.drew
          generalize World.drew _ = wd at kd ⊢
          refine take_val 0 _ _ (.pointer (some ⟨g, 0, none⟩)) rfl (by rfl) (by kernel_rfl) (by kernel_rfl) (by kernel_rfl) (fun w => by rfl) rfl rfl kd ?_
          simp only [Act.put, List.setIfInBounds_toArray, List.set_cons_zero, List.set_cons_succ]
          refine take_val 1 _ _ (.int .i64 (k : Int)) rfl (by rfl) (by kernel_rfl) (by kernel_rfl) (by kernel_rfl) (fun w => by rfl) rfl rfl kd ?_
          simp only [Act.put, List.setIfInBounds_toArray, List.set_cons_zero, List.set_cons_succ]
          refine take_val 2 _ _ (.pointer (some ⟨g, 0, none⟩)) rfl (by rfl) (by kernel_rfl) (by kernel_rfl) (by kernel_rfl) (fun w => by unfold execOp; go_simp) rfl rfl kd ?_
          simp only [Act.put, List.setIfInBounds_toArray, List.set_cons_zero, List.set_cons_succ]
          refine take_val 3 _ _ (.pointer (some ⟨g, 0, none⟩)) rfl (by rfl) (by kernel_rfl) (by kernel_rfl) (by kernel_rfl) (fun w => by unfold execOp; go_simp) rfl rfl kd ?_
          simp only [Act.put, List.setIfInBounds_toArray, List.set_cons_zero, List.set_cons_succ]
          refine take_val 4 _ _ (.pointer (some ⟨g, k * 20, none⟩)) rfl (by rfl) (by kernel_rfl) (by kernel_rfl) (by kernel_rfl) (fun w => by unfold execOp; go_simp) rfl rfl kd ?_
          simp only [Act.put, List.setIfInBounds_toArray, List.set_cons_zero, List.set_cons_succ]
          refine take_val 5 _ _ (.pointer (some ⟨g, 0, none⟩)) rfl (by rfl) (by kernel_rfl) (by kernel_rfl) (by kernel_rfl) (fun w => by rfl) rfl rfl kd ?_
          simp only [Act.put, List.setIfInBounds_toArray, List.set_cons_zero, List.set_cons_succ]
          refine take_val 6 _ _ (.int .i64 (k : Int)) rfl (by rfl) (by kernel_rfl) (by kernel_rfl) (by kernel_rfl) (fun w => by rfl) rfl rfl kd ?_
          simp only [Act.put, List.setIfInBounds_toArray, List.set_cons_zero, List.set_cons_succ]
          refine take_val 7 _ _ (.pointer (some ⟨g, 0, none⟩)) rfl (by rfl) (by kernel_rfl) (by kernel_rfl) (by kernel_rfl) (fun w => by unfold execOp; go_simp) rfl rfl kd ?_
          simp only [Act.put, List.setIfInBounds_toArray, List.set_cons_zero, List.set_cons_succ]
          refine take_val 8 _ _ (.pointer (some ⟨g, 160, none⟩)) rfl (by rfl) (by kernel_rfl) (by kernel_rfl) (by kernel_rfl) (fun w => by unfold execOp; go_simp) rfl rfl kd ?_
          simp only [Act.put, List.setIfInBounds_toArray, List.set_cons_zero, List.set_cons_succ]
          refine take_val 9 _ _ (.pointer (some ⟨g, 160 + k * 2, none⟩)) rfl (by rfl) (by kernel_rfl) (by kernel_rfl) (by kernel_rfl) (fun w => by unfold execOp; go_simp) rfl rfl kd ?_
          simp only [Act.put, List.setIfInBounds_toArray, List.set_cons_zero, List.set_cons_succ]
          refine wpAnyH_ready (rs := [10, 15, 16]) (by kernel_rfl) (by simp) ?_
          refine callK 10 _ _ (.tuple #[.agg (fls (nCel c k).c), .agg #[.float .f32 (nCel c k).h, .float .f32 (nCel c k).v], .int .i64 0]) kd rfl (by rfl) 81 #[.pointer (some ⟨g, k * 20, none⟩), .pointer (some ⟨g, 160 + k * 2, none⟩), .float .f32 1031798784] (fun w => by unfold execOp; go_simp) rfl rfl ?hc1 (fun w1 k1 => ?_) ?_
          case hc1 => exact HC.out _ (kd.v in2)
          · refine ⟨k1, ?_⟩
            simp only [Act.put, List.setIfInBounds_toArray, List.set_cons_zero, List.set_cons_succ]
            refine take_val 11 _ _ (.tuple #[.agg (fls (nCel c k).c), .agg #[.float .f32 (nCel c k).h, .float .f32 (nCel c k).v], .int .i64 0]) rfl (by rfl) (by kernel_rfl) (by kernel_rfl) (by kernel_rfl) (fun w => by rfl) rfl rfl k1 ?_
            simp only [Act.put, List.setIfInBounds_toArray, List.set_cons_zero, List.set_cons_succ]
            refine take_val 12 _ _ (.agg (fls (nCel c k).c)) rfl (by rfl) (by kernel_rfl) (by kernel_rfl) (by kernel_rfl) (fun w => by unfold execOp; go_simp) rfl rfl k1 ?_
            simp only [Act.put, List.setIfInBounds_toArray, List.set_cons_zero, List.set_cons_succ]
            refine take_val 13 _ _ (.agg #[.float .f32 (nCel c k).h, .float .f32 (nCel c k).v]) rfl (by rfl) (by kernel_rfl) (by kernel_rfl) (by kernel_rfl) (fun w => by unfold execOp; go_simp) rfl rfl k1 ?_
            simp only [Act.put, List.setIfInBounds_toArray, List.set_cons_zero, List.set_cons_succ]
            refine take_val 14 _ _ (.int .i64 0) rfl (by rfl) (by kernel_rfl) (by kernel_rfl) (by kernel_rfl) (fun w => by unfold execOp; go_simp) rfl rfl k1 ?_
            simp only [Act.put, List.setIfInBounds_toArray, List.set_cons_zero, List.set_cons_succ]
            refine wpAnyH_ready (rs := [15, 16]) (by kernel_rfl) (by simp) ?_
            refine allocK 15 (fun g => _) _ k1 rfl (by rfl) (fls fun _ => 0) 30 (by unfold execOp; go_simp) (fun g => rfl) rfl (fun w2 g2 k2 hB2 hn2 => ?_) ?_
            · refine ⟨k2.tail, ?_⟩
              simp only [Act.put, List.setIfInBounds_toArray, List.set_cons_zero, List.set_cons_succ]
              refine wpAnyH_ready (rs := [16]) (by kernel_rfl) (by simp) ?_
              refine allocK 16 (fun g => _) _ k2 rfl (by rfl) (#[.float .f32 0, .float .f32 0]) 32 (by unfold execOp; go_simp) (fun g => rfl) rfl (fun w3 g3 k3 hB3 hn3 => ?_) AllReadyH.nil
              refine ⟨k3.tail.tail, ?_⟩
              simp only [Act.put, List.setIfInBounds_toArray, List.set_cons_zero, List.set_cons_succ]
              refine wpAnyH_ready (rs := [17]) (by kernel_rfl) (by simp) ?_
              refine storeK 17 _ _ (k3).swap hB2 (neC (hn3 _ in0).symm hn2) rfl (by rfl) 30 _ _ rfl (fls (nCel c k).c) rfl rfl (by rw [fls_size]; exact info_arr) (by simp) (fls_one _) rfl rfl (fun w4 k4 => ?_) AllReadyH.nil
              refine ⟨k4.tail.tail, ?_⟩
              refine wpAnyH_ready (rs := [18]) (by kernel_rfl) (by simp) ?_
              refine storeK 18 _ _ (k4).swap hB3 (neC (hn3 _ in0) (fun x hx => hn3 x (List.mem_cons_of_mem _ hx))) rfl (by rfl) 32 _ _ rfl (#[.float .f32 (nCel c k).h, .float .f32 (nCel c k).v]) rfl rfl (info_air) (by simp) (two_one _ _) rfl rfl (fun w5 k5 => ?_) AllReadyH.nil
              refine ⟨k5.tail.tail, ?_⟩
              refine take_val 19 _ _ (.int .i64 0) rfl (by rfl) (by kernel_rfl) (by kernel_rfl) (by kernel_rfl) (fun w => by rfl) rfl rfl k5.tail.tail ?_
              simp only [Act.put, List.setIfInBounds_toArray, List.set_cons_zero, List.set_cons_succ]
              refine wpAnyH_done (by kernel_rfl) ?_ _
              exact ⟨rfl, g2, g3, rfl, ⟨((fun x hx => hn3 x (List.mem_cons_of_mem _ hx)) (w.heap.size + 1, vls 178 (clw (gcG c k k) t), 35) in0).symm, (hn2 (w.heap.size + 1, vls 178 (clw (gcG c k k) t), 35) in0).symm⟩, k5⟩
            refine allocK 16 (fun g => _) _ k1 rfl (by rfl) (#[.float .f32 0, .float .f32 0]) 32 (by unfold execOp; go_simp) (fun g => rfl) rfl (fun w6 g6 k6 hB6 hn6 => ?_) AllReadyH.nil
            refine ⟨k6.tail, ?_⟩
            simp only [Act.put, List.setIfInBounds_toArray, List.set_cons_zero, List.set_cons_succ]
            refine wpAnyH_ready (rs := [15]) (by kernel_rfl) (by simp) ?_
            refine allocK 15 (fun g => _) _ k6 rfl (by rfl) (fls fun _ => 0) 30 (by unfold execOp; go_simp) (fun g => rfl) rfl (fun w7 g7 k7 hB7 hn7 => ?_) AllReadyH.nil
            refine ⟨k7.tail.tail, ?_⟩
            simp only [Act.put, List.setIfInBounds_toArray, List.set_cons_zero, List.set_cons_succ]
            refine wpAnyH_ready (rs := [17]) (by kernel_rfl) (by simp) ?_
            refine storeK 17 _ _ k7 hB7 (neC (hn7 _ in0) (fun x hx => hn7 x (List.mem_cons_of_mem _ hx))) rfl (by rfl) 30 _ _ rfl (fls (nCel c k).c) rfl rfl (by rw [fls_size]; exact info_arr) (by simp) (fls_one _) rfl rfl (fun w8 k8 => ?_) AllReadyH.nil
            refine ⟨k8.tail.tail, ?_⟩
            refine wpAnyH_ready (rs := [18]) (by kernel_rfl) (by simp) ?_
            refine storeK 18 _ _ (k8).swap hB6 (neC (hn7 _ in0).symm hn6) rfl (by rfl) 32 _ _ rfl (#[.float .f32 (nCel c k).h, .float .f32 (nCel c k).v]) rfl rfl (info_air) (by simp) (two_one _ _) rfl rfl (fun w9 k9 => ?_) AllReadyH.nil
            refine ⟨k9.tail.tail, ?_⟩
            refine take_val 19 _ _ (.int .i64 0) rfl (by rfl) (by kernel_rfl) (by kernel_rfl) (by kernel_rfl) (fun w => by rfl) rfl rfl k9.tail.tail ?_
            simp only [Act.put, List.setIfInBounds_toArray, List.set_cons_zero, List.set_cons_succ]
            refine wpAnyH_done (by kernel_rfl) ?_ _
            exact ⟨rfl, g7, g6, rfl, ⟨(hn6 (w.heap.size + 1, vls 178 (clw (gcG c k k) t), 35) in0).symm, ((fun x hx => hn7 x (List.mem_cons_of_mem _ hx)) (w.heap.size + 1, vls 178 (clw (gcG c k k) t), 35) in0).symm⟩, k9⟩
          refine allocK 15 (fun g => _) _ kd rfl (by rfl) (fls fun _ => 0) 30 (by unfold execOp; go_simp) (fun g => rfl) rfl (fun w10 g10 k10 hB10 hn10 => ?_) ?_
          · refine ⟨k10.tail, ?_⟩
            simp only [Act.put, List.setIfInBounds_toArray, List.set_cons_zero, List.set_cons_succ]
            refine wpAnyH_ready (rs := [10, 16]) (by kernel_rfl) (by simp) ?_
            refine callK 10 _ _ (.tuple #[.agg (fls (nCel c k).c), .agg #[.float .f32 (nCel c k).h, .float .f32 (nCel c k).v], .int .i64 0]) k10 rfl (by rfl) 81 #[.pointer (some ⟨g, k * 20, none⟩), .pointer (some ⟨g, 160 + k * 2, none⟩), .float .f32 1031798784] (fun w => by unfold execOp; go_simp) rfl rfl ?hc11 (fun w11 k11 => ?_) ?_
            case hc11 => exact HC.out _ (k10.tail.v in2)
            · refine ⟨k11.tail, ?_⟩
              simp only [Act.put, List.setIfInBounds_toArray, List.set_cons_zero, List.set_cons_succ]
              refine take_val 11 _ _ (.tuple #[.agg (fls (nCel c k).c), .agg #[.float .f32 (nCel c k).h, .float .f32 (nCel c k).v], .int .i64 0]) rfl (by rfl) (by kernel_rfl) (by kernel_rfl) (by kernel_rfl) (fun w => by rfl) rfl rfl k11.tail ?_
              simp only [Act.put, List.setIfInBounds_toArray, List.set_cons_zero, List.set_cons_succ]
              refine take_val 12 _ _ (.agg (fls (nCel c k).c)) rfl (by rfl) (by kernel_rfl) (by kernel_rfl) (by kernel_rfl) (fun w => by unfold execOp; go_simp) rfl rfl k11.tail ?_
              simp only [Act.put, List.setIfInBounds_toArray, List.set_cons_zero, List.set_cons_succ]
              refine take_val 13 _ _ (.agg #[.float .f32 (nCel c k).h, .float .f32 (nCel c k).v]) rfl (by rfl) (by kernel_rfl) (by kernel_rfl) (by kernel_rfl) (fun w => by unfold execOp; go_simp) rfl rfl k11.tail ?_
              simp only [Act.put, List.setIfInBounds_toArray, List.set_cons_zero, List.set_cons_succ]
              refine take_val 14 _ _ (.int .i64 0) rfl (by rfl) (by kernel_rfl) (by kernel_rfl) (by kernel_rfl) (fun w => by unfold execOp; go_simp) rfl rfl k11.tail ?_
              simp only [Act.put, List.setIfInBounds_toArray, List.set_cons_zero, List.set_cons_succ]
              refine wpAnyH_ready (rs := [16]) (by kernel_rfl) (by simp) ?_
              refine allocK 16 (fun g => _) _ k11 rfl (by rfl) (#[.float .f32 0, .float .f32 0]) 32 (by unfold execOp; go_simp) (fun g => rfl) rfl (fun w12 g12 k12 hB12 hn12 => ?_) AllReadyH.nil
              refine ⟨k12.tail.tail, ?_⟩
              simp only [Act.put, List.setIfInBounds_toArray, List.set_cons_zero, List.set_cons_succ]
              refine wpAnyH_ready (rs := [17]) (by kernel_rfl) (by simp) ?_
              refine storeK 17 _ _ (k12).swap hB10 (neC (hn12 _ in0).symm hn10) rfl (by rfl) 30 _ _ rfl (fls (nCel c k).c) rfl rfl (by rw [fls_size]; exact info_arr) (by simp) (fls_one _) rfl rfl (fun w13 k13 => ?_) AllReadyH.nil
              refine ⟨k13.tail.tail, ?_⟩
              refine wpAnyH_ready (rs := [18]) (by kernel_rfl) (by simp) ?_
              refine storeK 18 _ _ (k13).swap hB12 (neC (hn12 _ in0) (fun x hx => hn12 x (List.mem_cons_of_mem _ hx))) rfl (by rfl) 32 _ _ rfl (#[.float .f32 (nCel c k).h, .float .f32 (nCel c k).v]) rfl rfl (info_air) (by simp) (two_one _ _) rfl rfl (fun w14 k14 => ?_) AllReadyH.nil
              refine ⟨k14.tail.tail, ?_⟩
              refine take_val 19 _ _ (.int .i64 0) rfl (by rfl) (by kernel_rfl) (by kernel_rfl) (by kernel_rfl) (fun w => by rfl) rfl rfl k14.tail.tail ?_
              simp only [Act.put, List.setIfInBounds_toArray, List.set_cons_zero, List.set_cons_succ]
              refine wpAnyH_done (by kernel_rfl) ?_ _
              exact ⟨rfl, g10, g12, rfl, ⟨((fun x hx => hn12 x (List.mem_cons_of_mem _ hx)) (w.heap.size + 1, vls 178 (clw (gcG c k k) t), 35) in0).symm, (hn10 (w.heap.size + 1, vls 178 (clw (gcG c k k) t), 35) in0).symm⟩, k14⟩
            refine allocK 16 (fun g => _) _ k10 rfl (by rfl) (#[.float .f32 0, .float .f32 0]) 32 (by unfold execOp; go_simp) (fun g => rfl) rfl (fun w15 g15 k15 hB15 hn15 => ?_) AllReadyH.nil
            refine ⟨k15.tail.tail, ?_⟩
            simp only [Act.put, List.setIfInBounds_toArray, List.set_cons_zero, List.set_cons_succ]
            refine wpAnyH_ready (rs := [10]) (by kernel_rfl) (by simp) ?_
            refine callK 10 _ _ (.tuple #[.agg (fls (nCel c k).c), .agg #[.float .f32 (nCel c k).h, .float .f32 (nCel c k).v], .int .i64 0]) k15 rfl (by rfl) 81 #[.pointer (some ⟨g, k * 20, none⟩), .pointer (some ⟨g, 160 + k * 2, none⟩), .float .f32 1031798784] (fun w => by unfold execOp; go_simp) rfl rfl ?hc16 (fun w16 k16 => ?_) AllReadyH.nil
            case hc16 => exact HC.out _ (k15.tail.tail.v in2)
            refine ⟨k16.tail.tail, ?_⟩
            simp only [Act.put, List.setIfInBounds_toArray, List.set_cons_zero, List.set_cons_succ]
            refine take_val 11 _ _ (.tuple #[.agg (fls (nCel c k).c), .agg #[.float .f32 (nCel c k).h, .float .f32 (nCel c k).v], .int .i64 0]) rfl (by rfl) (by kernel_rfl) (by kernel_rfl) (by kernel_rfl) (fun w => by rfl) rfl rfl k16.tail.tail ?_
            simp only [Act.put, List.setIfInBounds_toArray, List.set_cons_zero, List.set_cons_succ]
            refine take_val 12 _ _ (.agg (fls (nCel c k).c)) rfl (by rfl) (by kernel_rfl) (by kernel_rfl) (by kernel_rfl) (fun w => by unfold execOp; go_simp) rfl rfl k16.tail.tail ?_
            simp only [Act.put, List.setIfInBounds_toArray, List.set_cons_zero, List.set_cons_succ]
            refine take_val 13 _ _ (.agg #[.float .f32 (nCel c k).h, .float .f32 (nCel c k).v]) rfl (by rfl) (by kernel_rfl) (by kernel_rfl) (by kernel_rfl) (fun w => by unfold execOp; go_simp) rfl rfl k16.tail.tail ?_
            simp only [Act.put, List.setIfInBounds_toArray, List.set_cons_zero, List.set_cons_succ]
            refine take_val 14 _ _ (.int .i64 0) rfl (by rfl) (by kernel_rfl) (by kernel_rfl) (by kernel_rfl) (fun w => by unfold execOp; go_simp) rfl rfl k16.tail.tail ?_
            simp only [Act.put, List.setIfInBounds_toArray, List.set_cons_zero, List.set_cons_succ]
            refine wpAnyH_ready (rs := [17]) (by kernel_rfl) (by simp) ?_
            refine storeK 17 _ _ (k16).swap hB10 (neC (hn15 _ in0).symm hn10) rfl (by rfl) 30 _ _ rfl (fls (nCel c k).c) rfl rfl (by rw [fls_size]; exact info_arr) (by simp) (fls_one _) rfl rfl (fun w17 k17 => ?_) AllReadyH.nil
            refine ⟨k17.tail.tail, ?_⟩
            refine wpAnyH_ready (rs := [18]) (by kernel_rfl) (by simp) ?_
            refine storeK 18 _ _ (k17).swap hB15 (neC (hn15 _ in0) (fun x hx => hn15 x (List.mem_cons_of_mem _ hx))) rfl (by rfl) 32 _ _ rfl (#[.float .f32 (nCel c k).h, .float .f32 (nCel c k).v]) rfl rfl (info_air) (by simp) (two_one _ _) rfl rfl (fun w18 k18 => ?_) AllReadyH.nil
            refine ⟨k18.tail.tail, ?_⟩
            refine take_val 19 _ _ (.int .i64 0) rfl (by rfl) (by kernel_rfl) (by kernel_rfl) (by kernel_rfl) (fun w => by rfl) rfl rfl k18.tail.tail ?_
            simp only [Act.put, List.setIfInBounds_toArray, List.set_cons_zero, List.set_cons_succ]
            refine wpAnyH_done (by kernel_rfl) ?_ _
            exact ⟨rfl, g10, g15, rfl, ⟨((fun x hx => hn15 x (List.mem_cons_of_mem _ hx)) (w.heap.size + 1, vls 178 (clw (gcG c k k) t), 35) in0).symm, (hn10 (w.heap.size + 1, vls 178 (clw (gcG c k k) t), 35) in0).symm⟩, k18⟩
          refine allocK 16 (fun g => _) _ kd rfl (by rfl) (#[.float .f32 0, .float .f32 0]) 32 (by unfold execOp; go_simp) (fun g => rfl) rfl (fun w19 g19 k19 hB19 hn19 => ?_) AllReadyH.nil
          refine ⟨k19.tail, ?_⟩
          simp only [Act.put, List.setIfInBounds_toArray, List.set_cons_zero, List.set_cons_succ]
          refine wpAnyH_ready (rs := [10, 15]) (by kernel_rfl) (by simp) ?_
          refine callK 10 _ _ (.tuple #[.agg (fls (nCel c k).c), .agg #[.float .f32 (nCel c k).h, .float .f32 (nCel c k).v], .int .i64 0]) k19 rfl (by rfl) 81 #[.pointer (some ⟨g, k * 20, none⟩), .pointer (some ⟨g, 160 + k * 2, none⟩), .float .f32 1031798784] (fun w => by unfold execOp; go_simp) rfl rfl ?hc20 (fun w20 k20 => ?_) ?_
          case hc20 => exact HC.out _ (k19.tail.v in2)
          · refine ⟨k20.tail, ?_⟩
            simp only [Act.put, List.setIfInBounds_toArray, List.set_cons_zero, List.set_cons_succ]
            refine take_val 11 _ _ (.tuple #[.agg (fls (nCel c k).c), .agg #[.float .f32 (nCel c k).h, .float .f32 (nCel c k).v], .int .i64 0]) rfl (by rfl) (by kernel_rfl) (by kernel_rfl) (by kernel_rfl) (fun w => by rfl) rfl rfl k20.tail ?_
            simp only [Act.put, List.setIfInBounds_toArray, List.set_cons_zero, List.set_cons_succ]
            refine take_val 12 _ _ (.agg (fls (nCel c k).c)) rfl (by rfl) (by kernel_rfl) (by kernel_rfl) (by kernel_rfl) (fun w => by unfold execOp; go_simp) rfl rfl k20.tail ?_
            simp only [Act.put, List.setIfInBounds_toArray, List.set_cons_zero, List.set_cons_succ]
            refine take_val 13 _ _ (.agg #[.float .f32 (nCel c k).h, .float .f32 (nCel c k).v]) rfl (by rfl) (by kernel_rfl) (by kernel_rfl) (by kernel_rfl) (fun w => by unfold execOp; go_simp) rfl rfl k20.tail ?_
            simp only [Act.put, List.setIfInBounds_toArray, List.set_cons_zero, List.set_cons_succ]
            refine take_val 14 _ _ (.int .i64 0) rfl (by rfl) (by kernel_rfl) (by kernel_rfl) (by kernel_rfl) (fun w => by unfold execOp; go_simp) rfl rfl k20.tail ?_
            simp only [Act.put, List.setIfInBounds_toArray, List.set_cons_zero, List.set_cons_succ]
            refine wpAnyH_ready (rs := [15]) (by kernel_rfl) (by simp) ?_
            refine allocK 15 (fun g => _) _ k20 rfl (by rfl) (fls fun _ => 0) 30 (by unfold execOp; go_simp) (fun g => rfl) rfl (fun w21 g21 k21 hB21 hn21 => ?_) AllReadyH.nil
            refine ⟨k21.tail.tail, ?_⟩
            simp only [Act.put, List.setIfInBounds_toArray, List.set_cons_zero, List.set_cons_succ]
            refine wpAnyH_ready (rs := [17]) (by kernel_rfl) (by simp) ?_
            refine storeK 17 _ _ k21 hB21 (neC (hn21 _ in0) (fun x hx => hn21 x (List.mem_cons_of_mem _ hx))) rfl (by rfl) 30 _ _ rfl (fls (nCel c k).c) rfl rfl (by rw [fls_size]; exact info_arr) (by simp) (fls_one _) rfl rfl (fun w22 k22 => ?_) AllReadyH.nil
            refine ⟨k22.tail.tail, ?_⟩
            refine wpAnyH_ready (rs := [18]) (by kernel_rfl) (by simp) ?_
            refine storeK 18 _ _ (k22).swap hB19 (neC (hn21 _ in0).symm hn19) rfl (by rfl) 32 _ _ rfl (#[.float .f32 (nCel c k).h, .float .f32 (nCel c k).v]) rfl rfl (info_air) (by simp) (two_one _ _) rfl rfl (fun w23 k23 => ?_) AllReadyH.nil
            refine ⟨k23.tail.tail, ?_⟩
            refine take_val 19 _ _ (.int .i64 0) rfl (by rfl) (by kernel_rfl) (by kernel_rfl) (by kernel_rfl) (fun w => by rfl) rfl rfl k23.tail.tail ?_
            simp only [Act.put, List.setIfInBounds_toArray, List.set_cons_zero, List.set_cons_succ]
            refine wpAnyH_done (by kernel_rfl) ?_ _
            exact ⟨rfl, g21, g19, rfl, ⟨(hn19 (w.heap.size + 1, vls 178 (clw (gcG c k k) t), 35) in0).symm, ((fun x hx => hn21 x (List.mem_cons_of_mem _ hx)) (w.heap.size + 1, vls 178 (clw (gcG c k k) t), 35) in0).symm⟩, k23⟩
          refine allocK 15 (fun g => _) _ k19 rfl (by rfl) (fls fun _ => 0) 30 (by unfold execOp; go_simp) (fun g => rfl) rfl (fun w24 g24 k24 hB24 hn24 => ?_) AllReadyH.nil
          refine ⟨k24.tail.tail, ?_⟩
          simp only [Act.put, List.setIfInBounds_toArray, List.set_cons_zero, List.set_cons_succ]
          refine wpAnyH_ready (rs := [10]) (by kernel_rfl) (by simp) ?_
          refine callK 10 _ _ (.tuple #[.agg (fls (nCel c k).c), .agg #[.float .f32 (nCel c k).h, .float .f32 (nCel c k).v], .int .i64 0]) k24 rfl (by rfl) 81 #[.pointer (some ⟨g, k * 20, none⟩), .pointer (some ⟨g, 160 + k * 2, none⟩), .float .f32 1031798784] (fun w => by unfold execOp; go_simp) rfl rfl ?hc25 (fun w25 k25 => ?_) AllReadyH.nil
          case hc25 => exact HC.out _ (k24.tail.tail.v in2)
          refine ⟨k25.tail.tail, ?_⟩
          simp only [Act.put, List.setIfInBounds_toArray, List.set_cons_zero, List.set_cons_succ]
          refine take_val 11 _ _ (.tuple #[.agg (fls (nCel c k).c), .agg #[.float .f32 (nCel c k).h, .float .f32 (nCel c k).v], .int .i64 0]) rfl (by rfl) (by kernel_rfl) (by kernel_rfl) (by kernel_rfl) (fun w => by rfl) rfl rfl k25.tail.tail ?_
          simp only [Act.put, List.setIfInBounds_toArray, List.set_cons_zero, List.set_cons_succ]
          refine take_val 12 _ _ (.agg (fls (nCel c k).c)) rfl (by rfl) (by kernel_rfl) (by kernel_rfl) (by kernel_rfl) (fun w => by unfold execOp; go_simp) rfl rfl k25.tail.tail ?_
          simp only [Act.put, List.setIfInBounds_toArray, List.set_cons_zero, List.set_cons_succ]
          refine take_val 13 _ _ (.agg #[.float .f32 (nCel c k).h, .float .f32 (nCel c k).v]) rfl (by rfl) (by kernel_rfl) (by kernel_rfl) (by kernel_rfl) (fun w => by unfold execOp; go_simp) rfl rfl k25.tail.tail ?_
          simp only [Act.put, List.setIfInBounds_toArray, List.set_cons_zero, List.set_cons_succ]
          refine take_val 14 _ _ (.int .i64 0) rfl (by rfl) (by kernel_rfl) (by kernel_rfl) (by kernel_rfl) (fun w => by unfold execOp; go_simp) rfl rfl k25.tail.tail ?_
          simp only [Act.put, List.setIfInBounds_toArray, List.set_cons_zero, List.set_cons_succ]
          refine wpAnyH_ready (rs := [17]) (by kernel_rfl) (by simp) ?_
          refine storeK 17 _ _ k25 hB24 (neC (hn24 _ in0) (fun x hx => hn24 x (List.mem_cons_of_mem _ hx))) rfl (by rfl) 30 _ _ rfl (fls (nCel c k).c) rfl rfl (by rw [fls_size]; exact info_arr) (by simp) (fls_one _) rfl rfl (fun w26 k26 => ?_) AllReadyH.nil
          refine ⟨k26.tail.tail, ?_⟩
          refine wpAnyH_ready (rs := [18]) (by kernel_rfl) (by simp) ?_
          refine storeK 18 _ _ (k26).swap hB19 (neC (hn24 _ in0).symm hn19) rfl (by rfl) 32 _ _ rfl (#[.float .f32 (nCel c k).h, .float .f32 (nCel c k).v]) rfl rfl (info_air) (by simp) (two_one _ _) rfl rfl (fun w27 k27 => ?_) AllReadyH.nil
          refine ⟨k27.tail.tail, ?_⟩
          refine take_val 19 _ _ (.int .i64 0) rfl (by rfl) (by kernel_rfl) (by kernel_rfl) (by kernel_rfl) (fun w => by rfl) rfl rfl k27.tail.tail ?_
          simp only [Act.put, List.setIfInBounds_toArray, List.set_cons_zero, List.set_cons_succ]
          refine wpAnyH_done (by kernel_rfl) ?_ _
          exact ⟨rfl, g24, g19, rfl, ⟨(hn19 (w.heap.size + 1, vls 178 (clw (gcG c k k) t), 35) in0).symm, ((fun x hx => hn24 x (List.mem_cons_of_mem _ hx)) (w.heap.size + 1, vls 178 (clw (gcG c k k) t), 35) in0).symm⟩, k27⟩
        rintro a1 wx ⟨g6, g7, rfl, hg67, k3⟩
        have HG := hid (show g6 ≠ w.heap.size + 1 ∧ g7 ≠ w.heap.size + 1 from ⟨hg67.2, hg67.1⟩)
        clear hg67 h0 HC
        have k3 := hid k3
        simp only [Act.put, List.setIfInBounds_toArray, List.set_cons_zero, List.set_cons_succ]
        have tok1 : True := trivial
        have hxd := ix_dr h8
        have hxa := ix_air h8
        go_wp2_with (first
          | (have _t := tok1; clear tok1; refine wpList_load_row (by rfl) 30 _ (by rfl) g6 (by rfl) 30 (fls (nCel c k).c) (0, 0) _ (k3.out.at (x := (g6, fls (nCel c k).c, 30)) in1) Tryz.underlying30 (by rfl) (by rw [fls_size]; exact info_arr) ?_; have tok2 : True := trivial)
          | (have _t := tok2; clear tok2; refine store_cut rfl 30 _ _ rfl (w.heap.size + 1) (k * 20) 20 (flw (nCel c k).c) (fls (nCel c k).c) rfl rfl rfl info_arr (fun _ => rfl) k3.out.up2 (by have := HL.out; omega) (by omega) (neC HG.out.2 (neC HG.out.1 (neC (by omega) (neC (by have := HGL.out; omega) ne0)))) (fun w4 k4 => ?_); replace k4 := hid ((k4.ext (fun i _ => gcG_row HL.out t i)).dn2); clear k3; have tok3 : True := trivial)
          | (have _t := tok3; clear tok3; refine wpList_load_row (by rfl) 32 _ (by rfl) g7 (by rfl) 32 (#[.float .f32 (nCel c k).h, .float .f32 (nCel c k).v]) (0, 0) _ (k4.out.at (x := (g7, #[.float .f32 (nCel c k).h, .float .f32 (nCel c k).v], 32)) in0) Tryz.underlying32 (by rfl) info_air ?_; have tok4 : True := trivial)
          | (have _t := tok4; clear tok4; refine store_cut rfl 32 _ _ rfl (w.heap.size + 1) (160 + k * 2) 2 (twoW (nCel c k).h (nCel c k).v) (#[.float .f32 (nCel c k).h, .float .f32 (nCel c k).v]) rfl rfl rfl info_air (twoW_one _ _) k4.out.up2 (by have := HL.out; omega) (by omega) (neC HG.out.2 (neC HG.out.1 (neC (by omega) (neC (by have := HGL.out; omega) ne0)))) (fun w5 k5 => ?_); replace k5 := hid ((k5.ext (fun i _ => gcG_air HL.out t i)).sub (pick3 _ _ _ _ _)); clear k4))
        go_roundw
        case rel => exact ⟨k + 1, HK2.out, by go_num, k5⟩
        case measure => simp [intOf]; omega
      · obtain rfl : k = K := by omega
        have HC := hid (fun w (hp : vAt w g 178 (clw c t) T) => sOnceO_f tickT (gCel c k) HV.out (HN.out h8) w g g T T 178 (k * 20) (clw c t) (by omega) HF.out 178 (160 + k * 2) (clw c t) (by omega) HF0.out HF1.out hp hp)
        obtain ⟨rfl, rfl, rfl⟩ := HR0.out (by omega)
        clear hlt hk HR1 HR0
        go_wp2_with fail
        refine region_act (w0 := w) (lk := [(w.heap.size + 1, vls 178 (clw (gcG c k k) t), 35), (w.heap.size, vls 178 (clw (fun _ => 0) 0), 35), (g, vls 178 (clw c t), T)]) (fun a0 a1 wq => ∃ g6 g7 : Nat, a1 = ((((((((((((((((((a0.put (some 17) (.pointer (some ⟨g, 0, none⟩))).put (some 18) (.int .i64 (k : Int))).put (some 19) (.pointer (some ⟨g, 0, none⟩))).put (some 20) (.pointer (some ⟨g, 0, none⟩))).put (some 21) (.pointer (some ⟨g, k * 20, none⟩))).put (some 22) (.pointer (some ⟨g, 0, none⟩))).put (some 23) (.int .i64 (k : Int))).put (some 24) (.pointer (some ⟨g, 0, none⟩))).put (some 25) (.pointer (some ⟨g, 160, none⟩))).put (some 26) (.pointer (some ⟨g, 160 + k * 2, none⟩))).put (some 27) (.tuple #[.agg (fls (fun _ => 0)), .agg #[.float .f32 0, .float .f32 0], .int .i64 4])).put (some 16) (.tuple #[.agg (fls (fun _ => 0)), .agg #[.float .f32 0, .float .f32 0], .int .i64 4])).put (some 28) (.agg (fls (fun _ => 0)))).put (some 29) (.agg #[.float .f32 0, .float .f32 0])).put (some 30) (.int .i64 4)).put (some 6) (.pointer (some ⟨g6, 0, none⟩))).put (some 7) (.pointer (some ⟨g7, 0, none⟩))).put (some 8) (.int .i64 4)) ∧ (g7 ≠ w.heap.size + 1 ∧ g6 ≠ w.heap.size + 1) ∧ Kept w [(g7, #[.float .f32 0, .float .f32 0], 32), (g6, fls (fun _ => 0), 30), (w.heap.size + 1, vls 178 (clw (gcG c k k) t), 35), (w.heap.size, vls 178 (clw (fun _ => 0) 0), 35), (g, vls 178 (clw c t), T)] wq) 20 #[false, false, false, false, false, false, false, false, false, false, false, false, false, false, false, false, false, false, false, false] (by kernel_rfl) rfl rfl ?_ ?_
        · have kd := h0.out.drew
          generalize World.drew _ = wd at kd ⊢
          refine take_val 0 _ _ (.pointer (some ⟨g, 0, none⟩)) rfl (by rfl) (by kernel_rfl) (by kernel_rfl) (by kernel_rfl) (fun w => by rfl) rfl rfl kd ?_
          simp only [Act.put, List.setIfInBounds_toArray, List.set_cons_zero, List.set_cons_succ]
          refine take_val 1 _ _ (.int .i64 (k : Int)) rfl (by rfl) (by kernel_rfl) (by kernel_rfl) (by kernel_rfl) (fun w => by rfl) rfl rfl kd ?_
          simp only [Act.put, List.setIfInBounds_toArray, List.set_cons_zero, List.set_cons_succ]
          refine take_val 2 _ _ (.pointer (some ⟨g, 0, none⟩)) rfl (by rfl) (by kernel_rfl) (by kernel_rfl) (by kernel_rfl) (fun w => by unfold execOp; go_simp) rfl rfl kd ?_
          simp only [Act.put, List.setIfInBounds_toArray, List.set_cons_zero, List.set_cons_succ]
          refine take_val 3 _ _ (.pointer (some ⟨g, 0, none⟩)) rfl (by rfl) (by kernel_rfl) (by kernel_rfl) (by kernel_rfl) (fun w => by unfold execOp; go_simp) rfl rfl kd ?_
          simp only [Act.put, List.setIfInBounds_toArray, List.set_cons_zero, List.set_cons_succ]
          refine take_val 4 _ _ (.pointer (some ⟨g, k * 20, none⟩)) rfl (by rfl) (by kernel_rfl) (by kernel_rfl) (by kernel_rfl) (fun w => by unfold execOp; go_simp) rfl rfl kd ?_
          simp only [Act.put, List.setIfInBounds_toArray, List.set_cons_zero, List.set_cons_succ]
          refine take_val 5 _ _ (.pointer (some ⟨g, 0, none⟩)) rfl (by rfl) (by kernel_rfl) (by kernel_rfl) (by kernel_rfl) (fun w => by rfl) rfl rfl kd ?_
          simp only [Act.put, List.setIfInBounds_toArray, List.set_cons_zero, List.set_cons_succ]
          refine take_val 6 _ _ (.int .i64 (k : Int)) rfl (by rfl) (by kernel_rfl) (by kernel_rfl) (by kernel_rfl) (fun w => by rfl) rfl rfl kd ?_
          simp only [Act.put, List.setIfInBounds_toArray, List.set_cons_zero, List.set_cons_succ]
          refine take_val 7 _ _ (.pointer (some ⟨g, 0, none⟩)) rfl (by rfl) (by kernel_rfl) (by kernel_rfl) (by kernel_rfl) (fun w => by unfold execOp; go_simp) rfl rfl kd ?_
          simp only [Act.put, List.setIfInBounds_toArray, List.set_cons_zero, List.set_cons_succ]
          refine take_val 8 _ _ (.pointer (some ⟨g, 160, none⟩)) rfl (by rfl) (by kernel_rfl) (by kernel_rfl) (by kernel_rfl) (fun w => by unfold execOp; go_simp) rfl rfl kd ?_
          simp only [Act.put, List.setIfInBounds_toArray, List.set_cons_zero, List.set_cons_succ]
          refine take_val 9 _ _ (.pointer (some ⟨g, 160 + k * 2, none⟩)) rfl (by rfl) (by kernel_rfl) (by kernel_rfl) (by kernel_rfl) (fun w => by unfold execOp; go_simp) rfl rfl kd ?_
          simp only [Act.put, List.setIfInBounds_toArray, List.set_cons_zero, List.set_cons_succ]
          refine wpAnyH_ready (rs := [10, 15, 16]) (by kernel_rfl) (by simp) ?_
          refine callK 10 _ _ (.tuple #[.agg (fls (fun _ => 0)), .agg #[.float .f32 0, .float .f32 0], .int .i64 4]) kd rfl (by rfl) 81 #[.pointer (some ⟨g, k * 20, none⟩), .pointer (some ⟨g, 160 + k * 2, none⟩), .float .f32 1031798784] (fun w => by unfold execOp; go_simp) rfl rfl ?hc1 (fun w1 k1 => ?_) ?_
          case hc1 => exact HC.out _ (kd.v in2)
          · refine ⟨k1, ?_⟩
            simp only [Act.put, List.setIfInBounds_toArray, List.set_cons_zero, List.set_cons_succ]
            refine take_val 11 _ _ (.tuple #[.agg (fls (fun _ => 0)), .agg #[.float .f32 0, .float .f32 0], .int .i64 4]) rfl (by rfl) (by kernel_rfl) (by kernel_rfl) (by kernel_rfl) (fun w => by rfl) rfl rfl k1 ?_
            simp only [Act.put, List.setIfInBounds_toArray, List.set_cons_zero, List.set_cons_succ]
            refine take_val 12 _ _ (.agg (fls (fun _ => 0))) rfl (by rfl) (by kernel_rfl) (by kernel_rfl) (by kernel_rfl) (fun w => by unfold execOp; go_simp) rfl rfl k1 ?_
            simp only [Act.put, List.setIfInBounds_toArray, List.set_cons_zero, List.set_cons_succ]
            refine take_val 13 _ _ (.agg #[.float .f32 0, .float .f32 0]) rfl (by rfl) (by kernel_rfl) (by kernel_rfl) (by kernel_rfl) (fun w => by unfold execOp; go_simp) rfl rfl k1 ?_
            simp only [Act.put, List.setIfInBounds_toArray, List.set_cons_zero, List.set_cons_succ]
            refine take_val 14 _ _ (.int .i64 4) rfl (by rfl) (by kernel_rfl) (by kernel_rfl) (by kernel_rfl) (fun w => by unfold execOp; go_simp) rfl rfl k1 ?_
            simp only [Act.put, List.setIfInBounds_toArray, List.set_cons_zero, List.set_cons_succ]
            refine wpAnyH_ready (rs := [15, 16]) (by kernel_rfl) (by simp) ?_
            refine allocK 15 (fun g => _) _ k1 rfl (by rfl) (fls fun _ => 0) 30 (by unfold execOp; go_simp) (fun g => rfl) rfl (fun w2 g2 k2 hB2 hn2 => ?_) ?_
            · refine ⟨k2.tail, ?_⟩
              simp only [Act.put, List.setIfInBounds_toArray, List.set_cons_zero, List.set_cons_succ]
              refine wpAnyH_ready (rs := [16]) (by kernel_rfl) (by simp) ?_
              refine allocK 16 (fun g => _) _ k2 rfl (by rfl) (#[.float .f32 0, .float .f32 0]) 32 (by unfold execOp; go_simp) (fun g => rfl) rfl (fun w3 g3 k3 hB3 hn3 => ?_) AllReadyH.nil
              refine ⟨k3.tail.tail, ?_⟩
              simp only [Act.put, List.setIfInBounds_toArray, List.set_cons_zero, List.set_cons_succ]
              refine wpAnyH_ready (rs := [17]) (by kernel_rfl) (by simp) ?_
              refine storeK 17 _ _ (k3).swap hB2 (neC (hn3 _ in0).symm hn2) rfl (by rfl) 30 _ _ rfl (fls (fun _ => 0)) rfl rfl (by rw [fls_size]; exact info_arr) (by simp) (fls_one _) rfl rfl (fun w4 k4 => ?_) AllReadyH.nil
              refine ⟨k4.tail.tail, ?_⟩
              refine wpAnyH_ready (rs := [18]) (by kernel_rfl) (by simp) ?_
              refine storeK 18 _ _ (k4).swap hB3 (neC (hn3 _ in0) (fun x hx => hn3 x (List.mem_cons_of_mem _ hx))) rfl (by rfl) 32 _ _ rfl (#[.float .f32 0, .float .f32 0]) rfl rfl (info_air) (by simp) (two_one _ _) rfl rfl (fun w5 k5 => ?_) AllReadyH.nil
              refine ⟨k5.tail.tail, ?_⟩
              refine take_val 19 _ _ (.int .i64 4) rfl (by rfl) (by kernel_rfl) (by kernel_rfl) (by kernel_rfl) (fun w => by rfl) rfl rfl k5.tail.tail ?_
              simp only [Act.put, List.setIfInBounds_toArray, List.set_cons_zero, List.set_cons_succ]
              refine wpAnyH_done (by kernel_rfl) ?_ _
              exact ⟨rfl, g2, g3, rfl, ⟨((fun x hx => hn3 x (List.mem_cons_of_mem _ hx)) (w.heap.size + 1, vls 178 (clw (gcG c k k) t), 35) in0).symm, (hn2 (w.heap.size + 1, vls 178 (clw (gcG c k k) t), 35) in0).symm⟩, k5⟩
            refine allocK 16 (fun g => _) _ k1 rfl (by rfl) (#[.float .f32 0, .float .f32 0]) 32 (by unfold execOp; go_simp) (fun g => rfl) rfl (fun w6 g6 k6 hB6 hn6 => ?_) AllReadyH.nil
            refine ⟨k6.tail, ?_⟩
            simp only [Act.put, List.setIfInBounds_toArray, List.set_cons_zero, List.set_cons_succ]
            refine wpAnyH_ready (rs := [15]) (by kernel_rfl) (by simp) ?_
            refine allocK 15 (fun g => _) _ k6 rfl (by rfl) (fls fun _ => 0) 30 (by unfold execOp; go_simp) (fun g => rfl) rfl (fun w7 g7 k7 hB7 hn7 => ?_) AllReadyH.nil
            refine ⟨k7.tail.tail, ?_⟩
            simp only [Act.put, List.setIfInBounds_toArray, List.set_cons_zero, List.set_cons_succ]
            refine wpAnyH_ready (rs := [17]) (by kernel_rfl) (by simp) ?_
            refine storeK 17 _ _ k7 hB7 (neC (hn7 _ in0) (fun x hx => hn7 x (List.mem_cons_of_mem _ hx))) rfl (by rfl) 30 _ _ rfl (fls (fun _ => 0)) rfl rfl (by rw [fls_size]; exact info_arr) (by simp) (fls_one _) rfl rfl (fun w8 k8 => ?_) AllReadyH.nil
            refine ⟨k8.tail.tail, ?_⟩
            refine wpAnyH_ready (rs := [18]) (by kernel_rfl) (by simp) ?_
            refine storeK 18 _ _ (k8).swap hB6 (neC (hn7 _ in0).symm hn6) rfl (by rfl) 32 _ _ rfl (#[.float .f32 0, .float .f32 0]) rfl rfl (info_air) (by simp) (two_one _ _) rfl rfl (fun w9 k9 => ?_) AllReadyH.nil
            refine ⟨k9.tail.tail, ?_⟩
            refine take_val 19 _ _ (.int .i64 4) rfl (by rfl) (by kernel_rfl) (by kernel_rfl) (by kernel_rfl) (fun w => by rfl) rfl rfl k9.tail.tail ?_
            simp only [Act.put, List.setIfInBounds_toArray, List.set_cons_zero, List.set_cons_succ]
            refine wpAnyH_done (by kernel_rfl) ?_ _
            exact ⟨rfl, g7, g6, rfl, ⟨(hn6 (w.heap.size + 1, vls 178 (clw (gcG c k k) t), 35) in0).symm, ((fun x hx => hn7 x (List.mem_cons_of_mem _ hx)) (w.heap.size + 1, vls 178 (clw (gcG c k k) t), 35) in0).symm⟩, k9⟩
          refine allocK 15 (fun g => _) _ kd rfl (by rfl) (fls fun _ => 0) 30 (by unfold execOp; go_simp) (fun g => rfl) rfl (fun w10 g10 k10 hB10 hn10 => ?_) ?_
          · refine ⟨k10.tail, ?_⟩
            simp only [Act.put, List.setIfInBounds_toArray, List.set_cons_zero, List.set_cons_succ]
            refine wpAnyH_ready (rs := [10, 16]) (by kernel_rfl) (by simp) ?_
            refine callK 10 _ _ (.tuple #[.agg (fls (fun _ => 0)), .agg #[.float .f32 0, .float .f32 0], .int .i64 4]) k10 rfl (by rfl) 81 #[.pointer (some ⟨g, k * 20, none⟩), .pointer (some ⟨g, 160 + k * 2, none⟩), .float .f32 1031798784] (fun w => by unfold execOp; go_simp) rfl rfl ?hc11 (fun w11 k11 => ?_) ?_
            case hc11 => exact HC.out _ (k10.tail.v in2)
            · refine ⟨k11.tail, ?_⟩
              simp only [Act.put, List.setIfInBounds_toArray, List.set_cons_zero, List.set_cons_succ]
              refine take_val 11 _ _ (.tuple #[.agg (fls (fun _ => 0)), .agg #[.float .f32 0, .float .f32 0], .int .i64 4]) rfl (by rfl) (by kernel_rfl) (by kernel_rfl) (by kernel_rfl) (fun w => by rfl) rfl rfl k11.tail ?_
              simp only [Act.put, List.setIfInBounds_toArray, List.set_cons_zero, List.set_cons_succ]
              refine take_val 12 _ _ (.agg (fls (fun _ => 0))) rfl (by rfl) (by kernel_rfl) (by kernel_rfl) (by kernel_rfl) (fun w => by unfold execOp; go_simp) rfl rfl k11.tail ?_
              simp only [Act.put, List.setIfInBounds_toArray, List.set_cons_zero, List.set_cons_succ]
              refine take_val 13 _ _ (.agg #[.float .f32 0, .float .f32 0]) rfl (by rfl) (by kernel_rfl) (by kernel_rfl) (by kernel_rfl) (fun w => by unfold execOp; go_simp) rfl rfl k11.tail ?_
              simp only [Act.put, List.setIfInBounds_toArray, List.set_cons_zero, List.set_cons_succ]
              refine take_val 14 _ _ (.int .i64 4) rfl (by rfl) (by kernel_rfl) (by kernel_rfl) (by kernel_rfl) (fun w => by unfold execOp; go_simp) rfl rfl k11.tail ?_
              simp only [Act.put, List.setIfInBounds_toArray, List.set_cons_zero, List.set_cons_succ]
              refine wpAnyH_ready (rs := [16]) (by kernel_rfl) (by simp) ?_
              refine allocK 16 (fun g => _) _ k11 rfl (by rfl) (#[.float .f32 0, .float .f32 0]) 32 (by unfold execOp; go_simp) (fun g => rfl) rfl (fun w12 g12 k12 hB12 hn12 => ?_) AllReadyH.nil
              refine ⟨k12.tail.tail, ?_⟩
              simp only [Act.put, List.setIfInBounds_toArray, List.set_cons_zero, List.set_cons_succ]
              refine wpAnyH_ready (rs := [17]) (by kernel_rfl) (by simp) ?_
              refine storeK 17 _ _ (k12).swap hB10 (neC (hn12 _ in0).symm hn10) rfl (by rfl) 30 _ _ rfl (fls (fun _ => 0)) rfl rfl (by rw [fls_size]; exact info_arr) (by simp) (fls_one _) rfl rfl (fun w13 k13 => ?_) AllReadyH.nil
              refine ⟨k13.tail.tail, ?_⟩
              refine wpAnyH_ready (rs := [18]) (by kernel_rfl) (by simp) ?_
              refine storeK 18 _ _ (k13).swap hB12 (neC (hn12 _ in0) (fun x hx => hn12 x (List.mem_cons_of_mem _ hx))) rfl (by rfl) 32 _ _ rfl (#[.float .f32 0, .float .f32 0]) rfl rfl (info_air) (by simp) (two_one _ _) rfl rfl (fun w14 k14 => ?_) AllReadyH.nil
              refine ⟨k14.tail.tail, ?_⟩
              refine take_val 19 _ _ (.int .i64 4) rfl (by rfl) (by kernel_rfl) (by kernel_rfl) (by kernel_rfl) (fun w => by rfl) rfl rfl k14.tail.tail ?_
              simp only [Act.put, List.setIfInBounds_toArray, List.set_cons_zero, List.set_cons_succ]
              refine wpAnyH_done (by kernel_rfl) ?_ _
              exact ⟨rfl, g10, g12, rfl, ⟨((fun x hx => hn12 x (List.mem_cons_of_mem _ hx)) (w.heap.size + 1, vls 178 (clw (gcG c k k) t), 35) in0).symm, (hn10 (w.heap.size + 1, vls 178 (clw (gcG c k k) t), 35) in0).symm⟩, k14⟩
            refine allocK 16 (fun g => _) _ k10 rfl (by rfl) (#[.float .f32 0, .float .f32 0]) 32 (by unfold execOp; go_simp) (fun g => rfl) rfl (fun w15 g15 k15 hB15 hn15 => ?_) AllReadyH.nil
            refine ⟨k15.tail.tail, ?_⟩
            simp only [Act.put, List.setIfInBounds_toArray, List.set_cons_zero, List.set_cons_succ]
            refine wpAnyH_ready (rs := [10]) (by kernel_rfl) (by simp) ?_
            refine callK 10 _ _ (.tuple #[.agg (fls (fun _ => 0)), .agg #[.float .f32 0, .float .f32 0], .int .i64 4]) k15 rfl (by rfl) 81 #[.pointer (some ⟨g, k * 20, none⟩), .pointer (some ⟨g, 160 + k * 2, none⟩), .float .f32 1031798784] (fun w => by unfold execOp; go_simp) rfl rfl ?hc16 (fun w16 k16 => ?_) AllReadyH.nil
            case hc16 => exact HC.out _ (k15.tail.tail.v in2)
            refine ⟨k16.tail.tail, ?_⟩
            simp only [Act.put, List.setIfInBounds_toArray, List.set_cons_zero, List.set_cons_succ]
            refine take_val 11 _ _ (.tuple #[.agg (fls (fun _ => 0)), .agg #[.float .f32 0, .float .f32 0], .int .i64 4]) rfl (by rfl) (by kernel_rfl) (by kernel_rfl) (by kernel_rfl) (fun w => by rfl) rfl rfl k16.tail.tail ?_
            simp only [Act.put, List.setIfInBounds_toArray, List.set_cons_zero, List.set_cons_succ]
            refine take_val 12 _ _ (.agg (fls (fun _ => 0))) rfl (by rfl) (by kernel_rfl) (by kernel_rfl) (by kernel_rfl) (fun w => by unfold execOp; go_simp) rfl rfl k16.tail.tail ?_
            simp only [Act.put, List.setIfInBounds_toArray, List.set_cons_zero, List.set_cons_succ]
            refine take_val 13 _ _ (.agg #[.float .f32 0, .float .f32 0]) rfl (by rfl) (by kernel_rfl) (by kernel_rfl) (by kernel_rfl) (fun w => by unfold execOp; go_simp) rfl rfl k16.tail.tail ?_
            simp only [Act.put, List.setIfInBounds_toArray, List.set_cons_zero, List.set_cons_succ]
            refine take_val 14 _ _ (.int .i64 4) rfl (by rfl) (by kernel_rfl) (by kernel_rfl) (by kernel_rfl) (fun w => by unfold execOp; go_simp) rfl rfl k16.tail.tail ?_
            simp only [Act.put, List.setIfInBounds_toArray, List.set_cons_zero, List.set_cons_succ]
            refine wpAnyH_ready (rs := [17]) (by kernel_rfl) (by simp) ?_
            refine storeK 17 _ _ (k16).swap hB10 (neC (hn15 _ in0).symm hn10) rfl (by rfl) 30 _ _ rfl (fls (fun _ => 0)) rfl rfl (by rw [fls_size]; exact info_arr) (by simp) (fls_one _) rfl rfl (fun w17 k17 => ?_) AllReadyH.nil
            refine ⟨k17.tail.tail, ?_⟩
            refine wpAnyH_ready (rs := [18]) (by kernel_rfl) (by simp) ?_
            refine storeK 18 _ _ (k17).swap hB15 (neC (hn15 _ in0) (fun x hx => hn15 x (List.mem_cons_of_mem _ hx))) rfl (by rfl) 32 _ _ rfl (#[.float .f32 0, .float .f32 0]) rfl rfl (info_air) (by simp) (two_one _ _) rfl rfl (fun w18 k18 => ?_) AllReadyH.nil
            refine ⟨k18.tail.tail, ?_⟩
            refine take_val 19 _ _ (.int .i64 4) rfl (by rfl) (by kernel_rfl) (by kernel_rfl) (by kernel_rfl) (fun w => by rfl) rfl rfl k18.tail.tail ?_
            simp only [Act.put, List.setIfInBounds_toArray, List.set_cons_zero, List.set_cons_succ]
            refine wpAnyH_done (by kernel_rfl) ?_ _
            exact ⟨rfl, g10, g15, rfl, ⟨((fun x hx => hn15 x (List.mem_cons_of_mem _ hx)) (w.heap.size + 1, vls 178 (clw (gcG c k k) t), 35) in0).symm, (hn10 (w.heap.size + 1, vls 178 (clw (gcG c k k) t), 35) in0).symm⟩, k18⟩
          refine allocK 16 (fun g => _) _ kd rfl (by rfl) (#[.float .f32 0, .float .f32 0]) 32 (by unfold execOp; go_simp) (fun g => rfl) rfl (fun w19 g19 k19 hB19 hn19 => ?_) AllReadyH.nil
          refine ⟨k19.tail, ?_⟩
          simp only [Act.put, List.setIfInBounds_toArray, List.set_cons_zero, List.set_cons_succ]
          refine wpAnyH_ready (rs := [10, 15]) (by kernel_rfl) (by simp) ?_
          refine callK 10 _ _ (.tuple #[.agg (fls (fun _ => 0)), .agg #[.float .f32 0, .float .f32 0], .int .i64 4]) k19 rfl (by rfl) 81 #[.pointer (some ⟨g, k * 20, none⟩), .pointer (some ⟨g, 160 + k * 2, none⟩), .float .f32 1031798784] (fun w => by unfold execOp; go_simp) rfl rfl ?hc20 (fun w20 k20 => ?_) ?_
          case hc20 => exact HC.out _ (k19.tail.v in2)
          · refine ⟨k20.tail, ?_⟩
            simp only [Act.put, List.setIfInBounds_toArray, List.set_cons_zero, List.set_cons_succ]
            refine take_val 11 _ _ (.tuple #[.agg (fls (fun _ => 0)), .agg #[.float .f32 0, .float .f32 0], .int .i64 4]) rfl (by rfl) (by kernel_rfl) (by kernel_rfl) (by kernel_rfl) (fun w => by rfl) rfl rfl k20.tail ?_
            simp only [Act.put, List.setIfInBounds_toArray, List.set_cons_zero, List.set_cons_succ]
            refine take_val 12 _ _ (.agg (fls (fun _ => 0))) rfl (by rfl) (by kernel_rfl) (by kernel_rfl) (by kernel_rfl) (fun w => by unfold execOp; go_simp) rfl rfl k20.tail ?_
            simp only [Act.put, List.setIfInBounds_toArray, List.set_cons_zero, List.set_cons_succ]
            refine take_val 13 _ _ (.agg #[.float .f32 0, .float .f32 0]) rfl (by rfl) (by kernel_rfl) (by kernel_rfl) (by kernel_rfl) (fun w => by unfold execOp; go_simp) rfl rfl k20.tail ?_
            simp only [Act.put, List.setIfInBounds_toArray, List.set_cons_zero, List.set_cons_succ]
            refine take_val 14 _ _ (.int .i64 4) rfl (by rfl) (by kernel_rfl) (by kernel_rfl) (by kernel_rfl) (fun w => by unfold execOp; go_simp) rfl rfl k20.tail ?_
            simp only [Act.put, List.setIfInBounds_toArray, List.set_cons_zero, List.set_cons_succ]
            refine wpAnyH_ready (rs := [15]) (by kernel_rfl) (by simp) ?_
            refine allocK 15 (fun g => _) _ k20 rfl (by rfl) (fls fun _ => 0) 30 (by unfold execOp; go_simp) (fun g => rfl) rfl (fun w21 g21 k21 hB21 hn21 => ?_) AllReadyH.nil
            refine ⟨k21.tail.tail, ?_⟩
            simp only [Act.put, List.setIfInBounds_toArray, List.set_cons_zero, List.set_cons_succ]
            refine wpAnyH_ready (rs := [17]) (by kernel_rfl) (by simp) ?_
            refine storeK 17 _ _ k21 hB21 (neC (hn21 _ in0) (fun x hx => hn21 x (List.mem_cons_of_mem _ hx))) rfl (by rfl) 30 _ _ rfl (fls (fun _ => 0)) rfl rfl (by rw [fls_size]; exact info_arr) (by simp) (fls_one _) rfl rfl (fun w22 k22 => ?_) AllReadyH.nil
            refine ⟨k22.tail.tail, ?_⟩
            refine wpAnyH_ready (rs := [18]) (by kernel_rfl) (by simp) ?_
            refine storeK 18 _ _ (k22).swap hB19 (neC (hn21 _ in0).symm hn19) rfl (by rfl) 32 _ _ rfl (#[.float .f32 0, .float .f32 0]) rfl rfl (info_air) (by simp) (two_one _ _) rfl rfl (fun w23 k23 => ?_) AllReadyH.nil
            refine ⟨k23.tail.tail, ?_⟩
            refine take_val 19 _ _ (.int .i64 4) rfl (by rfl) (by kernel_rfl) (by kernel_rfl) (by kernel_rfl) (fun w => by rfl) rfl rfl k23.tail.tail ?_
            simp only [Act.put, List.setIfInBounds_toArray, List.set_cons_zero, List.set_cons_succ]
            refine wpAnyH_done (by kernel_rfl) ?_ _
            exact ⟨rfl, g21, g19, rfl, ⟨(hn19 (w.heap.size + 1, vls 178 (clw (gcG c k k) t), 35) in0).symm, ((fun x hx => hn21 x (List.mem_cons_of_mem _ hx)) (w.heap.size + 1, vls 178 (clw (gcG c k k) t), 35) in0).symm⟩, k23⟩
          refine allocK 15 (fun g => _) _ k19 rfl (by rfl) (fls fun _ => 0) 30 (by unfold execOp; go_simp) (fun g => rfl) rfl (fun w24 g24 k24 hB24 hn24 => ?_) AllReadyH.nil
          refine ⟨k24.tail.tail, ?_⟩
          simp only [Act.put, List.setIfInBounds_toArray, List.set_cons_zero, List.set_cons_succ]
          refine wpAnyH_ready (rs := [10]) (by kernel_rfl) (by simp) ?_
          refine callK 10 _ _ (.tuple #[.agg (fls (fun _ => 0)), .agg #[.float .f32 0, .float .f32 0], .int .i64 4]) k24 rfl (by rfl) 81 #[.pointer (some ⟨g, k * 20, none⟩), .pointer (some ⟨g, 160 + k * 2, none⟩), .float .f32 1031798784] (fun w => by unfold execOp; go_simp) rfl rfl ?hc25 (fun w25 k25 => ?_) AllReadyH.nil
          case hc25 => exact HC.out _ (k24.tail.tail.v in2)
          refine ⟨k25.tail.tail, ?_⟩
          simp only [Act.put, List.setIfInBounds_toArray, List.set_cons_zero, List.set_cons_succ]
          refine take_val 11 _ _ (.tuple #[.agg (fls (fun _ => 0)), .agg #[.float .f32 0, .float .f32 0], .int .i64 4]) rfl (by rfl) (by kernel_rfl) (by kernel_rfl) (by kernel_rfl) (fun w => by rfl) rfl rfl k25.tail.tail ?_
          simp only [Act.put, List.setIfInBounds_toArray, List.set_cons_zero, List.set_cons_succ]
          refine take_val 12 _ _ (.agg (fls (fun _ => 0))) rfl (by rfl) (by kernel_rfl) (by kernel_rfl) (by kernel_rfl) (fun w => by unfold execOp; go_simp) rfl rfl k25.tail.tail ?_
          simp only [Act.put, List.setIfInBounds_toArray, List.set_cons_zero, List.set_cons_succ]
          refine take_val 13 _ _ (.agg #[.float .f32 0, .float .f32 0]) rfl (by rfl) (by kernel_rfl) (by kernel_rfl) (by kernel_rfl) (fun w => by unfold execOp; go_simp) rfl rfl k25.tail.tail ?_
          simp only [Act.put, List.setIfInBounds_toArray, List.set_cons_zero, List.set_cons_succ]
          refine take_val 14 _ _ (.int .i64 4) rfl (by rfl) (by kernel_rfl) (by kernel_rfl) (by kernel_rfl) (fun w => by unfold execOp; go_simp) rfl rfl k25.tail.tail ?_
          simp only [Act.put, List.setIfInBounds_toArray, List.set_cons_zero, List.set_cons_succ]
          refine wpAnyH_ready (rs := [17]) (by kernel_rfl) (by simp) ?_
          refine storeK 17 _ _ k25 hB24 (neC (hn24 _ in0) (fun x hx => hn24 x (List.mem_cons_of_mem _ hx))) rfl (by rfl) 30 _ _ rfl (fls (fun _ => 0)) rfl rfl (by rw [fls_size]; exact info_arr) (by simp) (fls_one _) rfl rfl (fun w26 k26 => ?_) AllReadyH.nil
          refine ⟨k26.tail.tail, ?_⟩
          refine wpAnyH_ready (rs := [18]) (by kernel_rfl) (by simp) ?_
          refine storeK 18 _ _ (k26).swap hB19 (neC (hn24 _ in0).symm hn19) rfl (by rfl) 32 _ _ rfl (#[.float .f32 0, .float .f32 0]) rfl rfl (info_air) (by simp) (two_one _ _) rfl rfl (fun w27 k27 => ?_) AllReadyH.nil
          refine ⟨k27.tail.tail, ?_⟩
          refine take_val 19 _ _ (.int .i64 4) rfl (by rfl) (by kernel_rfl) (by kernel_rfl) (by kernel_rfl) (fun w => by rfl) rfl rfl k27.tail.tail ?_
          simp only [Act.put, List.setIfInBounds_toArray, List.set_cons_zero, List.set_cons_succ]
          refine wpAnyH_done (by kernel_rfl) ?_ _
          exact ⟨rfl, g24, g19, rfl, ⟨(hn19 (w.heap.size + 1, vls 178 (clw (gcG c k k) t), 35) in0).symm, ((fun x hx => hn24 x (List.mem_cons_of_mem _ hx)) (w.heap.size + 1, vls 178 (clw (gcG c k k) t), 35) in0).symm⟩, k27⟩
        rintro a1 wx ⟨g6, g7, rfl, hg67, k3⟩
        have k3 := hid k3.tail.tail.swap
        clear h0 hg67 HC
        simp only [Act.put, List.setIfInBounds_toArray, List.set_cons_zero, List.set_cons_succ]
        have tok1 : True := trivial
        go_wp2_with (have _t := tok1; refine store_row (by rfl) 35 _ _ (by rfl) (w.heap.size) (vls 178 (clw (fun _ => 0) 0)) (vls 178 (clw (fun _ => 0) 0)) (by rfl) (by rfl) k3.out (by rw [vls_size]; exact info_col) (by simp) (vls_one (clw_one _ _)) (by omega) (neC (by omega) (neC (by have := HGL.out; omega) ne0)) ?_; intro wz k4; replace k4 := hid k4; clear k3 tok1)
        exact bodyPost_ret (results_row_tmp rfl _ _ (w.heap.size) 35 (vls 178 (clw (fun _ => 0) 0)) (0, 0) _ rfl (k4.out.at (x := (w.heap.size, vls 178 (clw (fun _ => 0) 0), 35)) in0) Tryz.underlying35 rfl (by rw [vls_size]; exact info_col)) rfl ⟨rfl, k4.out.1⟩
    · obtain rfl : k = 8 := by omega
      obtain rfl : K = 8 := by omega
      obtain ⟨rfl, rfl, rfl⟩ := HR1.out rfl
      have HC := hid (fun w T hv => sMadeC_t (gcG c 8 8) s (gcG_lt HQ.out HB.out HM.out) (gcG_ok HQ.out HB.out HM.out) w (w.heap.size + 1) T hv)
      have HX := hid (fun w2 => sMadeC_t (gcG c 8 8) s (gcG_lt HQ.out HB.out HM.out) (gcG_ok HQ.out HB.out HM.out) w2 (w.heap.size + 1) 35)
      clear HR1 HR0 HC
      go_wp2_with fail
      refine (HX.out _ (h0.out.v in0)).mono ?_
      rintro e w7 ⟨rfl, hb7⟩
      have k3 := hid ((h0.out.stay hb7).swap)
      have tok1 : True := trivial
      clear h0 hb7 HX
      go_wp2_with (first
        | (have _t := tok1; clear tok1; refine store_row (by rfl) 35 _ _ (by rfl) (w.heap.size) (vls 178 (clw (gcG c 8 8) s)) (vls 178 (clw (fun _ => 0) 0)) (by rfl) (by rfl) k3.out (by rw [vls_size]; exact info_col) (by simp) (vls_one (clw_one _ _)) (by omega) (neC (by omega) (neC (by have := HGL.out; omega) ne0)) ?_; intro wz k4; replace k4 := hid k4; clear k3))
      exact bodyPost_ret (results_row_tmp rfl _ _ (w.heap.size) 35 (vls 178 (clw (gcG c 8 8) s)) (0, 0) _ rfl (k4.out.at (x := (w.heap.size, vls 178 (clw (gcG c 8 8) s), 35)) in0) Tryz.underlying35 rfl (by rw [vls_size]; exact info_col)) rfl ⟨rfl, k4.out.1⟩

theorem clw_tick (c : Nat → Nat) (t s : Int) (i : Nat) : updV (clw c t) 177 (.int .i64 s) i = clw c s i := by
  unfold updV clw
  by_cases e : i = 177
  · rw [if_pos e, if_pos e]
  · rw [if_neg e, if_neg e, if_neg e]

/-- When a tick can be made, and what it makes. -/
def tickW (c : Nat → Nat) : Nat → Nat := setW (gcG c 8 8)

def tickOk (c : Nat → Nat) (t : Int) : Prop := (∀ j, j < 8 → okCel c j) ∧ ColOk (setW (gcG c 8 8)) t ∧ ColOk (setW (gcG c 8 8)) (t + 1)

theorem not_all {p : Nat → Prop} {K N : Nat} (h : ¬ ∀ j, j < N → p j) (hM : ∀ j, j < K → p j) (e : K = N) : False := h (e ▸ hM)

theorem iGrowC_t (c : Nat → Nat) (t : Int) (hb : ∀ i, i < 177 → c i < 4294967296) (h : ColOk c t) (hM : ∀ j, j < 8 → okCel c j) (w : World) :
    Calls Tryz.prog 25 #[.agg (vls 178 (clw c t))] w fun e w' => e = .returned (.tuple #[.agg (vls 178 (clw (gcG c 8 8) t)), .int .i64 0]) ∧ Below w.heap.size w w' :=
  iGrowC_ok c t hb h 8 (Nat.le_refl 8) hM (fun x => absurd x (Nat.lt_irrefl 8)) _ _ _ (fun _ => ⟨rfl, rfl, rfl⟩) (fun x => absurd rfl x) w

theorem iGrowC_f (c : Nat → Nat) (t : Int) (hb : ∀ i, i < 177 → c i < 4294967296) (h : ColOk c t) (hM : ¬ ∀ j, j < 8 → okCel c j) (w : World) :
    Calls Tryz.prog 25 #[.agg (vls 178 (clw c t))] w fun e w' => e = .returned (.tuple #[.agg (vls 178 (clw (fun _ => 0) 0)), .int .i64 4]) ∧ Below w.heap.size w w' := by
  obtain ⟨K, k1, k2, k3⟩ := far8 (okCel c) 8
  exact iGrowC_ok c t hb h K k1 k2 k3 _ _ _ (fun x => (not_all hM k2 x).elim) (fun _ => ⟨rfl, rfl, rfl⟩) w

theorem sGrowL_t (c : Nat → Nat) (t : Int) (hb : ∀ i, i < 177 → c i < 4294967296) (h : ColOk c t) (hM : ∀ j, j < 8 → okCel c j) (w : World) (g : Nat) (T : TypeId) (hg : vAt w g 178 (clw c t) T) :
    Calls Tryz.prog 50 #[.pointer (some ⟨g, 0, none⟩)] w fun e w' => e = .returned (.tuple #[.agg (vls 178 (clw (gcG c 8 8) t)), .int .i64 0]) ∧ Below w.heap.size w w' :=
  sGrowL c t hb h 8 (Nat.le_refl 8) hM (fun x => absurd x (Nat.lt_irrefl 8)) _ _ _ (fun _ => ⟨rfl, rfl, rfl⟩) (fun x => absurd rfl x) w g T hg

theorem sGrowL_f (c : Nat → Nat) (t : Int) (hb : ∀ i, i < 177 → c i < 4294967296) (h : ColOk c t) (hM : ¬ ∀ j, j < 8 → okCel c j) (w : World) (g : Nat) (T : TypeId) (hg : vAt w g 178 (clw c t) T) :
    Calls Tryz.prog 50 #[.pointer (some ⟨g, 0, none⟩)] w fun e w' => e = .returned (.tuple #[.agg (vls 178 (clw (fun _ => 0) 0)), .int .i64 4]) ∧ Below w.heap.size w w' := by
  obtain ⟨K, k1, k2, k3⟩ := far8 (okCel c) 8
  exact sGrowL c t hb h K k1 k2 k3 _ _ _ (fun x => (not_all hM k2 x).elim) (fun _ => ⟨rfl, rfl, rfl⟩) w g T hg

set_option maxRecDepth 100000 in
set_option maxHeartbeats 1000000 in
theorem iTick_A (c : Nat → Nat) (t : Int) (hb : ∀ i, i < 177 → c i < 4294967296) (h : ColOk c t) (hM : ¬ ∀ j, j < 8 → okCel c j) (w : World) :
    Calls Tryz.prog 9 #[.agg (vls 178 (clw c t))] w fun e w' => e = .returned (.tuple #[.agg (vls 178 (clw (fun _ => 0) 0)), .int .i64 4]) ∧ Below w.heap.size w w' := by
  have k0 : Hid (Kept w [(w.heap.size + 1, vls 178 (clw (fun _ => 0) 0), 35), (w.heap.size, vls 178 (clw c t), 35)] ((w.alloc (.cells (vls 178 (clw c t)) 35)).alloc (.cells (vls 178 (clw (fun _ => 0) 0)) 35))) := hid ((((Kept.nil w).push _ _).push _ _).sub (by simp))
  have HG := hid (fun w => iGrowC_f c t hb h hM w)
  clear hb h hM
  go_enter Tryz.func9, Tryz.ntmps9
  have tok1 : True := trivial
  go_wp2_with (have _t := tok1; clear tok1; refine wpList_load_row (by rfl) 35 _ (by rfl) (w.heap.size) (by rfl) 35 (vls 178 (clw c t)) (0, 0) _ (k0.out.v in1) Tryz.underlying35 (by rfl) (by rw [vls_size]; exact info_col) ?_)
  refine (HG.out _).mono ?_
  rintro e w1 ⟨rfl, hb1⟩
  have k1 := hid (k0.out.stay hb1)
  have l1 : w.heap.size + 1 < w1.heap.size := k1.out.lt in0
  have m1 : w.heap.size < w1.heap.size := k1.out.lt in1
  have kN := hid (k1.out.push (vls 178 (clw (fun _ => 0) 0)) 35)
  have f1 := k1.out.fresh
  have tok1 : True := trivial
  clear k0 hb1 k1
  go_wp2_with (first | (have _t := tok1; clear tok1; refine store_row (by rfl) 35 _ _ (by rfl) (w1.heap.size) (vls 178 (clw (fun _ => 0) 0)) (vls 178 (clw (fun _ => 0) 0)) (by rfl) (by rfl) (kN.out) (by rw [vls_size]; exact info_col) (by simp) (vls_one (clw_one _ _)) (by omega) f1 ?_; intro w2 k2; replace k2 := hid (k2); clear kN; have tok2 : True := trivial) | (have _t := tok2; clear tok2; refine store_row (by rfl) 35 _ _ (by rfl) (w.heap.size + 1) (vls 178 (clw (fun _ => 0) 0)) (vls 178 (clw (fun _ => 0) 0)) (by rfl) (by rfl) (k2.out.swap) (by rw [vls_size]; exact info_col) (by simp) (vls_one (clw_one _ _)) (by omega) (neC (by omega) (neC (by omega) ne0)) ?_; intro w3 k3; replace k3 := hid (k3); clear k2))
  exact bodyPost_ret (results_row_tmp rfl _ _ (w.heap.size + 1) 35 (vls 178 (clw (fun _ => 0) 0)) (0, 0) _ rfl (k3.out.at (x := (w.heap.size + 1, vls 178 (clw (fun _ => 0) 0), 35)) in0) Tryz.underlying35 rfl (by rw [vls_size]; exact info_col)) rfl ⟨rfl, k3.out.1⟩

set_option maxRecDepth 100000 in
set_option maxHeartbeats 1000000 in
theorem iTick_B (c : Nat → Nat) (t : Int) (hb : ∀ i, i < 177 → c i < 4294967296) (h : ColOk c t) (hM : ∀ j, j < 8 → okCel c j) (hS : ¬ ColOk (setW (gcG c 8 8)) t) (w : World) :
    Calls Tryz.prog 9 #[.agg (vls 178 (clw c t))] w fun e w' => e = .returned (.tuple #[.agg (vls 178 (clw (fun _ => 0) 0)), .int .i64 4]) ∧ Below w.heap.size w w' := by
  have k0 : Hid (Kept w [(w.heap.size + 1, vls 178 (clw (fun _ => 0) 0), 35), (w.heap.size, vls 178 (clw c t), 35)] ((w.alloc (.cells (vls 178 (clw c t)) 35)).alloc (.cells (vls 178 (clw (fun _ => 0) 0)) 35))) := hid ((((Kept.nil w).push _ _).push _ _).sub (by simp))
  have HGO := gcG_ok h hb hM
  have HGL := gcG_lt h hb hM
  have HG := hid (fun w => iGrowC_t c t hb h hM w)
  have HS := hid (fun w => iSettleC_ok (gcG c 8 8) t HGL HGO (fun _ => 0) 0 4 (fun x => absurd x hS) (fun _ => ⟨rfl, rfl, rfl⟩) w)
  clear hb h hM HGO HGL hS
  go_enter Tryz.func9, Tryz.ntmps9
  have tok1 : True := trivial
  go_wp2_with (have _t := tok1; clear tok1; refine wpList_load_row (by rfl) 35 _ (by rfl) (w.heap.size) (by rfl) 35 (vls 178 (clw c t)) (0, 0) _ (k0.out.v in1) Tryz.underlying35 (by rfl) (by rw [vls_size]; exact info_col) ?_)
  refine (HG.out _).mono ?_
  rintro e w1 ⟨rfl, hb1⟩
  have k1 := hid (k0.out.stay hb1)
  have l1 : w.heap.size + 1 < w1.heap.size := k1.out.lt in0
  have m1 : w.heap.size < w1.heap.size := k1.out.lt in1
  have kN := hid (k1.out.push (vls 178 (clw (fun _ => 0) 0)) 35)
  have f1 := k1.out.fresh
  have tok1 : True := trivial
  clear k0 hb1 k1
  go_wp2_with (first | (have _t := tok1; clear tok1; refine store_row (by rfl) 35 _ _ (by rfl) (w1.heap.size) (vls 178 (clw (gcG c 8 8) t)) (vls 178 (clw (fun _ => 0) 0)) (by rfl) (by rfl) (kN.out) (by rw [vls_size]; exact info_col) (by simp) (vls_one (clw_one _ _)) (by omega) f1 ?_; intro w2 k2; replace k2 := hid (k2); clear kN; have tok2 : True := trivial) | (have _t := tok2; clear tok2; refine wpList_load_row (by rfl) 35 _ (by rfl) (w1.heap.size) (by rfl) 35 (vls 178 (clw (gcG c 8 8) t)) (0, 0) _ (k2.out.v in0) Tryz.underlying35 (by rfl) (by rw [vls_size]; exact info_col) ?_))
  refine (HS.out _).mono ?_
  rintro e w3 ⟨rfl, hb3⟩
  have k3 := hid (k2.out.stay hb3)
  have l3 : w1.heap.size < w3.heap.size := k3.out.lt in0
  have kM := hid (k3.out.push (vls 178 (clw (fun _ => 0) 0)) 35)
  have f3 := k3.out.fresh
  have tok1 : True := trivial
  clear k2 hb3 k3
  go_wp2_with (first | (have _t := tok1; clear tok1; refine store_row (by rfl) 35 _ _ (by rfl) (w3.heap.size) (vls 178 (clw (fun _ => 0) 0)) (vls 178 (clw (fun _ => 0) 0)) (by rfl) (by rfl) (kM.out) (by rw [vls_size]; exact info_col) (by simp) (vls_one (clw_one _ _)) (by omega) f3 ?_; intro w4 k4; replace k4 := hid (k4); clear kM; have tok2 : True := trivial) | (have _t := tok2; clear tok2; refine store_row (by rfl) 35 _ _ (by rfl) (w.heap.size + 1) (vls 178 (clw (fun _ => 0) 0)) (vls 178 (clw (fun _ => 0) 0)) (by rfl) (by rfl) (k4.out.up2) (by rw [vls_size]; exact info_col) (by simp) (vls_one (clw_one _ _)) (by omega) (neC (by omega) (neC (by omega) (neC (by omega) ne0))) ?_; intro w5 k5; replace k5 := hid (k5); clear k4))
  exact bodyPost_ret (results_row_tmp rfl _ _ (w.heap.size + 1) 35 (vls 178 (clw (fun _ => 0) 0)) (0, 0) _ rfl (k5.out.at (x := (w.heap.size + 1, vls 178 (clw (fun _ => 0) 0), 35)) in0) Tryz.underlying35 rfl (by rw [vls_size]; exact info_col)) rfl ⟨rfl, k5.out.1⟩

set_option maxRecDepth 100000 in
set_option maxHeartbeats 1000000 in
theorem iTick_C (c : Nat → Nat) (t : Int) (hb : ∀ i, i < 177 → c i < 4294967296) (h : ColOk c t) (hM : ∀ j, j < 8 → okCel c j) (hS : ColOk (setW (gcG c 8 8)) t) (hF : ¬ ColOk (setW (gcG c 8 8)) (t + 1)) (w : World) :
    Calls Tryz.prog 9 #[.agg (vls 178 (clw c t))] w fun e w' => e = .returned (.tuple #[.agg (vls 178 (clw (fun _ => 0) 0)), .int .i64 4]) ∧ Below w.heap.size w w' := by
  have k0 : Hid (Kept w [(w.heap.size + 1, vls 178 (clw (fun _ => 0) 0), 35), (w.heap.size, vls 178 (clw c t), 35)] ((w.alloc (.cells (vls 178 (clw c t)) 35)).alloc (.cells (vls 178 (clw (fun _ => 0) 0)) 35))) := hid ((((Kept.nil w).push _ _).push _ _).sub (by simp))
  have HGO := gcG_ok h hb hM
  have HGL := gcG_lt h hb hM
  have ht0 := h.t0
  have ht1 := h.t1
  have HX := setW_lt HGO HGL
  have HF := hid (fun w => iFitC_f (setW (gcG c 8 8)) (t + 1) HX hF 4 w)
  clear hF HX
  have HG := hid (fun w => iGrowC_t c t hb h hM w)
  have HS := hid (fun w => iSettleC_ok (gcG c 8 8) t HGL HGO (setW (gcG c 8 8)) t 0 (fun _ => ⟨rfl, rfl, rfl⟩) (fun x => absurd hS x) w)
  clear hb h hM HGO HGL hS
  go_enter Tryz.func9, Tryz.ntmps9
  have tok1 : True := trivial
  go_wp2_with (have _t := tok1; clear tok1; refine wpList_load_row (by rfl) 35 _ (by rfl) (w.heap.size) (by rfl) 35 (vls 178 (clw c t)) (0, 0) _ (k0.out.v in1) Tryz.underlying35 (by rfl) (by rw [vls_size]; exact info_col) ?_)
  refine (HG.out _).mono ?_
  rintro e w1 ⟨rfl, hb1⟩
  have k1 := hid (k0.out.stay hb1)
  have l1 : w.heap.size + 1 < w1.heap.size := k1.out.lt in0
  have m1 : w.heap.size < w1.heap.size := k1.out.lt in1
  have kN := hid (k1.out.push (vls 178 (clw (fun _ => 0) 0)) 35)
  have f1 := k1.out.fresh
  have tok1 : True := trivial
  clear k0 hb1 k1
  go_wp2_with (first | (have _t := tok1; clear tok1; refine store_row (by rfl) 35 _ _ (by rfl) (w1.heap.size) (vls 178 (clw (gcG c 8 8) t)) (vls 178 (clw (fun _ => 0) 0)) (by rfl) (by rfl) (kN.out) (by rw [vls_size]; exact info_col) (by simp) (vls_one (clw_one _ _)) (by omega) f1 ?_; intro w2 k2; replace k2 := hid (k2); clear kN; have tok2 : True := trivial) | (have _t := tok2; clear tok2; refine wpList_load_row (by rfl) 35 _ (by rfl) (w1.heap.size) (by rfl) 35 (vls 178 (clw (gcG c 8 8) t)) (0, 0) _ (k2.out.v in0) Tryz.underlying35 (by rfl) (by rw [vls_size]; exact info_col) ?_))
  refine (HS.out _).mono ?_
  rintro e w3 ⟨rfl, hb3⟩
  have k3 := hid (k2.out.stay hb3)
  have l3 : w1.heap.size < w3.heap.size := k3.out.lt in0
  have kM := hid (k3.out.push (vls 178 (clw (fun _ => 0) 0)) 35)
  have f3 := k3.out.fresh
  have tok1 : True := trivial
  clear k2 hb3 k3
  go_wp2_with (first | (have _t := tok1; clear tok1; refine store_row (by rfl) 35 _ _ (by rfl) (w3.heap.size) (vls 178 (clw (setW (gcG c 8 8)) t)) (vls 178 (clw (fun _ => 0) 0)) (by rfl) (by rfl) (kM.out) (by rw [vls_size]; exact info_col) (by simp) (vls_one (clw_one _ _)) (by omega) f3 ?_; intro w4 k4; replace k4 := hid (k4); have c177 := (k4.out.v in0).ct; clear kM; have tok2 : True := trivial) | (have _t := tok2; clear tok2; refine store_one (by rfl) 2 _ _ (by rfl) (by kernel_rfl) (w3.heap.size) 177 (.int .i64 (t + 1)) (by rfl) (by rfl) rfl rfl k4.out (by omega) (by omega) f3 ?_; intro w5 k5; replace k5 := hid (k5.ext (fun i _ => clw_tick (setW (gcG c 8 8)) t (t + 1) i)); clear k4 c177; have tok3 : True := trivial) | (have _t := tok3; clear tok3; refine wpList_load_row (by rfl) 35 _ (by rfl) (w3.heap.size) (by rfl) 35 (vls 178 (clw (setW (gcG c 8 8)) (t + 1))) (0, 0) _ (k5.out.v in0) Tryz.underlying35 (by rfl) (by rw [vls_size]; exact info_col) ?_))
  refine (HF.out _).mono ?_
  rintro e w6 ⟨rfl, hb6⟩
  have k6 := hid (k5.out.stay hb6)
  have tok1 : True := trivial
  clear k5 hb6
  go_wp2_with (first | (have _t := tok1; clear tok1; refine store_row (by rfl) 35 _ _ (by rfl) (w.heap.size + 1) (vls 178 (clw (fun _ => 0) 0)) (vls 178 (clw (fun _ => 0) 0)) (by rfl) (by rfl) (k6.out.up2) (by rw [vls_size]; exact info_col) (by simp) (vls_one (clw_one _ _)) (by omega) (neC (by omega) (neC (by omega) (neC (by omega) ne0))) ?_; intro w7 k7; replace k7 := hid (k7); clear k6))
  exact bodyPost_ret (results_row_tmp rfl _ _ (w.heap.size + 1) 35 (vls 178 (clw (fun _ => 0) 0)) (0, 0) _ rfl (k7.out.at (x := (w.heap.size + 1, vls 178 (clw (fun _ => 0) 0), 35)) in0) Tryz.underlying35 rfl (by rw [vls_size]; exact info_col)) rfl ⟨rfl, k7.out.1⟩

set_option maxRecDepth 100000 in
set_option maxHeartbeats 1000000 in
theorem iTick_D (c : Nat → Nat) (t : Int) (hb : ∀ i, i < 177 → c i < 4294967296) (h : ColOk c t) (hM : ∀ j, j < 8 → okCel c j) (hS : ColOk (setW (gcG c 8 8)) t) (hF : ColOk (setW (gcG c 8 8)) (t + 1)) (w : World) :
    Calls Tryz.prog 9 #[.agg (vls 178 (clw c t))] w fun e w' => e = .returned (.tuple #[.agg (vls 178 (clw (setW (gcG c 8 8)) (t + 1))), .int .i64 0]) ∧ Below w.heap.size w w' := by
  have k0 : Hid (Kept w [(w.heap.size + 1, vls 178 (clw (fun _ => 0) 0), 35), (w.heap.size, vls 178 (clw c t), 35)] ((w.alloc (.cells (vls 178 (clw c t)) 35)).alloc (.cells (vls 178 (clw (fun _ => 0) 0)) 35))) := hid ((((Kept.nil w).push _ _).push _ _).sub (by simp))
  have HGO := gcG_ok h hb hM
  have HGL := gcG_lt h hb hM
  have ht0 := h.t0
  have ht1 := h.t1
  have HX := setW_lt HGO HGL
  have HF := hid (fun w => iFitC_t (setW (gcG c 8 8)) (t + 1) HX hF 4 w)
  clear hF HX
  have HG := hid (fun w => iGrowC_t c t hb h hM w)
  have HS := hid (fun w => iSettleC_ok (gcG c 8 8) t HGL HGO (setW (gcG c 8 8)) t 0 (fun _ => ⟨rfl, rfl, rfl⟩) (fun x => absurd hS x) w)
  clear hb h hM HGO HGL hS
  go_enter Tryz.func9, Tryz.ntmps9
  have tok1 : True := trivial
  go_wp2_with (have _t := tok1; clear tok1; refine wpList_load_row (by rfl) 35 _ (by rfl) (w.heap.size) (by rfl) 35 (vls 178 (clw c t)) (0, 0) _ (k0.out.v in1) Tryz.underlying35 (by rfl) (by rw [vls_size]; exact info_col) ?_)
  refine (HG.out _).mono ?_
  rintro e w1 ⟨rfl, hb1⟩
  have k1 := hid (k0.out.stay hb1)
  have l1 : w.heap.size + 1 < w1.heap.size := k1.out.lt in0
  have m1 : w.heap.size < w1.heap.size := k1.out.lt in1
  have kN := hid (k1.out.push (vls 178 (clw (fun _ => 0) 0)) 35)
  have f1 := k1.out.fresh
  have tok1 : True := trivial
  clear k0 hb1 k1
  go_wp2_with (first | (have _t := tok1; clear tok1; refine store_row (by rfl) 35 _ _ (by rfl) (w1.heap.size) (vls 178 (clw (gcG c 8 8) t)) (vls 178 (clw (fun _ => 0) 0)) (by rfl) (by rfl) (kN.out) (by rw [vls_size]; exact info_col) (by simp) (vls_one (clw_one _ _)) (by omega) f1 ?_; intro w2 k2; replace k2 := hid (k2); clear kN; have tok2 : True := trivial) | (have _t := tok2; clear tok2; refine wpList_load_row (by rfl) 35 _ (by rfl) (w1.heap.size) (by rfl) 35 (vls 178 (clw (gcG c 8 8) t)) (0, 0) _ (k2.out.v in0) Tryz.underlying35 (by rfl) (by rw [vls_size]; exact info_col) ?_))
  refine (HS.out _).mono ?_
  rintro e w3 ⟨rfl, hb3⟩
  have k3 := hid (k2.out.stay hb3)
  have l3 : w1.heap.size < w3.heap.size := k3.out.lt in0
  have kM := hid (k3.out.push (vls 178 (clw (fun _ => 0) 0)) 35)
  have f3 := k3.out.fresh
  have tok1 : True := trivial
  clear k2 hb3 k3
  go_wp2_with (first | (have _t := tok1; clear tok1; refine store_row (by rfl) 35 _ _ (by rfl) (w3.heap.size) (vls 178 (clw (setW (gcG c 8 8)) t)) (vls 178 (clw (fun _ => 0) 0)) (by rfl) (by rfl) (kM.out) (by rw [vls_size]; exact info_col) (by simp) (vls_one (clw_one _ _)) (by omega) f3 ?_; intro w4 k4; replace k4 := hid (k4); have c177 := (k4.out.v in0).ct; clear kM; have tok2 : True := trivial) | (have _t := tok2; clear tok2; refine store_one (by rfl) 2 _ _ (by rfl) (by kernel_rfl) (w3.heap.size) 177 (.int .i64 (t + 1)) (by rfl) (by rfl) rfl rfl k4.out (by omega) (by omega) f3 ?_; intro w5 k5; replace k5 := hid (k5.ext (fun i _ => clw_tick (setW (gcG c 8 8)) t (t + 1) i)); clear k4 c177; have tok3 : True := trivial) | (have _t := tok3; clear tok3; refine wpList_load_row (by rfl) 35 _ (by rfl) (w3.heap.size) (by rfl) 35 (vls 178 (clw (setW (gcG c 8 8)) (t + 1))) (0, 0) _ (k5.out.v in0) Tryz.underlying35 (by rfl) (by rw [vls_size]; exact info_col) ?_))
  refine (HF.out _).mono ?_
  rintro e w6 ⟨rfl, hb6⟩
  have k6 := hid (k5.out.stay hb6)
  have tok1 : True := trivial
  clear k5 hb6
  go_wp2_with (first | (have _t := tok1; clear tok1; refine store_row (by rfl) 35 _ _ (by rfl) (w.heap.size + 1) (vls 178 (clw (setW (gcG c 8 8)) (t + 1))) (vls 178 (clw (fun _ => 0) 0)) (by rfl) (by rfl) (k6.out.up2) (by rw [vls_size]; exact info_col) (by simp) (vls_one (clw_one _ _)) (by omega) (neC (by omega) (neC (by omega) (neC (by omega) ne0))) ?_; intro w7 k7; replace k7 := hid (k7); clear k6))
  exact bodyPost_ret (results_row_tmp rfl _ _ (w.heap.size + 1) 35 (vls 178 (clw (setW (gcG c 8 8)) (t + 1))) (0, 0) _ rfl (k7.out.at (x := (w.heap.size + 1, vls 178 (clw (setW (gcG c 8 8)) (t + 1)), 35)) in0) Tryz.underlying35 rfl (by rw [vls_size]; exact info_col)) rfl ⟨rfl, k7.out.1⟩

theorem iTick_t (c : Nat → Nat) (t : Int) (hb : ∀ i, i < 177 → c i < 4294967296) (h : ColOk c t) (hk : tickOk c t) (w : World) :
    Calls Tryz.prog 9 #[.agg (vls 178 (clw c t))] w fun e w' => e = .returned (.tuple #[.agg (vls 178 (clw (tickW c) (t + 1))), .int .i64 0]) ∧ Below w.heap.size w w' :=
  iTick_D c t hb h hk.1 hk.2.1 hk.2.2 w

theorem iTick_f (c : Nat → Nat) (t : Int) (hb : ∀ i, i < 177 → c i < 4294967296) (h : ColOk c t) (hk : ¬ tickOk c t) (w : World) :
    Calls Tryz.prog 9 #[.agg (vls 178 (clw c t))] w fun e w' => e = .returned (.tuple #[.agg (vls 178 (clw (fun _ => 0) 0)), .int .i64 4]) ∧ Below w.heap.size w w' := by
  by_cases h1 : ∀ j, j < 8 → okCel c j
  · by_cases h2 : ColOk (setW (gcG c 8 8)) t
    · exact iTick_C c t hb h h1 h2 (fun h3 => hk ⟨h1, h2, h3⟩) w
    · exact iTick_B c t hb h h1 h2 w
  · exact iTick_A c t hb h h1 w

set_option maxRecDepth 100000 in
set_option maxHeartbeats 1000000 in
theorem sTick_A (c : Nat → Nat) (t : Int) (hb : ∀ i, i < 177 → c i < 4294967296) (h : ColOk c t) (hM : ¬ ∀ j, j < 8 → okCel c j) (w : World) (g : Nat) (T : TypeId) (hg : vAt w g 178 (clw c t) T) :
    Calls Tryz.prog 22 #[.pointer (some ⟨g, 0, none⟩)] w fun e w' => e = .returned (.tuple #[.agg (vls 178 (clw (fun _ => 0) 0)), .int .i64 4]) ∧ Below w.heap.size w w' := by
  have hgl := hg.lt
  have k0 : Hid (Kept w [(w.heap.size, vls 178 (clw (fun _ => 0) 0), 35), (g, vls 178 (clw c t), T)] (w.alloc (.cells (vls 178 (clw (fun _ => 0) 0)) 35))) := hid (Kept.push ⟨Below.refl _ _, fun x hx => by rw [List.mem_singleton.1 hx]; exact hg⟩ _ _)
  clear hg
  have HG := hid (fun w (hv : vAt w g 178 (clw c t) T) => sGrowL_f c t hb h hM w g T hv)
  clear hb h hM
  go_enter Tryz.func22, Tryz.ntmps22
  go_wp2_with fail
  refine (HG.out _ (k0.out.v in1)).mono ?_
  rintro e w1 ⟨rfl, hb1⟩
  have k1 := hid (k0.out.stay hb1)
  have l1 : w.heap.size < w1.heap.size := k1.out.lt in0
  have m1 : g < w1.heap.size := k1.out.lt in1
  have kN := hid (k1.out.push (vls 178 (clw (fun _ => 0) 0)) 35)
  have f1 := k1.out.fresh
  have tok1 : True := trivial
  clear k0 hb1 k1
  go_wp2_with (first | (have _t := tok1; clear tok1; refine store_row (by rfl) 35 _ _ (by rfl) (w1.heap.size) (vls 178 (clw (fun _ => 0) 0)) (vls 178 (clw (fun _ => 0) 0)) (by rfl) (by rfl) (kN.out) (by rw [vls_size]; exact info_col) (by simp) (vls_one (clw_one _ _)) (by omega) f1 ?_; intro w2 k2; replace k2 := hid (k2); clear kN; have tok2 : True := trivial) | (have _t := tok2; clear tok2; refine store_row (by rfl) 35 _ _ (by rfl) (w.heap.size) (vls 178 (clw (fun _ => 0) 0)) (vls 178 (clw (fun _ => 0) 0)) (by rfl) (by rfl) (k2.out.swap) (by rw [vls_size]; exact info_col) (by simp) (vls_one (clw_one _ _)) (by omega) (neC (by omega) (neC (by omega) ne0)) ?_; intro w3 k3; replace k3 := hid (k3); clear k2))
  exact bodyPost_ret (results_row_tmp rfl _ _ (w.heap.size) 35 (vls 178 (clw (fun _ => 0) 0)) (0, 0) _ rfl (k3.out.at (x := (w.heap.size, vls 178 (clw (fun _ => 0) 0), 35)) in0) Tryz.underlying35 rfl (by rw [vls_size]; exact info_col)) rfl ⟨rfl, k3.out.1⟩

set_option maxRecDepth 100000 in
set_option maxHeartbeats 1000000 in
theorem sTick_B (c : Nat → Nat) (t : Int) (hb : ∀ i, i < 177 → c i < 4294967296) (h : ColOk c t) (hM : ∀ j, j < 8 → okCel c j) (hS : ¬ ColOk (setW (gcG c 8 8)) t) (w : World) (g : Nat) (T : TypeId) (hg : vAt w g 178 (clw c t) T) :
    Calls Tryz.prog 22 #[.pointer (some ⟨g, 0, none⟩)] w fun e w' => e = .returned (.tuple #[.agg (vls 178 (clw (fun _ => 0) 0)), .int .i64 4]) ∧ Below w.heap.size w w' := by
  have hgl := hg.lt
  have k0 : Hid (Kept w [(w.heap.size, vls 178 (clw (fun _ => 0) 0), 35), (g, vls 178 (clw c t), T)] (w.alloc (.cells (vls 178 (clw (fun _ => 0) 0)) 35))) := hid (Kept.push ⟨Below.refl _ _, fun x hx => by rw [List.mem_singleton.1 hx]; exact hg⟩ _ _)
  clear hg
  have HGO := gcG_ok h hb hM
  have HGL := gcG_lt h hb hM
  have HG := hid (fun w (hv : vAt w g 178 (clw c t) T) => sGrowL_t c t hb h hM w g T hv)
  have HS := hid (fun w g (hv : vAt w g 178 (clw (gcG c 8 8) t) 35) => sSettleC (gcG c 8 8) t HGL HGO (fun _ => 0) 0 4 (fun x => absurd x hS) (fun _ => ⟨rfl, rfl, rfl⟩) w g 35 hv)
  clear hb h hM HGO HGL hS
  go_enter Tryz.func22, Tryz.ntmps22
  go_wp2_with fail
  refine (HG.out _ (k0.out.v in1)).mono ?_
  rintro e w1 ⟨rfl, hb1⟩
  have k1 := hid (k0.out.stay hb1)
  have l1 : w.heap.size < w1.heap.size := k1.out.lt in0
  have m1 : g < w1.heap.size := k1.out.lt in1
  have kN := hid (k1.out.push (vls 178 (clw (fun _ => 0) 0)) 35)
  have f1 := k1.out.fresh
  have tok1 : True := trivial
  clear k0 hb1 k1
  go_wp2_with (first | (have _t := tok1; clear tok1; refine store_row (by rfl) 35 _ _ (by rfl) (w1.heap.size) (vls 178 (clw (gcG c 8 8) t)) (vls 178 (clw (fun _ => 0) 0)) (by rfl) (by rfl) (kN.out) (by rw [vls_size]; exact info_col) (by simp) (vls_one (clw_one _ _)) (by omega) f1 ?_; intro w2 k2; replace k2 := hid (k2); clear kN))
  refine (HS.out _ (w1.heap.size) (k2.out.v in0)).mono ?_
  rintro e w3 ⟨rfl, hb3⟩
  have k3 := hid (k2.out.stay hb3)
  have l3 : w1.heap.size < w3.heap.size := k3.out.lt in0
  have kM := hid (k3.out.push (vls 178 (clw (fun _ => 0) 0)) 35)
  have f3 := k3.out.fresh
  have tok1 : True := trivial
  clear k2 hb3 k3
  go_wp2_with (first | (have _t := tok1; clear tok1; refine store_row (by rfl) 35 _ _ (by rfl) (w3.heap.size) (vls 178 (clw (fun _ => 0) 0)) (vls 178 (clw (fun _ => 0) 0)) (by rfl) (by rfl) (kM.out) (by rw [vls_size]; exact info_col) (by simp) (vls_one (clw_one _ _)) (by omega) f3 ?_; intro w4 k4; replace k4 := hid (k4); clear kM; have tok2 : True := trivial) | (have _t := tok2; clear tok2; refine store_row (by rfl) 35 _ _ (by rfl) (w.heap.size) (vls 178 (clw (fun _ => 0) 0)) (vls 178 (clw (fun _ => 0) 0)) (by rfl) (by rfl) (k4.out.up2) (by rw [vls_size]; exact info_col) (by simp) (vls_one (clw_one _ _)) (by omega) (neC (by omega) (neC (by omega) (neC (by omega) ne0))) ?_; intro w5 k5; replace k5 := hid (k5); clear k4))
  exact bodyPost_ret (results_row_tmp rfl _ _ (w.heap.size) 35 (vls 178 (clw (fun _ => 0) 0)) (0, 0) _ rfl (k5.out.at (x := (w.heap.size, vls 178 (clw (fun _ => 0) 0), 35)) in0) Tryz.underlying35 rfl (by rw [vls_size]; exact info_col)) rfl ⟨rfl, k5.out.1⟩

set_option maxRecDepth 100000 in
set_option maxHeartbeats 1000000 in
theorem sTick_C (c : Nat → Nat) (t : Int) (hb : ∀ i, i < 177 → c i < 4294967296) (h : ColOk c t) (hM : ∀ j, j < 8 → okCel c j) (hS : ColOk (setW (gcG c 8 8)) t) (hF : ¬ ColOk (setW (gcG c 8 8)) (t + 1)) (w : World) (g : Nat) (T : TypeId) (hg : vAt w g 178 (clw c t) T) :
    Calls Tryz.prog 22 #[.pointer (some ⟨g, 0, none⟩)] w fun e w' => e = .returned (.tuple #[.agg (vls 178 (clw (fun _ => 0) 0)), .int .i64 4]) ∧ Below w.heap.size w w' := by
  have hgl := hg.lt
  have k0 : Hid (Kept w [(w.heap.size, vls 178 (clw (fun _ => 0) 0), 35), (g, vls 178 (clw c t), T)] (w.alloc (.cells (vls 178 (clw (fun _ => 0) 0)) 35))) := hid (Kept.push ⟨Below.refl _ _, fun x hx => by rw [List.mem_singleton.1 hx]; exact hg⟩ _ _)
  clear hg
  have HGO := gcG_ok h hb hM
  have HGL := gcG_lt h hb hM
  have ht0 := h.t0
  have ht1 := h.t1
  have HX := setW_lt HGO HGL
  have HF := hid (fun w g (hv : vAt w g 178 (clw (setW (gcG c 8 8)) (t + 1)) 35) => sMadeC_f (setW (gcG c 8 8)) (t + 1) HX hF w g 35 hv)
  clear hF HX
  have HG := hid (fun w (hv : vAt w g 178 (clw c t) T) => sGrowL_t c t hb h hM w g T hv)
  have HS := hid (fun w g (hv : vAt w g 178 (clw (gcG c 8 8) t) 35) => sSettleC (gcG c 8 8) t HGL HGO (setW (gcG c 8 8)) t 0 (fun _ => ⟨rfl, rfl, rfl⟩) (fun x => absurd hS x) w g 35 hv)
  clear hb h hM HGO HGL hS
  go_enter Tryz.func22, Tryz.ntmps22
  go_wp2_with fail
  refine (HG.out _ (k0.out.v in1)).mono ?_
  rintro e w1 ⟨rfl, hb1⟩
  have k1 := hid (k0.out.stay hb1)
  have l1 : w.heap.size < w1.heap.size := k1.out.lt in0
  have m1 : g < w1.heap.size := k1.out.lt in1
  have kN := hid (k1.out.push (vls 178 (clw (fun _ => 0) 0)) 35)
  have f1 := k1.out.fresh
  have tok1 : True := trivial
  clear k0 hb1 k1
  go_wp2_with (first | (have _t := tok1; clear tok1; refine store_row (by rfl) 35 _ _ (by rfl) (w1.heap.size) (vls 178 (clw (gcG c 8 8) t)) (vls 178 (clw (fun _ => 0) 0)) (by rfl) (by rfl) (kN.out) (by rw [vls_size]; exact info_col) (by simp) (vls_one (clw_one _ _)) (by omega) f1 ?_; intro w2 k2; replace k2 := hid (k2); clear kN))
  refine (HS.out _ (w1.heap.size) (k2.out.v in0)).mono ?_
  rintro e w3 ⟨rfl, hb3⟩
  have k3 := hid (k2.out.stay hb3)
  have l3 : w1.heap.size < w3.heap.size := k3.out.lt in0
  have kM := hid (k3.out.push (vls 178 (clw (fun _ => 0) 0)) 35)
  have f3 := k3.out.fresh
  have tok1 : True := trivial
  clear k2 hb3 k3
  go_wp2_with (first | (have _t := tok1; clear tok1; refine store_row (by rfl) 35 _ _ (by rfl) (w3.heap.size) (vls 178 (clw (setW (gcG c 8 8)) t)) (vls 178 (clw (fun _ => 0) 0)) (by rfl) (by rfl) (kM.out) (by rw [vls_size]; exact info_col) (by simp) (vls_one (clw_one _ _)) (by omega) f3 ?_; intro w4 k4; replace k4 := hid (k4); have c177 := (k4.out.v in0).ct; clear kM; have tok2 : True := trivial) | (have _t := tok2; clear tok2; refine store_one (by rfl) 2 _ _ (by rfl) (by kernel_rfl) (w3.heap.size) 177 (.int .i64 (t + 1)) (by rfl) (by rfl) rfl rfl k4.out (by omega) (by omega) f3 ?_; intro w5 k5; replace k5 := hid (k5.ext (fun i _ => clw_tick (setW (gcG c 8 8)) t (t + 1) i)); clear k4 c177))
  refine (HF.out _ (w3.heap.size) (k5.out.v in0)).mono ?_
  rintro e w6 ⟨rfl, hb6⟩
  have k6 := hid (k5.out.stay hb6)
  have tok1 : True := trivial
  clear k5 hb6
  go_wp2_with (first | (have _t := tok1; clear tok1; refine store_row (by rfl) 35 _ _ (by rfl) (w.heap.size) (vls 178 (clw (fun _ => 0) 0)) (vls 178 (clw (fun _ => 0) 0)) (by rfl) (by rfl) (k6.out.up2) (by rw [vls_size]; exact info_col) (by simp) (vls_one (clw_one _ _)) (by omega) (neC (by omega) (neC (by omega) (neC (by omega) ne0))) ?_; intro w7 k7; replace k7 := hid (k7); clear k6))
  exact bodyPost_ret (results_row_tmp rfl _ _ (w.heap.size) 35 (vls 178 (clw (fun _ => 0) 0)) (0, 0) _ rfl (k7.out.at (x := (w.heap.size, vls 178 (clw (fun _ => 0) 0), 35)) in0) Tryz.underlying35 rfl (by rw [vls_size]; exact info_col)) rfl ⟨rfl, k7.out.1⟩

set_option maxRecDepth 100000 in
set_option maxHeartbeats 1000000 in
theorem sTick_D (c : Nat → Nat) (t : Int) (hb : ∀ i, i < 177 → c i < 4294967296) (h : ColOk c t) (hM : ∀ j, j < 8 → okCel c j) (hS : ColOk (setW (gcG c 8 8)) t) (hF : ColOk (setW (gcG c 8 8)) (t + 1)) (w : World) (g : Nat) (T : TypeId) (hg : vAt w g 178 (clw c t) T) :
    Calls Tryz.prog 22 #[.pointer (some ⟨g, 0, none⟩)] w fun e w' => e = .returned (.tuple #[.agg (vls 178 (clw (setW (gcG c 8 8)) (t + 1))), .int .i64 0]) ∧ Below w.heap.size w w' := by
  have hgl := hg.lt
  have k0 : Hid (Kept w [(w.heap.size, vls 178 (clw (fun _ => 0) 0), 35), (g, vls 178 (clw c t), T)] (w.alloc (.cells (vls 178 (clw (fun _ => 0) 0)) 35))) := hid (Kept.push ⟨Below.refl _ _, fun x hx => by rw [List.mem_singleton.1 hx]; exact hg⟩ _ _)
  clear hg
  have HGO := gcG_ok h hb hM
  have HGL := gcG_lt h hb hM
  have ht0 := h.t0
  have ht1 := h.t1
  have HX := setW_lt HGO HGL
  have HF := hid (fun w g (hv : vAt w g 178 (clw (setW (gcG c 8 8)) (t + 1)) 35) => sMadeC_t (setW (gcG c 8 8)) (t + 1) HX hF w g 35 hv)
  clear hF HX
  have HG := hid (fun w (hv : vAt w g 178 (clw c t) T) => sGrowL_t c t hb h hM w g T hv)
  have HS := hid (fun w g (hv : vAt w g 178 (clw (gcG c 8 8) t) 35) => sSettleC (gcG c 8 8) t HGL HGO (setW (gcG c 8 8)) t 0 (fun _ => ⟨rfl, rfl, rfl⟩) (fun x => absurd hS x) w g 35 hv)
  clear hb h hM HGO HGL hS
  go_enter Tryz.func22, Tryz.ntmps22
  go_wp2_with fail
  refine (HG.out _ (k0.out.v in1)).mono ?_
  rintro e w1 ⟨rfl, hb1⟩
  have k1 := hid (k0.out.stay hb1)
  have l1 : w.heap.size < w1.heap.size := k1.out.lt in0
  have m1 : g < w1.heap.size := k1.out.lt in1
  have kN := hid (k1.out.push (vls 178 (clw (fun _ => 0) 0)) 35)
  have f1 := k1.out.fresh
  have tok1 : True := trivial
  clear k0 hb1 k1
  go_wp2_with (first | (have _t := tok1; clear tok1; refine store_row (by rfl) 35 _ _ (by rfl) (w1.heap.size) (vls 178 (clw (gcG c 8 8) t)) (vls 178 (clw (fun _ => 0) 0)) (by rfl) (by rfl) (kN.out) (by rw [vls_size]; exact info_col) (by simp) (vls_one (clw_one _ _)) (by omega) f1 ?_; intro w2 k2; replace k2 := hid (k2); clear kN))
  refine (HS.out _ (w1.heap.size) (k2.out.v in0)).mono ?_
  rintro e w3 ⟨rfl, hb3⟩
  have k3 := hid (k2.out.stay hb3)
  have l3 : w1.heap.size < w3.heap.size := k3.out.lt in0
  have kM := hid (k3.out.push (vls 178 (clw (fun _ => 0) 0)) 35)
  have f3 := k3.out.fresh
  have tok1 : True := trivial
  clear k2 hb3 k3
  go_wp2_with (first | (have _t := tok1; clear tok1; refine store_row (by rfl) 35 _ _ (by rfl) (w3.heap.size) (vls 178 (clw (setW (gcG c 8 8)) t)) (vls 178 (clw (fun _ => 0) 0)) (by rfl) (by rfl) (kM.out) (by rw [vls_size]; exact info_col) (by simp) (vls_one (clw_one _ _)) (by omega) f3 ?_; intro w4 k4; replace k4 := hid (k4); have c177 := (k4.out.v in0).ct; clear kM; have tok2 : True := trivial) | (have _t := tok2; clear tok2; refine store_one (by rfl) 2 _ _ (by rfl) (by kernel_rfl) (w3.heap.size) 177 (.int .i64 (t + 1)) (by rfl) (by rfl) rfl rfl k4.out (by omega) (by omega) f3 ?_; intro w5 k5; replace k5 := hid (k5.ext (fun i _ => clw_tick (setW (gcG c 8 8)) t (t + 1) i)); clear k4 c177))
  refine (HF.out _ (w3.heap.size) (k5.out.v in0)).mono ?_
  rintro e w6 ⟨rfl, hb6⟩
  have k6 := hid (k5.out.stay hb6)
  have tok1 : True := trivial
  clear k5 hb6
  go_wp2_with (first | (have _t := tok1; clear tok1; refine store_row (by rfl) 35 _ _ (by rfl) (w.heap.size) (vls 178 (clw (setW (gcG c 8 8)) (t + 1))) (vls 178 (clw (fun _ => 0) 0)) (by rfl) (by rfl) (k6.out.up2) (by rw [vls_size]; exact info_col) (by simp) (vls_one (clw_one _ _)) (by omega) (neC (by omega) (neC (by omega) (neC (by omega) ne0))) ?_; intro w7 k7; replace k7 := hid (k7); clear k6))
  exact bodyPost_ret (results_row_tmp rfl _ _ (w.heap.size) 35 (vls 178 (clw (setW (gcG c 8 8)) (t + 1))) (0, 0) _ rfl (k7.out.at (x := (w.heap.size, vls 178 (clw (setW (gcG c 8 8)) (t + 1)), 35)) in0) Tryz.underlying35 rfl (by rw [vls_size]; exact info_col)) rfl ⟨rfl, k7.out.1⟩

theorem sTick_t (c : Nat → Nat) (t : Int) (hb : ∀ i, i < 177 → c i < 4294967296) (h : ColOk c t) (hk : tickOk c t) (w : World) (g : Nat) (T : TypeId) (hg : vAt w g 178 (clw c t) T) :
    Calls Tryz.prog 22 #[.pointer (some ⟨g, 0, none⟩)] w fun e w' => e = .returned (.tuple #[.agg (vls 178 (clw (tickW c) (t + 1))), .int .i64 0]) ∧ Below w.heap.size w w' :=
  sTick_D c t hb h hk.1 hk.2.1 hk.2.2 w g T hg

theorem sTick_f (c : Nat → Nat) (t : Int) (hb : ∀ i, i < 177 → c i < 4294967296) (h : ColOk c t) (hk : ¬ tickOk c t) (w : World) (g : Nat) (T : TypeId) (hg : vAt w g 178 (clw c t) T) :
    Calls Tryz.prog 22 #[.pointer (some ⟨g, 0, none⟩)] w fun e w' => e = .returned (.tuple #[.agg (vls 178 (clw (fun _ => 0) 0)), .int .i64 4]) ∧ Below w.heap.size w w' := by
  by_cases h1 : ∀ j, j < 8 → okCel c j
  · by_cases h2 : ColOk (setW (gcG c 8 8)) t
    · exact sTick_C c t hb h h1 h2 (fun h3 => hk ⟨h1, h2, h3⟩) w g T hg
    · exact sTick_B c t hb h h1 h2 w g T hg
  · exact sTick_A c t hb h h1 w g T hg

/-- A column, and the code that came with it. -/
structure TSt where
  c : Nat → Nat
  t : Int
  n : Int

noncomputable def tNext (s : TSt) : TSt := @ite TSt (tickOk s.c s.t) (Classical.propDecidable _) ⟨tickW s.c, s.t + 1, 0⟩ ⟨fun _ => 0, 0, 4⟩

theorem tNext_t {s : TSt} (h : tickOk s.c s.t) : tNext s = ⟨tickW s.c, s.t + 1, 0⟩ := if_pos h

theorem tNext_f {s : TSt} (h : ¬ tickOk s.c s.t) : tNext s = ⟨fun _ => 0, 0, 4⟩ := if_neg h

noncomputable def tSt (s : TSt) : Nat → TSt
  | 0 => s
  | k + 1 => tNext (tSt s k)

structure TVal (s : TSt) : Prop where
  ok : ColOk s.c s.t
  lt : ∀ i, i < 177 → s.c i < 4294967296

theorem col_zero : ColOk (fun _ => 0) 0 := ⟨fun _ _ _ _ => (by decide : amtB 0 = true), fun _ _ => (by decide : airB 0 0 = true), (by decide : amtB 0 = true), by decide, by decide⟩

theorem tickW_lt {c : Nat → Nat} {t : Int} (h : ColOk c t) (hb : ∀ i, i < 177 → c i < 4294967296) (hk : tickOk c t) (i : Nat) (hi : i < 177) : tickW c i < 4294967296 := setW_lt (gcG_ok h hb hk.1) (gcG_lt h hb hk.1) i hi

theorem TVal.next {s : TSt} (h : TVal s) : TVal (tNext s) := by
  by_cases hk : tickOk s.c s.t
  · rw [tNext_t hk]
    exact ⟨hk.2.2, tickW_lt h.ok h.lt hk⟩
  · rw [tNext_f hk]
    exact ⟨col_zero, fun _ _ => (by decide : (0 : Nat) < 4294967296)⟩

theorem TVal.at {s : TSt} (h : TVal s) : ∀ k, TVal (tSt s k)
  | 0 => h
  | k + 1 => (h.at k).next

set_option maxRecDepth 100000 in
theorem sTickColumn_bad (c : Nat → Nat) (t : Int)  (hb : ∀ i, i < 177 → c i < 4294967296) (h : ¬ ColOk c t) (w : World) :
    Calls Tryz.prog 7 #[.agg (vls 178 (clw c t))] w fun e w' => e = .returned (.tuple #[.agg (vls 178 (clw (fun _ => 0) 0)), .int .i64 1]) ∧ Below w.heap.size w w' := by
  have k0 : Hid (Kept w [(w.heap.size + 1, vls 178 (clw (fun _ => 0) 0), 35), (w.heap.size, vls 178 (clw c t), 35)] ((w.alloc (.cells (vls 178 (clw c t)) 35)).alloc (.cells (vls 178 (clw (fun _ => 0) 0)) 35))) := hid ((((Kept.nil w).push _ _).push _ _).sub (by simp))
  have HB := hid hb
  have HQ := hid h
  have tok1 : True := trivial
  clear hb h
  go_enter Tryz.func7, Tryz.ntmps7
  go_wp2_with fail
  refine (sColOk c t HB.out false (col_no HQ.out) _ w.heap.size 35 (k0.out.v in1)).mono ?_
  rintro e w1 ⟨rfl, hb1⟩
  have k1 := hid (k0.out.stay hb1)
  clear k0 hb1
  go_wp2_with (have _t := tok1; refine store_row (by rfl) 35 _ _ (by rfl) (w.heap.size + 1) (vls 178 (clw (fun _ => 0) 0)) (vls 178 (clw (fun _ => 0) 0)) (by rfl) (by rfl) k1.out (by rw [vls_size]; exact info_col) (by simp) (vls_one (clw_one _ _)) (by omega) (neC (by omega) ne0) ?_; intro xk2 k2; replace k2 := hid k2; clear k1 tok1)
  exact bodyPost_ret (results_row_tmp rfl _ _ (w.heap.size + 1) 35 (vls 178 (clw (fun _ => 0) 0)) (0, 0) _ rfl (k2.out.at (x := (w.heap.size + 1, vls 178 (clw (fun _ => 0) 0), 35)) in0) Tryz.underlying35 rfl (by rw [vls_size]; exact info_col)) rfl ⟨rfl, k2.out.1⟩

set_option maxRecDepth 100000 in
theorem sTickColumn_ok (c : Nat → Nat) (t : Int) (hb : ∀ i, i < 177 → c i < 4294967296) (h : ColOk c t) (r : Nat → Nat) (s n : Int) (hC : ∀ (w : World) (g : Nat) (T : TypeId), vAt w g 178 (clw c t) T → Calls Tryz.prog 22 #[.pointer (some ⟨g, 0, none⟩)] w fun e w' => e = .returned (.tuple #[.agg (vls 178 (clw r s)), .int .i64 n]) ∧ Below w.heap.size w w') (w : World) :
    Calls Tryz.prog 7 #[.agg (vls 178 (clw c t))] w fun e w' => e = .returned (.tuple #[.agg (vls 178 (clw r s)), .int .i64 n]) ∧ Below w.heap.size w w' := by
  have k0 : Hid (Kept w [(w.heap.size + 1, vls 178 (clw (fun _ => 0) 0), 35), (w.heap.size, vls 178 (clw c t), 35)] ((w.alloc (.cells (vls 178 (clw c t)) 35)).alloc (.cells (vls 178 (clw (fun _ => 0) 0)) 35))) := hid ((((Kept.nil w).push _ _).push _ _).sub (by simp))
  have HB := hid hb
  have HQ := hid h
  have HC := hid hC
  have tok1 : True := trivial
  clear hb h hC
  go_enter Tryz.func7, Tryz.ntmps7
  go_wp2_with fail
  refine (sColOk c t HB.out true (col_ok HQ.out) _ w.heap.size 35 (k0.out.v in1)).mono ?_
  rintro e w1 ⟨rfl, hb1⟩
  have k1 := hid (k0.out.stay hb1)
  clear k0 hb1
  go_wp2_with fail
  refine (HC.out _ w.heap.size 35 (k1.out.v in1)).mono ?_
  rintro e w2 ⟨rfl, hb2⟩
  have k2 := hid (k1.out.stay hb2)
  clear k1 hb2
  go_wp2_with (have _t := tok1; refine store_row (by rfl) 35 _ _ (by rfl) (w.heap.size + 1) (vls 178 (clw r s)) (vls 178 (clw (fun _ => 0) 0)) (by rfl) (by rfl) k2.out (by rw [vls_size]; exact info_col) (by simp) (vls_one (clw_one _ _)) (by omega) (neC (by omega) ne0) ?_; intro xk3 k3; replace k3 := hid k3; clear k2 tok1)
  exact bodyPost_ret (results_row_tmp rfl _ _ (w.heap.size + 1) 35 (vls 178 (clw r s)) (0, 0) _ rfl (k3.out.at (x := (w.heap.size + 1, vls 178 (clw r s), 35)) in0) Tryz.underlying35 rfl (by rw [vls_size]; exact info_col)) rfl ⟨rfl, k3.out.1⟩

set_option maxRecDepth 100000 in
theorem iTick_bad (c : Nat → Nat) (t : Int) (hb : ∀ i, i < 177 → c i < 4294967296) (h : ¬ ColOk c t) (w : World) :
    Calls Tryz.prog 9 #[.agg (vls 178 (clw c t))] w fun e w' => e = .returned (.tuple #[.agg (vls 178 (clw (fun _ => 0) 0)), .int .i64 1]) ∧ Below w.heap.size w w' := by
  have k0 : Hid (Kept w [(w.heap.size + 1, vls 178 (clw (fun _ => 0) 0), 35), (w.heap.size, vls 178 (clw c t), 35)] ((w.alloc (.cells (vls 178 (clw c t)) 35)).alloc (.cells (vls 178 (clw (fun _ => 0) 0)) 35))) := hid ((((Kept.nil w).push _ _).push _ _).sub (by simp))
  have HG := hid (fun w => iGrowC_bad c t hb h w)
  clear hb h
  go_enter Tryz.func9, Tryz.ntmps9
  have tok1 : True := trivial
  go_wp2_with (have _t := tok1; clear tok1; refine wpList_load_row (by rfl) 35 _ (by rfl) (w.heap.size) (by rfl) 35 (vls 178 (clw c t)) (0, 0) _ (k0.out.v in1) Tryz.underlying35 (by rfl) (by rw [vls_size]; exact info_col) ?_)
  refine (HG.out _).mono ?_
  rintro e w1 ⟨rfl, hb1⟩
  have k1 := hid (k0.out.stay hb1)
  have l1 : w.heap.size + 1 < w1.heap.size := k1.out.lt in0
  have kN := hid (k1.out.push (vls 178 (clw (fun _ => 0) 0)) 35)
  have f1 := k1.out.fresh
  have tok1 : True := trivial
  clear k0 hb1 k1
  go_wp2_with (first | (have _t := tok1; clear tok1; refine store_row (by rfl) 35 _ _ (by rfl) (w1.heap.size) (vls 178 (clw (fun _ => 0) 0)) (vls 178 (clw (fun _ => 0) 0)) (by rfl) (by rfl) kN.out (by rw [vls_size]; exact info_col) (by simp) (vls_one (clw_one _ _)) (by omega) f1 ?_; intro w2 k2; replace k2 := hid k2; clear kN; have tok2 : True := trivial) | (have _t := tok2; clear tok2; refine store_row (by rfl) 35 _ _ (by rfl) (w.heap.size + 1) (vls 178 (clw (fun _ => 0) 0)) (vls 178 (clw (fun _ => 0) 0)) (by rfl) (by rfl) k2.out.swap (by rw [vls_size]; exact info_col) (by simp) (vls_one (clw_one _ _)) (by omega) (neC (by omega) (neC (by omega) ne0)) ?_; intro w3 k3; replace k3 := hid k3; clear k2))
  exact bodyPost_ret (results_row_tmp rfl _ _ (w.heap.size + 1) 35 (vls 178 (clw (fun _ => 0) 0)) (0, 0) _ rfl (k3.out.at (x := (w.heap.size + 1, vls 178 (clw (fun _ => 0) 0), 35)) in0) Tryz.underlying35 rfl (by rw [vls_size]; exact info_col)) rfl ⟨rfl, k3.out.1⟩

theorem words_cons : ∀ (v : List Char) (r : List Char), (∀ c ∈ v, c ≠ Char.ofNat 32) → wordsSigns (v ++ Char.ofNat 32 :: r) = v :: wordsSigns r
  | [], r, _ => rfl
  | c :: v, r, h => by
    have ih := words_cons v r (fun x hx => h x (by simp [hx]))
    have hc : c ≠ Char.ofNat 32 := h c (by simp)
    show wordsSigns (c :: (v ++ Char.ofNat 32 :: r)) = _
    rw [wordsSigns.eq_3 _ _ (fun e => hc e), ih]

def w0 : List Nat := [104, 97, 114, 110, 101, 115, 115]

def w1 : List Nat := [101, 55, 48, 54, 48, 56, 51, 50, 98, 52, 54, 99, 50, 98, 49, 55, 49, 97, 55, 52, 102, 53, 56, 48, 99, 102, 102, 54, 48, 57, 100, 51, 57, 51, 53, 50, 57, 50, 50, 99, 52, 101, 98, 97, 55, 100, 52, 51, 101, 54, 56, 56, 98, 53, 100, 51, 56, 101, 99, 56, 56, 102, 49, 101]

def w2 : List Nat := [99, 117, 116]

def w3 : List Nat := [97, 116, 32, 108, 111, 111, 112, 46, 101, 120, 97, 109, 112, 108, 101, 47, 103, 48, 49, 50, 50, 52, 47, 108, 97, 119, 115, 46, 70, 110, 69, 120, 97, 99, 116, 84, 105, 99, 107, 67, 111, 108, 117, 109, 110, 32, 108, 111, 111, 112, 46, 101, 120, 97, 109, 112, 108, 101, 47, 103, 48, 49, 50, 50, 52, 47, 108, 97, 119, 115, 46, 70, 110, 69, 120, 97, 99, 116, 84, 105, 99, 107, 67, 111, 108, 117, 109, 110, 115, 32, 108, 111, 111, 112, 46, 101, 120, 97, 109, 112, 108, 101, 47, 103, 48, 49, 50, 50, 52, 47, 108, 97, 119, 115, 46, 70, 110, 69, 120, 97, 99, 116, 68, 111, 65, 99, 116, 32, 108, 111, 111, 112, 46, 101, 120, 97, 109, 112, 108, 101, 47, 103, 48, 49, 50, 50, 52, 47, 108, 97, 119, 115, 46, 70, 110, 69, 120, 97, 99, 116, 82, 117, 110, 65, 99, 116, 115]

def letters (l : List Nat) : List Char := l.map Char.ofNat

theorem head_reads : Tryz.prog.initOrder = String.ofList (letters w0 ++ Char.ofNat 32 :: (letters w1 ++ Char.ofNat 32 :: (letters w2 ++ Char.ofNat 32 :: letters w3))) := by kernel_rfl

theorem no_blank {l : List Nat} (h : l.all (fun n => Char.ofNat n != Char.ofNat 32) = true) : ∀ c ∈ letters l, c ≠ Char.ofNat 32 := by
  intro c hc
  obtain ⟨n, hn, rfl⟩ := List.mem_map.1 hc
  have := List.all_eq_true.1 h n hn
  simpa using this

theorem h0 : letters w0 = "harness".toList := by kernel_rfl

theorem h2 : letters w2 = "cut".toList := by kernel_rfl

theorem sums : isSumSigns (letters w1) = true := by kernel_rfl

theorem words : wordsSigns Tryz.prog.initOrder.toList = "harness".toList :: letters w1 :: "cut".toList :: wordsSigns (letters w3) := by
  rw [head_reads, String.toList_ofList, words_cons _ _ (no_blank (by decide +kernel)), words_cons _ _ (no_blank (by decide +kernel)), words_cons _ _ (no_blank (by decide +kernel)), h0, h2]

theorem behind : ∃ r, behindMainWord (wordsSigns Tryz.prog.initOrder.toList) = "cut".toList :: r := by
  refine ⟨wordsSigns (letters w3), ?_⟩
  rw [words]
  generalize wordsSigns (letters w3) = r
  have hs := sums
  generalize letters w1 = v at hs
  unfold behindMainWord
  simp [hs]

theorem not_later : Tryz.prog.laysLater = false := by kernel_rfl

theorem no_reflect : Tryz.prog.bearsReflect = false := by kernel_rfl

theorem no_doors : Tryz.prog.doorFits [] = true := by kernel_rfl

theorem strips (r : List (List Char)) : stripLifts liftWords ("cut".toList :: r) = ([], "cut".toList :: r) := by kernel_rfl

theorem may_enter_of (P : Program) (r : List (List Char)) (h : behindMainWord (wordsSigns P.initOrder.toList) = "cut".toList :: r) (h1 : P.laysLater = false) (h2 : P.bearsReflect = false) (h3 : P.doorFits [] = true) : P.mayEnter = true := by
  unfold Program.mayEnter
  rw [h]
  dsimp only
  rw [strips, h1, h2, h3]
  kernel_rfl

theorem lifts_final_of (P : Program) (r : List (List Char)) (h : behindMainWord (wordsSigns P.initOrder.toList) = "cut".toList :: r) : P.liftsFinal = false := by
  unfold Program.liftsFinal Program.headLifts
  rw [h]
  dsimp only
  rw [strips]
  kernel_rfl

theorem made_of (P : Program) (r : List (List Char)) (h : behindMainWord (wordsSigns P.initOrder.toList) = "cut".toList :: r) : P.make = some .cut := by
  unfold Program.make
  rw [h]
  kernel_rfl

theorem may_enter : Tryz.prog.mayEnter = true := let ⟨r, h⟩ := behind; may_enter_of _ r h not_later no_reflect no_doors

theorem lifts_final : Tryz.prog.liftsFinal = false := let ⟨r, h⟩ := behind; lifts_final_of _ r h

theorem made : Tryz.prog.make = some .cut := let ⟨r, h⟩ := behind; made_of _ r h

theorem laid : laidOutB Tryz.prog = true := by kernel_rfl

theorem rowed : mapsRowed Tryz.prog = true := by kernel_rfl

theorem no_stops : Tryz.prog.stops = [] := by kernel_rfl

theorem no_knobs : Tryz.prog.stopKnobs = [] := by kernel_rfl

theorem plain_keys : Tryz.prog.plainKeys = true := by kernel_rfl

theorem stops_heard : Tryz.prog.stopsHeard = true := by kernel_rfl

theorem arr1 {α : Type} {cs : Array α} (h : cs.size = 1) : ∃ c0, cs = #[c0] := by
  obtain ⟨l⟩ := cs
  match l, h with
  | [a], _ => exact ⟨a, rfl⟩

theorem own : ownKnob Tryz.prog.godebug = none := by kernel_rfl

theorem cells178 : Tryz.prog.cellsOf 29 = 178 := by kernel_rfl

theorem types178 : Tryz.prog.cellTypes Tryz.prog.depth 29 = some (List.replicate 177 22 ++ [2]) := by kernel_rfl

theorem rdc : Tryz.prog.readableRec 29 = true ∧ 29 < Tryz.prog.types.size := ⟨by kernel_rfl, of_decide_eq_true (by kernel_rfl)⟩
end Go.Proofs.YthpimindkmmkjaaGreat
