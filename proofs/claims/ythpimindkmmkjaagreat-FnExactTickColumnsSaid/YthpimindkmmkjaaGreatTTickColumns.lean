import Derived.Test.YthpimindkmmkjaaGreatUTickColumns
import Derived.Test.YthpimindkmmkjaaGreatCTickColumns
import Derived.Test.YthpimindkmmkjaaGreatChecked
import Derived.Test.YthpimindkmmkjaaGreatRows
import Derived.Laws.FloatArith
import Derived.ProofKit
import Derived.WalkKit
import Derived.WalkLawsBesides
import Derived.WalkSpells
import Derived.Deep.QuietTactic
import Derived.BigQuiet
import Derived.Deep.RegionHeld3
import Derived.ChangeKeysEq
import Derived.Laws.BitsAllLaws
import Derived.Deep.MidRow
import Derived.Deep.WholeRow
import Derived.StillTailTactics
import Derived.Deep.Slices
import Derived.ChangeSame
import Derived.OrdersIn
import Derived.ControlIn
import Derived.RangeFuncSeq
import Derived.RangeFuncNested
import Derived.ArgAppend
import Derived.OwnWalkIn
import Derived.TacticsInMore
import Derived.Below
import Derived.Laws.AppendOwn
import Derived.RangeFuncLeaves
import Derived.RangeFuncBox
import Derived.MapKept
import Derived.StillTail
import Derived.Carry
import Derived.Shelf.Abstract
import Derived.OpenShut
/- The law FnExactTickColumns of chapter 1: at every argument the call returns true, and what was there before it is as it was. -/
namespace Go.Proofs.YthpimindkmmkjaaGreat
open Go.RowKit Go.Fl

set_option maxHeartbeats 4000000 in
set_option maxRecDepth 100000 in
theorem sSettleC (c : Nat → Nat) (t : Int) (hb : ∀ i, i < 177 → c i < 4294967296) (h : ColOk c t) (r : Nat → Nat) (s n : Int) (h1 : ColOk (setW c) t → r = setW c ∧ s = t ∧ n = 0) (h0 : ¬ ColOk (setW c) t → r = (fun _ => 0) ∧ s = 0 ∧ n = 4) (w : World) (g : Nat) (T : TypeId) (hg : vAt w g 178 (clw c t) T) :
    Calls Tryz.prog 51 #[.pointer (some ⟨g, 0, none⟩)] w fun e w' => e = .returned (.tuple #[.agg (vls 178 (clw r s)), .int .i64 n]) ∧ Below w.heap.size w w' := by
  have hgl := hg.lt
  have k0 : Hid (Kept w [(w.heap.size, vls 178 (clw (fun _ => 0) 0), 35), (g, vls 178 (clw c t), T)] (w.alloc (.cells (vls 178 (clw (fun _ => 0) 0)) 35))) := hid (Kept.push ⟨Below.refl _ _, fun x hx => by rw [List.mem_singleton.1 hx]; exact hg⟩ _ _)
  have HB := hid hb
  have HQ := hid h
  have H1 := hid h1
  have H0 := hid h0
  clear hb h h1 h0 hg
  go_enter Tryz.func51, Tryz.ntmps51
  go_wp2_with fail
  refine (sShares _).mono ?_
  rintro e v ⟨rfl, hv⟩
  have k2 := hid (k0.out.stay hv)
  have bv : w.heap.size + 1 ≤ v.heap.size := by have := k2.out.lt (x := (w.heap.size, vls 178 (clw (fun _ => 0) 0), 35)) in0; simp only at this; omega
  have fv := k2.out.fresh
  have kA := hid (k2.out.push (fls fun _ => 0) 23)
  have tokA : True := trivial
  clear k0 hv k2
  go_wp2_with (first
    | (have _t := kB; refine store_row (by rfl) 35 _ _ (by rfl) (w3.heap.size) (vls 178 (clw c t)) (vls 178 (clw (fun _ => 0) 0)) (by rfl) (by rfl) kB.out (by rw [vls_size]; exact info_col) (by simp) (vls_one (clw_one _ _)) (by omega) f3 ?_; intro w4 k4; replace k4 := hid k4; clear kB)
    | (have _t := k3; refine load_cut (by rfl) 35 _ (by rfl) g 0 178 (by rfl) (k3.out.v in2) (by omega) (vls 178 (clw c t)) (vls_ext fun i _ => by rw [Nat.zero_add]) _ Tryz.underlying35 (by rfl) info_col ?_)
    | (have _t := tokA; refine store_row (by rfl) 23 _ _ (by rfl) (v.heap.size) (fls shr) (fls fun _ => 0) (by rfl) (by rfl) kA.out (by rw [fls_size]; exact info_a20) (by simp) (fls_one _) (by omega) fv ?_; intro w3 k3; replace k3 := hid k3; have kB := hid (k3.out.push (vls 178 (clw (fun _ => 0) 0)) 35); have b3 : v.heap.size + 1 ≤ w3.heap.size := (by have := k3.out.lt (x := (v.heap.size, fls shr, 23)) in0; simp only at this; omega); have f3 := k3.out.fresh; clear kA tokA))
  have k5 : Hid (Kept w [(w3.heap.size, vls 178 (clw (stS c (0) (0)) t), 35), (v.heap.size, fls shr, 23), (w.heap.size, vls 178 (clw (fun _ => 0) 0), 35), (g, vls 178 (clw c t), T)] w4) := hid (Kept.ext k4.out (fun i _ => (clw_same (fun i => stS_zero c i) t i).symm))
  clear k3 k4 f3 fv
  go_loopw [6] (fun i wr => ∃ k : Nat, k ≤ 8 ∧ i = .int .i64 k ∧ Hid (Kept w [(w3.heap.size, vls 178 (clw (stS c (k) (0)) t), 35), (v.heap.size, fls shr, 23), (w.heap.size, vls 178 (clw (fun _ => 0) 0), 35), (g, vls 178 (clw c t), T)] wr)) (fun i _ => 8 - (intOf i).toNat)
  case atStart => exact ⟨0, by omega, rfl, k5⟩
  case round =>
    clear k5
    obtain ⟨k, hk, rfl, h0⟩ := hrel
    by_cases hlt : k < 8
    · have HL := hid hlt
      have hk3 : (k : Int) < 8 := by omega
      have k7 := h0
      clear h0
      go_wp2_with fail
      go_loopw [7] (fun i wq => ∃ j : Nat, j ≤ 20 ∧ i = .int .i64 j ∧ Hid (Kept w [(w3.heap.size, vls 178 (clw (stS c (k) (j)) t), 35), (v.heap.size, fls shr, 23), (w.heap.size, vls 178 (clw (fun _ => 0) 0), 35), (g, vls 178 (clw c t), T)] wq)) (fun i _ => 20 - (intOf i).toNat)
      case atStart => exact ⟨0, by omega, rfl, k7⟩
      case round =>
        clear k7
        obtain ⟨j, hj, rfl, h0⟩ := hrel
        by_cases hlj : j < 20
        · have HJ := hid hlj
          have hj3 : (j : Int) < 20 := by omega
          have F := fall_f HQ.out hlt hlj
          have r1 := fun w => run_mul (P := Tryz.prog) 22 F.sh F.am w
          rw [faC_at c k hlj] at r1
          have r2 := fun w => run_sub (P := Tryz.prog) 22 (amtB_iff.1 F.am) F.le w
          rw [show fsub (c (k * 20 + j)) (faC c (k * 20 + j)) = leC c (k * 20 + j) from rfl] at r2
          have tok1 : True := trivial
          have LA := hid F.la
          have FA := hid F.fa
          have R1 := hid r1
          have R2 := hid r2
          clear F r1 r2
          go_wp2_with fail
          have h0 := hid h0.out.drew
          refine wp_region_still_tail 12 (by kernel_rfl) (by kernel_rfl) ?_
          change wpStill _ _ wr.drew (fun a' => wpList _ _ _ _ a' wr.drew) _ _
          simp only [List.take_succ_cons, List.take_zero, List.drop_succ_cons, List.drop_zero]
          generalize wr.drew = wa at h0 ⊢
          still_step
          still_step
          refine still_load rfl 22 _ rfl _ rfl _ ((show vAt wa v.heap.size 20 (flw shr) 23 from h0.out.at (x := (v.heap.size, fls shr, 23)) in1).oneAt j HJ.out (.float .f32 (shr j)) rfl Tryz.underlying22 (by rfl)) ?_
          simp only [Act.put, List.setIfInBounds_toArray, List.set_cons_zero, List.set_cons_succ]
          still_step
          still_step
          still_step
          still_step
          still_step
          still_step
          still_step
          refine still_load rfl 22 _ rfl _ rfl _ ((h0.out.v in3).oneAt (k * 20 + j) (by have := HL.out; have := HJ.out; omega) (.float .f32 (c (k * 20 + j))) (clw_f (by have := HL.out; have := HJ.out; omega)) Tryz.underlying22 (by rfl)) ?_
          simp only [Act.put, List.setIfInBounds_toArray, List.set_cons_zero, List.set_cons_succ]
          refine still_val rfl (.float .f32 (faC c (k * 20 + j))) (run_binop_val _ _ _ _ (by rfl) (by rfl) (by simp [eqGuard]) (R1.out _)) ?_
          simp only [Act.put, List.setIfInBounds_toArray, List.set_cons_zero, List.set_cons_succ]
          refine wpStill_nil ?_
          go_wp2_with fail
          have h0 := hid h0.out.drew
          refine wp_region_still_tail 15 (by kernel_rfl) (by kernel_rfl) ?_
          change wpStill _ _ wa.drew (fun a' => wpList _ _ _ _ a' wa.drew) _ _
          simp only [List.take_succ_cons, List.take_zero, List.drop_succ_cons, List.drop_zero]
          generalize wa.drew = wb at h0 ⊢
          still_step
          still_step
          still_step
          still_step
          still_step
          still_step
          still_step
          still_step
          still_step
          refine still_load rfl 22 _ rfl _ rfl _ ((h0.out.v in3).oneAt (k * 20 + j) (by have := HL.out; have := HJ.out; omega) (.float .f32 (c (k * 20 + j))) (clw_f (by have := HL.out; have := HJ.out; omega)) Tryz.underlying22 (by rfl)) ?_
          simp only [Act.put, List.setIfInBounds_toArray, List.set_cons_zero, List.set_cons_succ]
          still_step
          refine still_val rfl (.float .f32 (leC c (k * 20 + j))) (run_binop_val _ _ _ _ (by rfl) (by rfl) (by simp [eqGuard]) (R2.out _)) ?_
          simp only [Act.put, List.setIfInBounds_toArray, List.set_cons_zero, List.set_cons_succ]
          still_step
          still_step
          still_step
          refine wpStill_nil ?_
          rcases Nat.eq_zero_or_pos k with hz | hz
          · have hk4 : ¬ (0 : Int) < (k : Int) := by omega
            have hk5 : ¬ 0 < k := by omega
            have HM := hid hz
            have R4 := hid (fun w => run_mul (P := Tryz.prog) 22 (x := faC c j) (by have := FA.out; rwa [hz, show 0 * 20 + j = j by omega] at this) (mass_amt hlj) w)
            obtain ⟨g1, g2, g3⟩ := grC_f HQ.out hlj
            have R5 := hid (fun w => run_float_arith (P := Tryz.prog) w .quo 22 .f32 _ _ _ g2)
            have R6 := hid (fun w => run_add (P := Tryz.prog) 22 (gaS_nn HQ.out j (by omega)) g3 w)
            have EF := hid (show faC c (k * 20 + j) = faC c j by rw [hz, show 0 * 20 + j = j by omega])
            clear g1 g2 g3 hz
            go_wp2_with (have _t := tok1; refine store_one (by rfl) 22 _ _ (by rfl) info_f32c (w3.heap.size) (k * 20 + j) (.float .f32 (leC c (k * 20 + j))) (by rfl) (by rfl) rfl rfl h0.out (by omega) (by omega) (neC (by omega) (neC (by omega) (neC (by omega) ne0))) ?_; intro wy h1; replace h1 := hid (h1.ext (stM_is c t HL.out HJ.out)); clear h0 tok1)
            rw [EF.out]
            have h1 := hid h1.out.drew
            refine wp_region_still_tail 9 (by kernel_rfl) (by kernel_rfl) ?_
            change wpStill _ _ wy.drew (fun a' => wpList _ _ _ _ a' wy.drew) _ _
            simp only [List.take_succ_cons, List.take_zero, List.drop_succ_cons, List.drop_zero]
            generalize wy.drew = wz at h1 ⊢
            still_step
            refine still_load rfl 22 _ rfl _ rfl _ ((h1.out.v in0).oneAt 176 (by omega) (.float .f32 (gaS c j)) (stM_gauge' c t HM.out HJ.out) Tryz.underlying22 (by rfl)) ?_
            simp only [Act.put, List.setIfInBounds_toArray, List.set_cons_zero, List.set_cons_succ]
            still_step
            still_step
            still_call (back (sMass j HJ.out _))
            refine still_val rfl (.float .f32 (fmul (faC c j) (mass j))) (run_binop_val _ _ _ _ (by rfl) (by rfl) (by simp [eqGuard]) (R4.out _)) ?_
            simp only [Act.put, List.setIfInBounds_toArray, List.set_cons_zero, List.set_cons_succ]
            refine still_val rfl (.float .f32 (grC c j)) (run_binop_val _ _ _ _ (by rfl) (by rfl) (by simp [eqGuard]) (R5.out _)) ?_
            simp only [Act.put, List.setIfInBounds_toArray, List.set_cons_zero, List.set_cons_succ]
            refine still_val rfl (.float .f32 (gaS c (j + 1))) (run_binop_val _ _ _ _ (by rfl) (by rfl) (by simp [eqGuard]) (R6.out _)) ?_
            simp only [Act.put, List.setIfInBounds_toArray, List.set_cons_zero, List.set_cons_succ]
            still_step
            refine wpStill_nil ?_
            have tok1 : True := trivial
            go_wp2_with (have _t := tok1; refine store_one (by rfl) 22 _ _ (by rfl) info_f32c (w3.heap.size) 176 (.float .f32 (gaS c (j + 1))) (by rfl) (by rfl) rfl rfl h1.out (by omega) (by omega) (neC (by omega) (neC (by omega) (neC (by omega) ne0))) ?_; intro wx h2; replace h2 := hid (h2.ext (stS_gauge' c t HM.out HJ.out)); clear h1 tok1)
            go_roundw
            case rel => exact ⟨j + 1, by omega, by go_num, h2⟩
            case measure => simp [intOf]; omega
          · obtain ⟨m, hm⟩ : ∃ m, k = m + 1 := ⟨k - 1, by omega⟩
            have hk4 : (0 : Int) < (k : Int) := by omega
            have HM := hid hm
            have hkm : (k : Int) - 1 = (m : Int) := by omega
            have hm3 : (m : Int) < 8 := by omega
            have hwm : IntKind.i64.wrap (m : Int) = (m : Int) := by rw [IntKind.wrap_i64]; omega
            have G := fall_f HQ.out (k := m) (by omega) hlj
            have R3 := hid (fun w => run_add (P := Tryz.prog) 22 (amt_nn G.la) (amt_nn (show amtB (faC c (m * 20 + j + 20)) = true by rw [show m * 20 + j + 20 = k * 20 + j by omega]; exact FA.out)) w)
            have EF := hid (show faC c (k * 20 + j) = faC c (m * 20 + j + 20) by rw [show m * 20 + j + 20 = k * 20 + j by omega])
            clear G hm
            go_wp2_with (have _t := tok1; refine store_one (by rfl) 22 _ _ (by rfl) info_f32c (w3.heap.size) (k * 20 + j) (.float .f32 (leC c (k * 20 + j))) (by rfl) (by rfl) rfl rfl h0.out (by omega) (by omega) (neC (by omega) (neC (by omega) (neC (by omega) ne0))) ?_; intro wy h1; replace h1 := hid (h1.ext (stM_is c t HL.out HJ.out)); clear h0 tok1)
            rw [EF.out]
            have h1 := hid h1.out.drew
            refine wp_region_still_tail 15 (by kernel_rfl) (by kernel_rfl) ?_
            change wpStill _ _ wy.drew (fun a' => wpList _ _ _ _ a' wy.drew) _ _
            simp only [List.take_succ_cons, List.take_zero, List.drop_succ_cons, List.drop_zero]
            generalize wy.drew = wz at h1 ⊢
            still_step
            still_step
            still_step
            still_step
            still_step
            still_step
            still_step
            still_step
            still_step
            refine still_load rfl 22 _ rfl _ rfl _ ((h1.out.v in0).oneAt (m * 20 + j) (by have := HL.out; have := HM.out; have := HJ.out; omega) (.float .f32 (leC c (m * 20 + j))) (stM_low' c t HL.out HM.out HJ.out) Tryz.underlying22 (by rfl)) ?_
            simp only [Act.put, List.setIfInBounds_toArray, List.set_cons_zero, List.set_cons_succ]
            still_step
            refine still_val rfl (.float .f32 (dwC c (m * 20 + j))) (run_binop_val _ _ _ _ (by rfl) (by rfl) (by simp [eqGuard]) (R3.out _)) ?_
            simp only [Act.put, List.setIfInBounds_toArray, List.set_cons_zero, List.set_cons_succ]
            still_step
            still_step
            still_step
            refine wpStill_nil ?_
            have tok1 : True := trivial
            go_wp2_with (have _t := tok1; refine store_one (by rfl) 22 _ _ (by rfl) info_f32c (w3.heap.size) (m * 20 + j) (.float .f32 (dwC c (m * 20 + j))) (by rfl) (by rfl) rfl rfl h1.out (by have := HM.out; omega) (by omega) (neC (by omega) (neC (by omega) (neC (by omega) ne0))) ?_; intro wx h2; replace h2 := hid (h2.ext (stS_low' c t HL.out HM.out HJ.out)); clear h1 tok1)
            go_roundw
            case rel => exact ⟨j + 1, by omega, by go_num, h2⟩
            case measure => simp [intOf]; omega
        · obtain rfl : j = 20 := by omega
          have h3 := hid (h0.out.ext (fun i _ => clw_same (fun i => stS_next c k i) t i))
          clear h0
          go_wp2
          go_roundw
          case rel => exact ⟨k + 1, by omega, by go_num, h3⟩
          case measure => simp [intOf]; omega
    · obtain rfl : k = 8 := by omega
      have h3 := hid (h0.out.ext (fun i _ => clw_same (fun i => stS_end c i) t i))
      have tok1 : True := trivial
      have hx := hid (setW_lt HQ.out HB.out)
      clear h0
      go_wp2_with fail
      rcases Classical.em (ColOk (setW c) t) with hok | hok
      · obtain ⟨rfl, rfl, rfl⟩ := H1.out hok
        refine (sMadeC_t (setW c) s hx.out hok _ w3.heap.size 35 (h3.out.v in0)).mono ?_
        rintro e y ⟨rfl, hy⟩
        have k9 : Hid (Kept w [(w.heap.size, vls 178 (clw (fun _ => 0) 0), 35)] y) := hid (Kept.sub (h3.out.stay hy) (fun x hx => by rw [List.mem_singleton.1 hx]; exact in2))
        clear h3 hy hok H1 H0
        go_wp2_with (have _t := tok1; refine store_row (by rfl) 35 _ _ (by rfl) (w.heap.size) (vls 178 (clw (setW c) s)) (vls 178 (clw (fun _ => 0) 0)) (by rfl) (by rfl) k9.out (by rw [vls_size]; exact info_col) (by simp) (vls_one (clw_one _ _)) (by omega) ne0 ?_; intro xk k8; replace k8 := hid k8; clear k9 tok1)
        exact bodyPost_ret (results_row_tmp rfl _ _ (w.heap.size) 35 (vls 178 (clw (setW c) s)) (0, 0) _ rfl (k8.out.at (x := (w.heap.size, vls 178 (clw (setW c) s), 35)) in0) Tryz.underlying35 rfl (by rw [vls_size]; exact info_col)) rfl ⟨rfl, k8.out.1⟩
      · obtain ⟨rfl, rfl, rfl⟩ := H0.out hok
        refine (sMadeC_f (setW c) t hx.out hok _ w3.heap.size 35 (h3.out.v in0)).mono ?_
        rintro e y ⟨rfl, hy⟩
        have k9 : Hid (Kept w [(w.heap.size, vls 178 (clw (fun _ => 0) 0), 35)] y) := hid (Kept.sub (h3.out.stay hy) (fun x hx => by rw [List.mem_singleton.1 hx]; exact in2))
        clear h3 hy hok H1 H0
        go_wp2_with (have _t := tok1; refine store_row (by rfl) 35 _ _ (by rfl) (w.heap.size) (vls 178 (clw (fun _ => 0) 0)) (vls 178 (clw (fun _ => 0) 0)) (by rfl) (by rfl) k9.out (by rw [vls_size]; exact info_col) (by simp) (vls_one (clw_one _ _)) (by omega) ne0 ?_; intro xk k8; replace k8 := hid k8; clear k9 tok1)
        exact bodyPost_ret (results_row_tmp rfl _ _ (w.heap.size) 35 (vls 178 (clw (fun _ => 0) 0)) (0, 0) _ rfl (k8.out.at (x := (w.heap.size, vls 178 (clw (fun _ => 0) 0), 35)) in0) Tryz.underlying35 rfl (by rw [vls_size]; exact info_col)) rfl ⟨rfl, k8.out.1⟩

theorem ix_air {i : Nat} (hi : i < 8) (g : Nat) (w : World) : (Instr.indexAt 33 (.pointer (some ⟨g, 160, none⟩)) (.int .i64 (i : Int))).run Tryz.prog w = .ok (.pointer (some ⟨g, 160 + i * 2, none⟩)) w := by
  have ha : Tryz.prog.arrayLen 33 = 8 := by kernel_rfl
  have hz : ∀ w, (sizeOf (Tryz.prog.elem 33)).run Tryz.prog w = .ok 2 w := fun w => by kernel_rfl
  have h8 : (i : Int) < 8 := by omega
  rw [run_indexAt_array _ _ _ _ _ (by kernel_rfl)]
  simp [ha, hz, h8, Addr.add]

theorem ix_dr {i : Nat} (hi : i < 8) (g : Nat) (w : World) : (Instr.indexAt 31 (.pointer (some ⟨g, 0, none⟩)) (.int .i64 (i : Int))).run Tryz.prog w = .ok (.pointer (some ⟨g, i * 20, none⟩)) w := by
  have ha : Tryz.prog.arrayLen 31 = 8 := by kernel_rfl
  have hz : ∀ w, (sizeOf (Tryz.prog.elem 31)).run Tryz.prog w = .ok 20 w := fun w => by kernel_rfl
  have h8 : (i : Int) < 8 := by omega
  rw [run_indexAt_array _ _ _ _ _ (by kernel_rfl)]
  simp [ha, hz, h8, Addr.add]
  omega

set_option maxRecDepth 100000 in
set_option maxHeartbeats 1000000 in
theorem sGrowL (c : Nat → Nat) (t : Int) (hb : ∀ i, i < 177 → c i < 4294967296) (h : ColOk c t) (K : Nat) (hK : K ≤ 8) (hM : ∀ j, j < K → okCel c j) (hN : K < 8 → ¬ okCel c K) (r : Nat → Nat) (s n : Int) (hr1 : K = 8 → r = gcG c 8 8 ∧ s = t ∧ n = 0) (hr0 : K ≠ 8 → r = (fun _ => 0) ∧ s = 0 ∧ n = 4) (w : World) (g : Nat) (T : TypeId) (hg : vAt w g 178 (clw c t) T) :
    Calls Tryz.prog 50 #[.pointer (some ⟨g, 0, none⟩)] w fun e w' => e = .returned (.tuple #[.agg (vls 178 (clw r s)), .int .i64 n]) ∧ Below w.heap.size w w' := by
  have hgl := hg.lt
  have kk : Kept w [(g, vls 178 (clw c t), T)] w := ⟨Below.refl _ _, fun x hx => by rw [List.mem_singleton.1 hx]; exact hg⟩
  have k0 : Hid (Kept w [(w.heap.size + 1, vls 178 (clw (fun _ => 0) 0), 35), (w.heap.size, vls 178 (clw (fun _ => 0) 0), 35), (g, vls 178 (clw c t), T)] ((w.alloc (.cells (vls 178 (clw (fun _ => 0) 0)) 35)).alloc (.cells (vls 178 (clw (fun _ => 0) 0)) 35))) := by
    have := (kk.push (vls 178 (clw (fun _ => 0) 0)) 35).push (vls 178 (clw (fun _ => 0) 0)) 35
    simp only [World.size_alloc] at this
    exact hid this
  have HGL := hid hgl
  have HB := hid hb
  have HQ := hid h
  have HM := hid hM
  have HN := hid hN
  have HR1 := hid hr1
  have HR0 := hid hr0
  have kkH := hid (kk.push (vls 178 (clw (fun _ => 0) 0)) 35)
  clear hb h hM hN hr1 hr0 hg hgl kk
  go_enter Tryz.func50, Tryz.ntmps50
  have tok1 : True := trivial
  go_wp2_with (first
    | (have _t := tok1; clear tok1; refine load_cut (by rfl) 35 _ (by rfl) g 0 178 (by rfl) (kkH.out.v in1) (by omega) (vls 178 (clw c t)) (vls_ext fun i _ => by rw [Nat.zero_add]) _ Tryz.underlying35 (by rfl) info_col ?_; have tok2 : True := trivial)
    | (have _t := tok2; clear tok2; refine store_row (by rfl) 35 _ _ (by rfl) (w.heap.size + 1) (vls 178 (clw c t)) (vls 178 (clw (fun _ => 0) 0)) (by rfl) (by rfl) k0.out (by rw [vls_size]; exact info_col) (by simp) (vls_one (clw_one _ _)) (by omega) (neC (by omega) (neC (by have := HGL.out; omega) ne0)) ?_; intro w2 k2; replace k2 := hid k2; clear k0 kkH))
  have k5 : Hid (Kept w [(w.heap.size + 1, vls 178 (clw (gcG c 0 0) t), 35), (w.heap.size, vls 178 (clw (fun _ => 0) 0), 35), (g, vls 178 (clw c t), T)] w2) := hid (k2.out.ext (fun i _ => (clw_same (fun i => gcG_zero c i) t i).symm))
  clear k2
  go_loopw [5] (fun i wr => ∃ k : Nat, k ≤ K ∧ i = .int .i64 k ∧ Hid (Kept w [(w.heap.size + 1, vls 178 (clw (gcG c k k) t), 35), (w.heap.size, vls 178 (clw (fun _ => 0) 0), 35), (g, vls 178 (clw c t), T)] wr)) (fun i _ => 8 - (intOf i).toNat)
  case atStart => exact ⟨0, by omega, rfl, k5⟩
  case round =>
    clear k5
    obtain ⟨k, hk, rfl, h0⟩ := hrel
    by_cases h8 : k < 8
    · have HL := hid h8
      have hk3 : (k : Int) < 8 := by omega
      have HV := hid (gcel_val HQ.out HB.out h8)
      have HF : Hid (∀ j, j < 20 → clw c t (k * 20 + j) = .float .f32 ((gCel c k).c j)) := hid fun j hj => clw_f (by omega)
      have HF0 : Hid (clw c t (160 + k * 2) = .float .f32 (gCel c k).h) := hid (clw_f (by omega))
      have HF1 : Hid (clw c t (160 + k * 2 + 1) = .float .f32 (gCel c k).v) := hid (clw_f (by omega))
      by_cases hlt : k < K
      · have HK2 := hid hlt
        have HC := hid (fun w (hp : vAt w g 178 (clw c t) T) => sOnceO_t tickT (gCel c k) HV.out (HM.out k hlt) w g g T T 178 (k * 20) (clw c t) (by omega) HF.out 178 (160 + k * 2) (clw c t) (by omega) HF0.out HF1.out hp hp)
        clear hlt hk
        go_wp2_with fail
        refine region_act (w0 := w) (lk := [(w.heap.size + 1, vls 178 (clw (gcG c k k) t), 35), (w.heap.size, vls 178 (clw (fun _ => 0) 0), 35), (g, vls 178 (clw c t), T)]) (fun a0 a1 wq => ∃ g6 g7 : Nat, a1 = ((((((((((((((((((a0.put (some 17) (.pointer (some ⟨g, 0, none⟩))).put (some 18) (.int .i64 (k : Int))).put (some 19) (.pointer (some ⟨g, 0, none⟩))).put (some 20) (.pointer (some ⟨g, 0, none⟩))).put (some 21) (.pointer (some ⟨g, k * 20, none⟩))).put (some 22) (.pointer (some ⟨g, 0, none⟩))).put (some 23) (.int .i64 (k : Int))).put (some 24) (.pointer (some ⟨g, 0, none⟩))).put (some 25) (.pointer (some ⟨g, 160, none⟩))).put (some 26) (.pointer (some ⟨g, 160 + k * 2, none⟩))).put (some 27) (.tuple #[.agg (fls (nCel c k).c), .agg #[.float .f32 (nCel c k).h, .float .f32 (nCel c k).v], .int .i64 0])).put (some 16) (.tuple #[.agg (fls (nCel c k).c), .agg #[.float .f32 (nCel c k).h, .float .f32 (nCel c k).v], .int .i64 0])).put (some 28) (.agg (fls (nCel c k).c))).put (some 29) (.agg #[.float .f32 (nCel c k).h, .float .f32 (nCel c k).v])).put (some 30) (.int .i64 0)).put (some 6) (.pointer (some ⟨g6, 0, none⟩))).put (some 7) (.pointer (some ⟨g7, 0, none⟩))).put (some 8) (.int .i64 0)) ∧ (g7 ≠ w.heap.size + 1 ∧ g6 ≠ w.heap.size + 1) ∧ Kept w [(g7, #[.float .f32 (nCel c k).h, .float .f32 (nCel c k).v], 32), (g6, fls (nCel c k).c, 30), (w.heap.size + 1, vls 178 (clw (gcG c k k) t), 35), (w.heap.size, vls 178 (clw (fun _ => 0) 0), 35), (g, vls 178 (clw c t), T)] wq) 20 #[false, false, false, false, false, false, false, false, false, false, false, false, false, false, false, false, false, false, false, false] (by kernel_rfl) rfl rfl ?_ ?_
        · have kd := h0.out.drew
          generalize World.drew _ = wd at kd ⊢
          refine take_val 0 _ _ (.pointer (some ⟨g, 0, none⟩)) rfl (by rfl) (by kernel_rfl) (by kernel_rfl) (by kernel_rfl) (fun w => by rfl) rfl rfl kd ?_
          simp only [Act.put, List.setIfInBounds_toArray, List.set_cons_zero, List.set_cons_succ]
          refine take_val 1 _ _ (.int .i64 (k : Int)) rfl (by rfl) (by kernel_rfl) (by kernel_rfl) (by kernel_rfl) (fun w => by rfl) rfl rfl kd ?_
          simp only [Act.put, List.setIfInBounds_toArray, List.set_cons_zero, List.set_cons_succ]
          refine take_val 2 _ _ (.pointer (some ⟨g, 0, none⟩)) rfl (by rfl) (by kernel_rfl) (by kernel_rfl) (by kernel_rfl) (fun w => by unfold execOp; go_simp) rfl rfl kd ?_
          simp only [Act.put, List.setIfInBounds_toArray, List.set_cons_zero, List.set_cons_succ]
          refine take_val 3 _ _ (.pointer (some ⟨g, 0, none⟩)) rfl (by rfl) (by kernel_rfl) (by kernel_rfl) (by kernel_rfl) (fun w => by unfold execOp; go_simp) rfl rfl kd ?_
          simp only [Act.put, List.setIfInBounds_toArray, List.set_cons_zero, List.set_cons_succ]
          refine take_val 4 _ _ (.pointer (some ⟨g, k * 20, none⟩)) rfl (by rfl) (by kernel_rfl) (by kernel_rfl) (by kernel_rfl) (fun w => by unfold execOp; go_simp) rfl rfl kd ?_
          simp only [Act.put, List.setIfInBounds_toArray, List.set_cons_zero, List.set_cons_succ]
          refine take_val 5 _ _ (.pointer (some ⟨g, 0, none⟩)) rfl (by rfl) (by kernel_rfl) (by kernel_rfl) (by kernel_rfl) (fun w => by rfl) rfl rfl kd ?_
          simp only [Act.put, List.setIfInBounds_toArray, List.set_cons_zero, List.set_cons_succ]
          refine take_val 6 _ _ (.int .i64 (k : Int)) rfl (by rfl) (by kernel_rfl) (by kernel_rfl) (by kernel_rfl) (fun w => by rfl) rfl rfl kd ?_
          simp only [Act.put, List.setIfInBounds_toArray, List.set_cons_zero, List.set_cons_succ]
          refine take_val 7 _ _ (.pointer (some ⟨g, 0, none⟩)) rfl (by rfl) (by kernel_rfl) (by kernel_rfl) (by kernel_rfl) (fun w => by unfold execOp; go_simp) rfl rfl kd ?_
          simp only [Act.put, List.setIfInBounds_toArray, List.set_cons_zero, List.set_cons_succ]
          refine take_val 8 _ _ (.pointer (some ⟨g, 160, none⟩)) rfl (by rfl) (by kernel_rfl) (by kernel_rfl) (by kernel_rfl) (fun w => by unfold execOp; go_simp) rfl rfl kd ?_
          simp only [Act.put, List.setIfInBounds_toArray, List.set_cons_zero, List.set_cons_succ]
          refine take_val 9 _ _ (.pointer (some ⟨g, 160 + k * 2, none⟩)) rfl (by rfl) (by kernel_rfl) (by kernel_rfl) (by kernel_rfl) (fun w => by unfold execOp; go_simp) rfl rfl kd ?_
          simp only [Act.put, List.setIfInBounds_toArray, List.set_cons_zero, List.set_cons_succ]
          refine wpAnyH_ready (rs := [10, 15, 16]) (by kernel_rfl) (by simp) ?_
          refine callK 10 _ _ (.tuple #[.agg (fls (nCel c k).c), .agg #[.float .f32 (nCel c k).h, .float .f32 (nCel c k).v], .int .i64 0]) kd rfl (by rfl) 81 #[.pointer (some ⟨g, k * 20, none⟩), .pointer (some ⟨g, 160 + k * 2, none⟩), .float .f32 1031798784] (fun w => by unfold execOp; go_simp) rfl rfl ?hc1 (fun w1 k1 => ?_) ?_
          case hc1 => exact HC.out _ (kd.v in2)
          · refine ⟨k1, ?_⟩
            simp only [Act.put, List.setIfInBounds_toArray, List.set_cons_zero, List.set_cons_succ]
            refine take_val 11 _ _ (.tuple #[.agg (fls (nCel c k).c), .agg #[.float .f32 (nCel c k).h, .float .f32 (nCel c k).v], .int .i64 0]) rfl (by rfl) (by kernel_rfl) (by kernel_rfl) (by kernel_rfl) (fun w => by rfl) rfl rfl k1 ?_
            simp only [Act.put, List.setIfInBounds_toArray, List.set_cons_zero, List.set_cons_succ]
            refine take_val 12 _ _ (.agg (fls (nCel c k).c)) rfl (by rfl) (by kernel_rfl) (by kernel_rfl) (by kernel_rfl) (fun w => by unfold execOp; go_simp) rfl rfl k1 ?_
            simp only [Act.put, List.setIfInBounds_toArray, List.set_cons_zero, List.set_cons_succ]
            refine take_val 13 _ _ (.agg #[.float .f32 (nCel c k).h, .float .f32 (nCel c k).v]) rfl (by rfl) (by kernel_rfl) (by kernel_rfl) (by kernel_rfl) (fun w => by unfold execOp; go_simp) rfl rfl k1 ?_
            simp only [Act.put, List.setIfInBounds_toArray, List.set_cons_zero, List.set_cons_succ]
            refine take_val 14 _ _ (.int .i64 0) rfl (by rfl) (by kernel_rfl) (by kernel_rfl) (by kernel_rfl) (fun w => by unfold execOp; go_simp) rfl rfl k1 ?_
            simp only [Act.put, List.setIfInBounds_toArray, List.set_cons_zero, List.set_cons_succ]
            refine wpAnyH_ready (rs := [15, 16]) (by kernel_rfl) (by simp) ?_
            refine allocK 15 (fun g => _) _ k1 rfl (by rfl) (fls fun _ => 0) 30 (by unfold execOp; go_simp) (fun g => rfl) rfl (fun w2 g2 k2 hB2 hn2 => ?_) ?_
            · refine ⟨k2.tail, ?_⟩
              simp only [Act.put, List.setIfInBounds_toArray, List.set_cons_zero, List.set_cons_succ]
              refine wpAnyH_ready (rs := [16]) (by kernel_rfl) (by simp) ?_
              refine allocK 16 (fun g => _) _ k2 rfl (by rfl) (#[.float .f32 0, .float .f32 0]) 32 (by unfold execOp; go_simp) (fun g => rfl) rfl (fun w3 g3 k3 hB3 hn3 => ?_) AllReadyH.nil
              refine ⟨k3.tail.tail, ?_⟩
              simp only [Act.put, List.setIfInBounds_toArray, List.set_cons_zero, List.set_cons_succ]
              refine wpAnyH_ready (rs := [17]) (by kernel_rfl) (by simp) ?_
              refine storeK 17 _ _ (k3).swap hB2 (neC (hn3 _ in0).symm hn2) rfl (by rfl) 30 _ _ rfl (fls (nCel c k).c) rfl rfl (by rw [fls_size]; exact info_arr) (by simp) (fls_one _) rfl rfl (fun w4 k4 => ?_) AllReadyH.nil
              refine ⟨k4.tail.tail, ?_⟩
              refine wpAnyH_ready (rs := [18]) (by kernel_rfl) (by simp) ?_
              refine storeK 18 _ _ (k4).swap hB3 (neC (hn3 _ in0) (fun x hx => hn3 x (List.mem_cons_of_mem _ hx))) rfl (by rfl) 32 _ _ rfl (#[.float .f32 (nCel c k).h, .float .f32 (nCel c k).v]) rfl rfl (info_air) (by simp) (two_one _ _) rfl rfl (fun w5 k5 => ?_) AllReadyH.nil
              refine ⟨k5.tail.tail, ?_⟩
              refine take_val 19 _ _ (.int .i64 0) rfl (by rfl) (by kernel_rfl) (by kernel_rfl) (by kernel_rfl) (fun w => by rfl) rfl rfl k5.tail.tail ?_
              simp only [Act.put, List.setIfInBounds_toArray, List.set_cons_zero, List.set_cons_succ]
              refine wpAnyH_done (by kernel_rfl) ?_ _
              exact ⟨rfl, g2, g3, rfl, ⟨((fun x hx => hn3 x (List.mem_cons_of_mem _ hx)) (w.heap.size + 1, vls 178 (clw (gcG c k k) t), 35) in0).symm, (hn2 (w.heap.size + 1, vls 178 (clw (gcG c k k) t), 35) in0).symm⟩, k5⟩
            refine allocK 16 (fun g => _) _ k1 rfl (by rfl) (#[.float .f32 0, .float .f32 0]) 32 (by unfold execOp; go_simp) (fun g => rfl) rfl (fun w6 g6 k6 hB6 hn6 => ?_) AllReadyH.nil
            refine ⟨k6.tail, ?_⟩
            simp only [Act.put, List.setIfInBounds_toArray, List.set_cons_zero, List.set_cons_succ]
            refine wpAnyH_ready (rs := [15]) (by kernel_rfl) (by simp) ?_
            refine allocK 15 (fun g => _) _ k6 rfl (by rfl) (fls fun _ => 0) 30 (by unfold execOp; go_simp) (fun g => rfl) rfl (fun w7 g7 k7 hB7 hn7 => ?_) AllReadyH.nil
            refine ⟨k7.tail.tail, ?_⟩
            simp only [Act.put, List.setIfInBounds_toArray, List.set_cons_zero, List.set_cons_succ]
            refine wpAnyH_ready (rs := [17]) (by kernel_rfl) (by simp) ?_
            refine storeK 17 _ _ k7 hB7 (neC (hn7 _ in0) (fun x hx => hn7 x (List.mem_cons_of_mem _ hx))) rfl (by rfl) 30 _ _ rfl (fls (nCel c k).c) rfl rfl (by rw [fls_size]; exact info_arr) (by simp) (fls_one _) rfl rfl (fun w8 k8 => ?_) AllReadyH.nil
            refine ⟨k8.tail.tail, ?_⟩
            refine wpAnyH_ready (rs := [18]) (by kernel_rfl) (by simp) ?_
            refine storeK 18 _ _ (k8).swap hB6 (neC (hn7 _ in0).symm hn6) rfl (by rfl) 32 _ _ rfl (#[.float .f32 (nCel c k).h, .float .f32 (nCel c k).v]) rfl rfl (info_air) (by simp) (two_one _ _) rfl rfl (fun w9 k9 => ?_) AllReadyH.nil
            refine ⟨k9.tail.tail, ?_⟩
            refine take_val 19 _ _ (.int .i64 0) rfl (by rfl) (by kernel_rfl) (by kernel_rfl) (by kernel_rfl) (fun w => by rfl) rfl rfl k9.tail.tail ?_
            simp only [Act.put, List.setIfInBounds_toArray, List.set_cons_zero, List.set_cons_succ]
            refine wpAnyH_done (by kernel_rfl) ?_ _
            exact ⟨rfl, g7, g6, rfl, ⟨(hn6 (w.heap.size + 1, vls 178 (clw (gcG c k k) t), 35) in0).symm, ((fun x hx => hn7 x (List.mem_cons_of_mem _ hx)) (w.heap.size + 1, vls 178 (clw (gcG c k k) t), 35) in0).symm⟩, k9⟩
          refine allocK 15 (fun g => _) _ kd rfl (by rfl) (fls fun _ => 0) 30 (by unfold execOp; go_simp) (fun g => rfl) rfl (fun w10 g10 k10 hB10 hn10 => ?_) ?_
          · refine ⟨k10.tail, ?_⟩
            simp only [Act.put, List.setIfInBounds_toArray, List.set_cons_zero, List.set_cons_succ]
            refine wpAnyH_ready (rs := [10, 16]) (by kernel_rfl) (by simp) ?_
            refine callK 10 _ _ (.tuple #[.agg (fls (nCel c k).c), .agg #[.float .f32 (nCel c k).h, .float .f32 (nCel c k).v], .int .i64 0]) k10 rfl (by rfl) 81 #[.pointer (some ⟨g, k * 20, none⟩), .pointer (some ⟨g, 160 + k * 2, none⟩), .float .f32 1031798784] (fun w => by unfold execOp; go_simp) rfl rfl ?hc11 (fun w11 k11 => ?_) ?_
            case hc11 => exact HC.out _ (k10.tail.v in2)
            · refine ⟨k11.tail, ?_⟩
              simp only [Act.put, List.setIfInBounds_toArray, List.set_cons_zero, List.set_cons_succ]
              refine take_val 11 _ _ (.tuple #[.agg (fls (nCel c k).c), .agg #[.float .f32 (nCel c k).h, .float .f32 (nCel c k).v], .int .i64 0]) rfl (by rfl) (by kernel_rfl) (by kernel_rfl) (by kernel_rfl) (fun w => by rfl) rfl rfl k11.tail ?_
              simp only [Act.put, List.setIfInBounds_toArray, List.set_cons_zero, List.set_cons_succ]
              refine take_val 12 _ _ (.agg (fls (nCel c k).c)) rfl (by rfl) (by kernel_rfl) (by kernel_rfl) (by kernel_rfl) (fun w => by unfold execOp; go_simp) rfl rfl k11.tail ?_
              simp only [Act.put, List.setIfInBounds_toArray, List.set_cons_zero, List.set_cons_succ]
              refine take_val 13 _ _ (.agg #[.float .f32 (nCel c k).h, .float .f32 (nCel c k).v]) rfl (by rfl) (by kernel_rfl) (by kernel_rfl) (by kernel_rfl) (fun w => by unfold execOp; go_simp) rfl rfl k11.tail ?_
              simp only [Act.put, List.setIfInBounds_toArray, List.set_cons_zero, List.set_cons_succ]
              refine take_val 14 _ _ (.int .i64 0) rfl (by rfl) (by kernel_rfl) (by kernel_rfl) (by kernel_rfl) (fun w => by unfold execOp; go_simp) rfl rfl k11.tail ?_
              simp only [Act.put, List.setIfInBounds_toArray, List.set_cons_zero, List.set_cons_succ]
              refine wpAnyH_ready (rs := [16]) (by kernel_rfl) (by simp) ?_
              refine allocK 16 (fun g => _) _ k11 rfl (by rfl) (#[.float .f32 0, .float .f32 0]) 32 (by unfold execOp; go_simp) (fun g => rfl) rfl (fun w12 g12 k12 hB12 hn12 => ?_) AllReadyH.nil
              refine ⟨k12.tail.tail, ?_⟩
              simp only [Act.put, List.setIfInBounds_toArray, List.set_cons_zero, List.set_cons_succ]
              refine wpAnyH_ready (rs := [17]) (by kernel_rfl) (by simp) ?_
              refine storeK 17 _ _ (k12).swap hB10 (neC (hn12 _ in0).symm hn10) rfl (by rfl) 30 _ _ rfl (fls (nCel c k).c) rfl rfl (by rw [fls_size]; exact info_arr) (by simp) (fls_one _) rfl rfl (fun w13 k13 => ?_) AllReadyH.nil
              refine ⟨k13.tail.tail, ?_⟩
              refine wpAnyH_ready (rs := [18]) (by kernel_rfl) (by simp) ?_
              refine storeK 18 _ _ (k13).swap hB12 (neC (hn12 _ in0) (fun x hx => hn12 x (List.mem_cons_of_mem _ hx))) rfl (by rfl) 32 _ _ rfl (#[.float .f32 (nCel c k).h, .float .f32 (nCel c k).v]) rfl rfl (info_air) (by simp) (two_one _ _) rfl rfl (fun w14 k14 => ?_) AllReadyH.nil
              refine ⟨k14.tail.tail, ?_⟩
              refine take_val 19 _ _ (.int .i64 0) rfl (by rfl) (by kernel_rfl) (by kernel_rfl) (by kernel_rfl) (fun w => by rfl) rfl rfl k14.tail.tail ?_
              simp only [Act.put, List.setIfInBounds_toArray, List.set_cons_zero, List.set_cons_succ]
              refine wpAnyH_done (by kernel_rfl) ?_ _
              exact ⟨rfl, g10, g12, rfl, ⟨((fun x hx => hn12 x (List.mem_cons_of_mem _ hx)) (w.heap.size + 1, vls 178 (clw (gcG c k k) t), 35) in0).symm, (hn10 (w.heap.size + 1, vls 178 (clw (gcG c k k) t), 35) in0).symm⟩, k14⟩
            refine allocK 16 (fun g => _) _ k10 rfl (by rfl) (#[.float .f32 0, .float .f32 0]) 32 (by unfold execOp; go_simp) (fun g => rfl) rfl (fun w15 g15 k15 hB15 hn15 => ?_) AllReadyH.nil
            refine ⟨k15.tail.tail, ?_⟩
            simp only [Act.put, List.setIfInBounds_toArray, List.set_cons_zero, List.set_cons_succ]
            refine wpAnyH_ready (rs := [10]) (by kernel_rfl) (by simp) ?_
            refine callK 10 _ _ (.tuple #[.agg (fls (nCel c k).c), .agg #[.float .f32 (nCel c k).h, .float .f32 (nCel c k).v], .int .i64 0]) k15 rfl (by rfl) 81 #[.pointer (some ⟨g, k * 20, none⟩), .pointer (some ⟨g, 160 + k * 2, none⟩), .float .f32 1031798784] (fun w => by unfold execOp; go_simp) rfl rfl ?hc16 (fun w16 k16 => ?_) AllReadyH.nil
            case hc16 => exact HC.out _ (k15.tail.tail.v in2)
            refine ⟨k16.tail.tail, ?_⟩
            simp only [Act.put, List.setIfInBounds_toArray, List.set_cons_zero, List.set_cons_succ]
            refine take_val 11 _ _ (.tuple #[.agg (fls (nCel c k).c), .agg #[.float .f32 (nCel c k).h, .float .f32 (nCel c k).v], .int .i64 0]) rfl (by rfl) (by kernel_rfl) (by kernel_rfl) (by kernel_rfl) (fun w => by rfl) rfl rfl k16.tail.tail ?_
            simp only [Act.put, List.setIfInBounds_toArray, List.set_cons_zero, List.set_cons_succ]
            refine take_val 12 _ _ (.agg (fls (nCel c k).c)) rfl (by rfl) (by kernel_rfl) (by kernel_rfl) (by kernel_rfl) (fun w => by unfold execOp; go_simp) rfl rfl k16.tail.tail ?_
            simp only [Act.put, List.setIfInBounds_toArray, List.set_cons_zero, List.set_cons_succ]
            refine take_val 13 _ _ (.agg #[.float .f32 (nCel c k).h, .float .f32 (nCel c k).v]) rfl (by rfl) (by kernel_rfl) (by kernel_rfl) (by kernel_rfl) (fun w => by unfold execOp; go_simp) rfl rfl k16.tail.tail ?_
            simp only [Act.put, List.setIfInBounds_toArray, List.set_cons_zero, List.set_cons_succ]
            refine take_val 14 _ _ (.int .i64 0) rfl (by rfl) (by kernel_rfl) (by kernel_rfl) (by kernel_rfl) (fun w => by unfold execOp; go_simp) rfl rfl k16.tail.tail ?_
            simp only [Act.put, List.setIfInBounds_toArray, List.set_cons_zero, List.set_cons_succ]
            refine wpAnyH_ready (rs := [17]) (by kernel_rfl) (by simp) ?_
            refine storeK 17 _ _ (k16).swap hB10 (neC (hn15 _ in0).symm hn10) rfl (by rfl) 30 _ _ rfl (fls (nCel c k).c) rfl rfl (by rw [fls_size]; exact info_arr) (by simp) (fls_one _) rfl rfl (fun w17 k17 => ?_) AllReadyH.nil
            refine ⟨k17.tail.tail, ?_⟩
            refine wpAnyH_ready (rs := [18]) (by kernel_rfl) (by simp) ?_
            refine storeK 18 _ _ (k17).swap hB15 (neC (hn15 _ in0) (fun x hx => hn15 x (List.mem_cons_of_mem _ hx))) rfl (by rfl) 32 _ _ rfl (#[.float .f32 (nCel c k).h, .float .f32 (nCel c k).v]) rfl rfl (info_air) (by simp) (two_one _ _) rfl rfl (fun w18 k18 => ?_) AllReadyH.nil
            refine ⟨k18.tail.tail, ?_⟩
            refine take_val 19 _ _ (.int .i64 0) rfl (by rfl) (by kernel_rfl) (by kernel_rfl) (by kernel_rfl) (fun w => by rfl) rfl rfl k18.tail.tail ?_
            simp only [Act.put, List.setIfInBounds_toArray, List.set_cons_zero, List.set_cons_succ]
            refine wpAnyH_done (by kernel_rfl) ?_ _
            exact ⟨rfl, g10, g15, rfl, ⟨((fun x hx => hn15 x (List.mem_cons_of_mem _ hx)) (w.heap.size + 1, vls 178 (clw (gcG c k k) t), 35) in0).symm, (hn10 (w.heap.size + 1, vls 178 (clw (gcG c k k) t), 35) in0).symm⟩, k18⟩
          refine allocK 16 (fun g => _) _ kd rfl (by rfl) (#[.float .f32 0, .float .f32 0]) 32 (by unfold execOp; go_simp) (fun g => rfl) rfl (fun w19 g19 k19 hB19 hn19 => ?_) AllReadyH.nil
          refine ⟨k19.tail, ?_⟩
          simp only [Act.put, List.setIfInBounds_toArray, List.set_cons_zero, List.set_cons_succ]
          refine wpAnyH_ready (rs := [10, 15]) (by kernel_rfl) (by simp) ?_
          refine callK 10 _ _ (.tuple #[.agg (fls (nCel c k).c), .agg #[.float .f32 (nCel c k).h, .float .f32 (nCel c k).v], .int .i64 0]) k19 rfl (by rfl) 81 #[.pointer (some ⟨g, k * 20, none⟩), .pointer (some ⟨g, 160 + k * 2, none⟩), .float .f32 1031798784] (fun w => by unfold execOp; go_simp) rfl rfl ?hc20 (fun w20 k20 => ?_) ?_
          case hc20 => exact HC.out _ (k19.tail.v in2)
          · refine ⟨k20.tail, ?_⟩
            simp only [Act.put, List.setIfInBounds_toArray, List.set_cons_zero, List.set_cons_succ]
            refine take_val 11 _ _ (.tuple #[.agg (fls (nCel c k).c), .agg #[.float .f32 (nCel c k).h, .float .f32 (nCel c k).v], .int .i64 0]) rfl (by rfl) (by kernel_rfl) (by kernel_rfl) (by kernel_rfl) (fun w => by rfl) rfl rfl k20.tail ?_
            simp only [Act.put, List.setIfInBounds_toArray, List.set_cons_zero, List.set_cons_succ]
            refine take_val 12 _ _ (.agg (fls (nCel c k).c)) rfl (by rfl) (by kernel_rfl) (by kernel_rfl) (by kernel_rfl) (fun w => by unfold execOp; go_simp) rfl rfl k20.tail ?_
            simp only [Act.put, List.setIfInBounds_toArray, List.set_cons_zero, List.set_cons_succ]
            refine take_val 13 _ _ (.agg #[.float .f32 (nCel c k).h, .float .f32 (nCel c k).v]) rfl (by rfl) (by kernel_rfl) (by kernel_rfl) (by kernel_rfl) (fun w => by unfold execOp; go_simp) rfl rfl k20.tail ?_
            simp only [Act.put, List.setIfInBounds_toArray, List.set_cons_zero, List.set_cons_succ]
            refine take_val 14 _ _ (.int .i64 0) rfl (by rfl) (by kernel_rfl) (by kernel_rfl) (by kernel_rfl) (fun w => by unfold execOp; go_simp) rfl rfl k20.tail ?_
            simp only [Act.put, List.setIfInBounds_toArray, List.set_cons_zero, List.set_cons_succ]
            refine wpAnyH_ready (rs := [15]) (by kernel_rfl) (by simp) ?_
            refine allocK 15 (fun g => _) _ k20 rfl (by rfl) (fls fun _ => 0) 30 (by unfold execOp; go_simp) (fun g => rfl) rfl (fun w21 g21 k21 hB21 hn21 => ?_) AllReadyH.nil
            refine ⟨k21.tail.tail, ?_⟩
            simp only [Act.put, List.setIfInBounds_toArray, List.set_cons_zero, List.set_cons_succ]
            refine wpAnyH_ready (rs := [17]) (by kernel_rfl) (by simp) ?_
            refine storeK 17 _ _ k21 hB21 (neC (hn21 _ in0) (fun x hx => hn21 x (List.mem_cons_of_mem _ hx))) rfl (by rfl) 30 _ _ rfl (fls (nCel c k).c) rfl rfl (by rw [fls_size]; exact info_arr) (by simp) (fls_one _) rfl rfl (fun w22 k22 => ?_) AllReadyH.nil
            refine ⟨k22.tail.tail, ?_⟩
            refine wpAnyH_ready (rs := [18]) (by kernel_rfl) (by simp) ?_
            refine storeK 18 _ _ (k22).swap hB19 (neC (hn21 _ in0).symm hn19) rfl (by rfl) 32 _ _ rfl (#[.float .f32 (nCel c k).h, .float .f32 (nCel c k).v]) rfl rfl (info_air) (by simp) (two_one _ _) rfl rfl (fun w23 k23 => ?_) AllReadyH.nil
            refine ⟨k23.tail.tail, ?_⟩
            refine take_val 19 _ _ (.int .i64 0) rfl (by rfl) (by kernel_rfl) (by kernel_rfl) (by kernel_rfl) (fun w => by rfl) rfl rfl k23.tail.tail ?_
            simp only [Act.put, List.setIfInBounds_toArray, List.set_cons_zero, List.set_cons_succ]
            refine wpAnyH_done (by kernel_rfl) ?_ _
            exact ⟨rfl, g21, g19, rfl, ⟨(hn19 (w.heap.size + 1, vls 178 (clw (gcG c k k) t), 35) in0).symm, ((fun x hx => hn21 x (List.mem_cons_of_mem _ hx)) (w.heap.size + 1, vls 178 (clw (gcG c k k) t), 35) in0).symm⟩, k23⟩
          refine allocK 15 (fun g => _) _ k19 rfl (by rfl) (fls fun _ => 0) 30 (by unfold execOp; go_simp) (fun g => rfl) rfl (fun w24 g24 k24 hB24 hn24 => ?_) AllReadyH.nil
          refine ⟨k24.tail.tail, ?_⟩
          simp only [Act.put, List.setIfInBounds_toArray, List.set_cons_zero, List.set_cons_succ]
          refine wpAnyH_ready (rs := [10]) (by kernel_rfl) (by simp) ?_
          refine callK 10 _ _ (.tuple #[.agg (fls (nCel c k).c), .agg #[.float .f32 (nCel c k).h, .float .f32 (nCel c k).v], .int .i64 0]) k24 rfl (by rfl) 81 #[.pointer (some ⟨g, k * 20, none⟩), .pointer (some ⟨g, 160 + k * 2, none⟩), .float .f32 1031798784] (fun w => by unfold execOp; go_simp) rfl rfl ?hc25 (fun w25 k25 => ?_) AllReadyH.nil
          case hc25 => exact HC.out _ (k24.tail.tail.v in2)
          refine ⟨k25.tail.tail, ?_⟩
          simp only [Act.put, List.setIfInBounds_toArray, List.set_cons_zero, List.set_cons_succ]
          refine take_val 11 _ _ (.tuple #[.agg (fls (nCel c k).c), .agg #[.float .f32 (nCel c k).h, .float .f32 (nCel c k).v], .int .i64 0]) rfl (by rfl) (by kernel_rfl) (by kernel_rfl) (by kernel_rfl) (fun w => by rfl) rfl rfl k25.tail.tail ?_
          simp only [Act.put, List.setIfInBounds_toArray, List.set_cons_zero, List.set_cons_succ]
          refine take_val 12 _ _ (.agg (fls (nCel c k).c)) rfl (by rfl) (by kernel_rfl) (by kernel_rfl) (by kernel_rfl) (fun w => by unfold execOp; go_simp) rfl rfl k25.tail.tail ?_
          simp only [Act.put, List.setIfInBounds_toArray, List.set_cons_zero, List.set_cons_succ]
          refine take_val 13 _ _ (.agg #[.float .f32 (nCel c k).h, .float .f32 (nCel c k).v]) rfl (by rfl) (by kernel_rfl) (by kernel_rfl) (by kernel_rfl) (fun w => by unfold execOp; go_simp) rfl rfl k25.tail.tail ?_
          simp only [Act.put, List.setIfInBounds_toArray, List.set_cons_zero, List.set_cons_succ]
          refine take_val 14 _ _ (.int .i64 0) rfl (by rfl) (by kernel_rfl) (by kernel_rfl) (by kernel_rfl) (fun w => by unfold execOp; go_simp) rfl rfl k25.tail.tail ?_
          simp only [Act.put, List.setIfInBounds_toArray, List.set_cons_zero, List.set_cons_succ]
          refine wpAnyH_ready (rs := [17]) (by kernel_rfl) (by simp) ?_
          refine storeK 17 _ _ k25 hB24 (neC (hn24 _ in0) (fun x hx => hn24 x (List.mem_cons_of_mem _ hx))) rfl (by rfl) 30 _ _ rfl (fls (nCel c k).c) rfl rfl (by rw [fls_size]; exact info_arr) (by simp) (fls_one _) rfl rfl (fun w26 k26 => ?_) AllReadyH.nil
          refine ⟨k26.tail.tail, ?_⟩
          refine wpAnyH_ready (rs := [18]) (by kernel_rfl) (by simp) ?_
          refine storeK 18 _ _ (k26).swap hB19 (neC (hn24 _ in0).symm hn19) rfl (by rfl) 32 _ _ rfl (#[.float .f32 (nCel c k).h, .float .f32 (nCel c k).v]) rfl rfl (info_air) (by simp) (two_one _ _) rfl rfl (fun w27 k27 => ?_) AllReadyH.nil
          refine ⟨k27.tail.tail, ?_⟩
          refine take_val 19 _ _ (.int .i64 0) rfl (by rfl) (by kernel_rfl) (by kernel_rfl) (by kernel_rfl) (fun w => by rfl) rfl rfl k27.tail.tail ?_
          simp only [Act.put, List.setIfInBounds_toArray, List.set_cons_zero, List.set_cons_succ]
          refine wpAnyH_done (by kernel_rfl) ?_ _
          exact ⟨rfl, g24, g19, rfl, ⟨(hn19 (w.heap.size + 1, vls 178 (clw (gcG c k k) t), 35) in0).symm, ((fun x hx => hn24 x (List.mem_cons_of_mem _ hx)) (w.heap.size + 1, vls 178 (clw (gcG c k k) t), 35) in0).symm⟩, k27⟩
        rintro a1 wx ⟨g6, g7, rfl, hg67, k3⟩
        have HG := hid (show g6 ≠ w.heap.size + 1 ∧ g7 ≠ w.heap.size + 1 from ⟨hg67.2, hg67.1⟩)
        clear hg67 h0 HC
        have k3 := hid k3
        simp only [Act.put, List.setIfInBounds_toArray, List.set_cons_zero, List.set_cons_succ]
        have tok1 : True := trivial
        have hxd := ix_dr h8
        have hxa := ix_air h8
        go_wp2_with (first
          | (have _t := tok1; clear tok1; refine wpList_load_row (by rfl) 30 _ (by rfl) g6 (by rfl) 30 (fls (nCel c k).c) (0, 0) _ (k3.out.at (x := (g6, fls (nCel c k).c, 30)) in1) Tryz.underlying30 (by rfl) (by rw [fls_size]; exact info_arr) ?_; have tok2 : True := trivial)
          | (have _t := tok2; clear tok2; refine store_cut rfl 30 _ _ rfl (w.heap.size + 1) (k * 20) 20 (flw (nCel c k).c) (fls (nCel c k).c) rfl rfl rfl info_arr (fun _ => rfl) k3.out.up2 (by have := HL.out; omega) (by omega) (neC HG.out.2 (neC HG.out.1 (neC (by omega) (neC (by have := HGL.out; omega) ne0)))) (fun w4 k4 => ?_); replace k4 := hid ((k4.ext (fun i _ => gcG_row HL.out t i)).dn2); clear k3; have tok3 : True := trivial)
          | (have _t := tok3; clear tok3; refine wpList_load_row (by rfl) 32 _ (by rfl) g7 (by rfl) 32 (#[.float .f32 (nCel c k).h, .float .f32 (nCel c k).v]) (0, 0) _ (k4.out.at (x := (g7, #[.float .f32 (nCel c k).h, .float .f32 (nCel c k).v], 32)) in0) Tryz.underlying32 (by rfl) info_air ?_; have tok4 : True := trivial)
          | (have _t := tok4; clear tok4; refine store_cut rfl 32 _ _ rfl (w.heap.size + 1) (160 + k * 2) 2 (twoW (nCel c k).h (nCel c k).v) (#[.float .f32 (nCel c k).h, .float .f32 (nCel c k).v]) rfl rfl rfl info_air (twoW_one _ _) k4.out.up2 (by have := HL.out; omega) (by omega) (neC HG.out.2 (neC HG.out.1 (neC (by omega) (neC (by have := HGL.out; omega) ne0)))) (fun w5 k5 => ?_); replace k5 := hid ((k5.ext (fun i _ => gcG_air HL.out t i)).sub (pick3 _ _ _ _ _)); clear k4))
        go_roundw
        case rel => exact ⟨k + 1, HK2.out, by go_num, k5⟩
        case measure => simp [intOf]; omega
      · obtain rfl : k = K := by omega
        have HC := hid (fun w (hp : vAt w g 178 (clw c t) T) => sOnceO_f tickT (gCel c k) HV.out (HN.out h8) w g g T T 178 (k * 20) (clw c t) (by omega) HF.out 178 (160 + k * 2) (clw c t) (by omega) HF0.out HF1.out hp hp)
        obtain ⟨rfl, rfl, rfl⟩ := HR0.out (by omega)
        clear hlt hk HR1 HR0
        go_wp2_with fail
        refine region_act (w0 := w) (lk := [(w.heap.size + 1, vls 178 (clw (gcG c k k) t), 35), (w.heap.size, vls 178 (clw (fun _ => 0) 0), 35), (g, vls 178 (clw c t), T)]) (fun a0 a1 wq => ∃ g6 g7 : Nat, a1 = ((((((((((((((((((a0.put (some 17) (.pointer (some ⟨g, 0, none⟩))).put (some 18) (.int .i64 (k : Int))).put (some 19) (.pointer (some ⟨g, 0, none⟩))).put (some 20) (.pointer (some ⟨g, 0, none⟩))).put (some 21) (.pointer (some ⟨g, k * 20, none⟩))).put (some 22) (.pointer (some ⟨g, 0, none⟩))).put (some 23) (.int .i64 (k : Int))).put (some 24) (.pointer (some ⟨g, 0, none⟩))).put (some 25) (.pointer (some ⟨g, 160, none⟩))).put (some 26) (.pointer (some ⟨g, 160 + k * 2, none⟩))).put (some 27) (.tuple #[.agg (fls (fun _ => 0)), .agg #[.float .f32 0, .float .f32 0], .int .i64 4])).put (some 16) (.tuple #[.agg (fls (fun _ => 0)), .agg #[.float .f32 0, .float .f32 0], .int .i64 4])).put (some 28) (.agg (fls (fun _ => 0)))).put (some 29) (.agg #[.float .f32 0, .float .f32 0])).put (some 30) (.int .i64 4)).put (some 6) (.pointer (some ⟨g6, 0, none⟩))).put (some 7) (.pointer (some ⟨g7, 0, none⟩))).put (some 8) (.int .i64 4)) ∧ (g7 ≠ w.heap.size + 1 ∧ g6 ≠ w.heap.size + 1) ∧ Kept w [(g7, #[.float .f32 0, .float .f32 0], 32), (g6, fls (fun _ => 0), 30), (w.heap.size + 1, vls 178 (clw (gcG c k k) t), 35), (w.heap.size, vls 178 (clw (fun _ => 0) 0), 35), (g, vls 178 (clw c t), T)] wq) 20 #[false, false, false, false, false, false, false, false, false, false, false, false, false, false, false, false, false, false, false, false] (by kernel_rfl) rfl rfl ?_ ?_
        · have kd := h0.out.drew
          generalize World.drew _ = wd at kd ⊢
          refine take_val 0 _ _ (.pointer (some ⟨g, 0, none⟩)) rfl (by rfl) (by kernel_rfl) (by kernel_rfl) (by kernel_rfl) (fun w => by rfl) rfl rfl kd ?_
          simp only [Act.put, List.setIfInBounds_toArray, List.set_cons_zero, List.set_cons_succ]
          refine take_val 1 _ _ (.int .i64 (k : Int)) rfl (by rfl) (by kernel_rfl) (by kernel_rfl) (by kernel_rfl) (fun w => by rfl) rfl rfl kd ?_
          simp only [Act.put, List.setIfInBounds_toArray, List.set_cons_zero, List.set_cons_succ]
          refine take_val 2 _ _ (.pointer (some ⟨g, 0, none⟩)) rfl (by rfl) (by kernel_rfl) (by kernel_rfl) (by kernel_rfl) (fun w => by unfold execOp; go_simp) rfl rfl kd ?_
          simp only [Act.put, List.setIfInBounds_toArray, List.set_cons_zero, List.set_cons_succ]
          refine take_val 3 _ _ (.pointer (some ⟨g, 0, none⟩)) rfl (by rfl) (by kernel_rfl) (by kernel_rfl) (by kernel_rfl) (fun w => by unfold execOp; go_simp) rfl rfl kd ?_
          simp only [Act.put, List.setIfInBounds_toArray, List.set_cons_zero, List.set_cons_succ]
          refine take_val 4 _ _ (.pointer (some ⟨g, k * 20, none⟩)) rfl (by rfl) (by kernel_rfl) (by kernel_rfl) (by kernel_rfl) (fun w => by unfold execOp; go_simp) rfl rfl kd ?_
          simp only [Act.put, List.setIfInBounds_toArray, List.set_cons_zero, List.set_cons_succ]
          refine take_val 5 _ _ (.pointer (some ⟨g, 0, none⟩)) rfl (by rfl) (by kernel_rfl) (by kernel_rfl) (by kernel_rfl) (fun w => by rfl) rfl rfl kd ?_
          simp only [Act.put, List.setIfInBounds_toArray, List.set_cons_zero, List.set_cons_succ]
          refine take_val 6 _ _ (.int .i64 (k : Int)) rfl (by rfl) (by kernel_rfl) (by kernel_rfl) (by kernel_rfl) (fun w => by rfl) rfl rfl kd ?_
          simp only [Act.put, List.setIfInBounds_toArray, List.set_cons_zero, List.set_cons_succ]
          refine take_val 7 _ _ (.pointer (some ⟨g, 0, none⟩)) rfl (by rfl) (by kernel_rfl) (by kernel_rfl) (by kernel_rfl) (fun w => by unfold execOp; go_simp) rfl rfl kd ?_
          simp only [Act.put, List.setIfInBounds_toArray, List.set_cons_zero, List.set_cons_succ]
          refine take_val 8 _ _ (.pointer (some ⟨g, 160, none⟩)) rfl (by rfl) (by kernel_rfl) (by kernel_rfl) (by kernel_rfl) (fun w => by unfold execOp; go_simp) rfl rfl kd ?_
          simp only [Act.put, List.setIfInBounds_toArray, List.set_cons_zero, List.set_cons_succ]
          refine take_val 9 _ _ (.pointer (some ⟨g, 160 + k * 2, none⟩)) rfl (by rfl) (by kernel_rfl) (by kernel_rfl) (by kernel_rfl) (fun w => by unfold execOp; go_simp) rfl rfl kd ?_
          simp only [Act.put, List.setIfInBounds_toArray, List.set_cons_zero, List.set_cons_succ]
          refine wpAnyH_ready (rs := [10, 15, 16]) (by kernel_rfl) (by simp) ?_
          refine callK 10 _ _ (.tuple #[.agg (fls (fun _ => 0)), .agg #[.float .f32 0, .float .f32 0], .int .i64 4]) kd rfl (by rfl) 81 #[.pointer (some ⟨g, k * 20, none⟩), .pointer (some ⟨g, 160 + k * 2, none⟩), .float .f32 1031798784] (fun w => by unfold execOp; go_simp) rfl rfl ?hc1 (fun w1 k1 => ?_) ?_
          case hc1 => exact HC.out _ (kd.v in2)
          · refine ⟨k1, ?_⟩
            simp only [Act.put, List.setIfInBounds_toArray, List.set_cons_zero, List.set_cons_succ]
            refine take_val 11 _ _ (.tuple #[.agg (fls (fun _ => 0)), .agg #[.float .f32 0, .float .f32 0], .int .i64 4]) rfl (by rfl) (by kernel_rfl) (by kernel_rfl) (by kernel_rfl) (fun w => by rfl) rfl rfl k1 ?_
            simp only [Act.put, List.setIfInBounds_toArray, List.set_cons_zero, List.set_cons_succ]
            refine take_val 12 _ _ (.agg (fls (fun _ => 0))) rfl (by rfl) (by kernel_rfl) (by kernel_rfl) (by kernel_rfl) (fun w => by unfold execOp; go_simp) rfl rfl k1 ?_
            simp only [Act.put, List.setIfInBounds_toArray, List.set_cons_zero, List.set_cons_succ]
            refine take_val 13 _ _ (.agg #[.float .f32 0, .float .f32 0]) rfl (by rfl) (by kernel_rfl) (by kernel_rfl) (by kernel_rfl) (fun w => by unfold execOp; go_simp) rfl rfl k1 ?_
            simp only [Act.put, List.setIfInBounds_toArray, List.set_cons_zero, List.set_cons_succ]
            refine take_val 14 _ _ (.int .i64 4) rfl (by rfl) (by kernel_rfl) (by kernel_rfl) (by kernel_rfl) (fun w => by unfold execOp; go_simp) rfl rfl k1 ?_
            simp only [Act.put, List.setIfInBounds_toArray, List.set_cons_zero, List.set_cons_succ]
            refine wpAnyH_ready (rs := [15, 16]) (by kernel_rfl) (by simp) ?_
            refine allocK 15 (fun g => _) _ k1 rfl (by rfl) (fls fun _ => 0) 30 (by unfold execOp; go_simp) (fun g => rfl) rfl (fun w2 g2 k2 hB2 hn2 => ?_) ?_
            · refine ⟨k2.tail, ?_⟩
              simp only [Act.put, List.setIfInBounds_toArray, List.set_cons_zero, List.set_cons_succ]
              refine wpAnyH_ready (rs := [16]) (by kernel_rfl) (by simp) ?_
              refine allocK 16 (fun g => _) _ k2 rfl (by rfl) (#[.float .f32 0, .float .f32 0]) 32 (by unfold execOp; go_simp) (fun g => rfl) rfl (fun w3 g3 k3 hB3 hn3 => ?_) AllReadyH.nil
              refine ⟨k3.tail.tail, ?_⟩
              simp only [Act.put, List.setIfInBounds_toArray, List.set_cons_zero, List.set_cons_succ]
              refine wpAnyH_ready (rs := [17]) (by kernel_rfl) (by simp) ?_
              refine storeK 17 _ _ (k3).swap hB2 (neC (hn3 _ in0).symm hn2) rfl (by rfl) 30 _ _ rfl (fls (fun _ => 0)) rfl rfl (by rw [fls_size]; exact info_arr) (by simp) (fls_one _) rfl rfl (fun w4 k4 => ?_) AllReadyH.nil
              refine ⟨k4.tail.tail, ?_⟩
              refine wpAnyH_ready (rs := [18]) (by kernel_rfl) (by simp) ?_
              refine storeK 18 _ _ (k4).swap hB3 (neC (hn3 _ in0) (fun x hx => hn3 x (List.mem_cons_of_mem _ hx))) rfl (by rfl) 32 _ _ rfl (#[.float .f32 0, .float .f32 0]) rfl rfl (info_air) (by simp) (two_one _ _) rfl rfl (fun w5 k5 => ?_) AllReadyH.nil
              refine ⟨k5.tail.tail, ?_⟩
              refine take_val 19 _ _ (.int .i64 4) rfl (by rfl) (by kernel_rfl) (by kernel_rfl) (by kernel_rfl) (fun w => by rfl) rfl rfl k5.tail.tail ?_
              simp only [Act.put, List.setIfInBounds_toArray, List.set_cons_zero, List.set_cons_succ]
              refine wpAnyH_done (by kernel_rfl) ?_ _
              exact ⟨rfl, g2, g3, rfl, ⟨((fun x hx => hn3 x (List.mem_cons_of_mem _ hx)) (w.heap.size + 1, vls 178 (clw (gcG c k k) t), 35) in0).symm, (hn2 (w.heap.size + 1, vls 178 (clw (gcG c k k) t), 35) in0).symm⟩, k5⟩
            refine allocK 16 (fun g => _) _ k1 rfl (by rfl) (#[.float .f32 0, .float .f32 0]) 32 (by unfold execOp; go_simp) (fun g => rfl) rfl (fun w6 g6 k6 hB6 hn6 => ?_) AllReadyH.nil
            refine ⟨k6.tail, ?_⟩
            simp only [Act.put, List.setIfInBounds_toArray, List.set_cons_zero, List.set_cons_succ]
            refine wpAnyH_ready (rs := [15]) (by kernel_rfl) (by simp) ?_
            refine allocK 15 (fun g => _) _ k6 rfl (by rfl) (fls fun _ => 0) 30 (by unfold execOp; go_simp) (fun g => rfl) rfl (fun w7 g7 k7 hB7 hn7 => ?_) AllReadyH.nil
            refine ⟨k7.tail.tail, ?_⟩
            simp only [Act.put, List.setIfInBounds_toArray, List.set_cons_zero, List.set_cons_succ]
            refine wpAnyH_ready (rs := [17]) (by kernel_rfl) (by simp) ?_
            refine storeK 17 _ _ k7 hB7 (neC (hn7 _ in0) (fun x hx => hn7 x (List.mem_cons_of_mem _ hx))) rfl (by rfl) 30 _ _ rfl (fls (fun _ => 0)) rfl rfl (by rw [fls_size]; exact info_arr) (by simp) (fls_one _) rfl rfl (fun w8 k8 => ?_) AllReadyH.nil
            refine ⟨k8.tail.tail, ?_⟩
            refine wpAnyH_ready (rs := [18]) (by kernel_rfl) (by simp) ?_
            refine storeK 18 _ _ (k8).swap hB6 (neC (hn7 _ in0).symm hn6) rfl (by rfl) 32 _ _ rfl (#[.float .f32 0, .float .f32 0]) rfl rfl (info_air) (by simp) (two_one _ _) rfl rfl (fun w9 k9 => ?_) AllReadyH.nil
            refine ⟨k9.tail.tail, ?_⟩
            refine take_val 19 _ _ (.int .i64 4) rfl (by rfl) (by kernel_rfl) (by kernel_rfl) (by kernel_rfl) (fun w => by rfl) rfl rfl k9.tail.tail ?_
            simp only [Act.put, List.setIfInBounds_toArray, List.set_cons_zero, List.set_cons_succ]
            refine wpAnyH_done (by kernel_rfl) ?_ _
            exact ⟨rfl, g7, g6, rfl, ⟨(hn6 (w.heap.size + 1, vls 178 (clw (gcG c k k) t), 35) in0).symm, ((fun x hx => hn7 x (List.mem_cons_of_mem _ hx)) (w.heap.size + 1, vls 178 (clw (gcG c k k) t), 35) in0).symm⟩, k9⟩
          refine allocK 15 (fun g => _) _ kd rfl (by rfl) (fls fun _ => 0) 30 (by unfold execOp; go_simp) (fun g => rfl) rfl (fun w10 g10 k10 hB10 hn10 => ?_) ?_
          · refine ⟨k10.tail, ?_⟩
            simp only [Act.put, List.setIfInBounds_toArray, List.set_cons_zero, List.set_cons_succ]
            refine wpAnyH_ready (rs := [10, 16]) (by kernel_rfl) (by simp) ?_
            refine callK 10 _ _ (.tuple #[.agg (fls (fun _ => 0)), .agg #[.float .f32 0, .float .f32 0], .int .i64 4]) k10 rfl (by rfl) 81 #[.pointer (some ⟨g, k * 20, none⟩), .pointer (some ⟨g, 160 + k * 2, none⟩), .float .f32 1031798784] (fun w => by unfold execOp; go_simp) rfl rfl ?hc11 (fun w11 k11 => ?_) ?_
            case hc11 => exact HC.out _ (k10.tail.v in2)
            · refine ⟨k11.tail, ?_⟩
              simp only [Act.put, List.setIfInBounds_toArray, List.set_cons_zero, List.set_cons_succ]
              refine take_val 11 _ _ (.tuple #[.agg (fls (fun _ => 0)), .agg #[.float .f32 0, .float .f32 0], .int .i64 4]) rfl (by rfl) (by kernel_rfl) (by kernel_rfl) (by kernel_rfl) (fun w => by rfl) rfl rfl k11.tail ?_
              simp only [Act.put, List.setIfInBounds_toArray, List.set_cons_zero, List.set_cons_succ]
              refine take_val 12 _ _ (.agg (fls (fun _ => 0))) rfl (by rfl) (by kernel_rfl) (by kernel_rfl) (by kernel_rfl) (fun w => by unfold execOp; go_simp) rfl rfl k11.tail ?_
              simp only [Act.put, List.setIfInBounds_toArray, List.set_cons_zero, List.set_cons_succ]
              refine take_val 13 _ _ (.agg #[.float .f32 0, .float .f32 0]) rfl (by rfl) (by kernel_rfl) (by kernel_rfl) (by kernel_rfl) (fun w => by unfold execOp; go_simp) rfl rfl k11.tail ?_
              simp only [Act.put, List.setIfInBounds_toArray, List.set_cons_zero, List.set_cons_succ]
              refine take_val 14 _ _ (.int .i64 4) rfl (by rfl) (by kernel_rfl) (by kernel_rfl) (by kernel_rfl) (fun w => by unfold execOp; go_simp) rfl rfl k11.tail ?_
              simp only [Act.put, List.setIfInBounds_toArray, List.set_cons_zero, List.set_cons_succ]
              refine wpAnyH_ready (rs := [16]) (by kernel_rfl) (by simp) ?_
              refine allocK 16 (fun g => _) _ k11 rfl (by rfl) (#[.float .f32 0, .float .f32 0]) 32 (by unfold execOp; go_simp) (fun g => rfl) rfl (fun w12 g12 k12 hB12 hn12 => ?_) AllReadyH.nil
              refine ⟨k12.tail.tail, ?_⟩
              simp only [Act.put, List.setIfInBounds_toArray, List.set_cons_zero, List.set_cons_succ]
              refine wpAnyH_ready (rs := [17]) (by kernel_rfl) (by simp) ?_
              refine storeK 17 _ _ (k12).swap hB10 (neC (hn12 _ in0).symm hn10) rfl (by rfl) 30 _ _ rfl (fls (fun _ => 0)) rfl rfl (by rw [fls_size]; exact info_arr) (by simp) (fls_one _) rfl rfl (fun w13 k13 => ?_) AllReadyH.nil
              refine ⟨k13.tail.tail, ?_⟩
              refine wpAnyH_ready (rs := [18]) (by kernel_rfl) (by simp) ?_
              refine storeK 18 _ _ (k13).swap hB12 (neC (hn12 _ in0) (fun x hx => hn12 x (List.mem_cons_of_mem _ hx))) rfl (by rfl) 32 _ _ rfl (#[.float .f32 0, .float .f32 0]) rfl rfl (info_air) (by simp) (two_one _ _) rfl rfl (fun w14 k14 => ?_) AllReadyH.nil
              refine ⟨k14.tail.tail, ?_⟩
              refine take_val 19 _ _ (.int .i64 4) rfl (by rfl) (by kernel_rfl) (by kernel_rfl) (by kernel_rfl) (fun w => by rfl) rfl rfl k14.tail.tail ?_
              simp only [Act.put, List.setIfInBounds_toArray, List.set_cons_zero, List.set_cons_succ]
              refine wpAnyH_done (by kernel_rfl) ?_ _
              exact ⟨rfl, g10, g12, rfl, ⟨((fun x hx => hn12 x (List.mem_cons_of_mem _ hx)) (w.heap.size + 1, vls 178 (clw (gcG c k k) t), 35) in0).symm, (hn10 (w.heap.size + 1, vls 178 (clw (gcG c k k) t), 35) in0).symm⟩, k14⟩
            refine allocK 16 (fun g => _) _ k10 rfl (by rfl) (#[.float .f32 0, .float .f32 0]) 32 (by unfold execOp; go_simp) (fun g => rfl) rfl (fun w15 g15 k15 hB15 hn15 => ?_) AllReadyH.nil
            refine ⟨k15.tail.tail, ?_⟩
            simp only [Act.put, List.setIfInBounds_toArray, List.set_cons_zero, List.set_cons_succ]
            refine wpAnyH_ready (rs := [10]) (by kernel_rfl) (by simp) ?_
            refine callK 10 _ _ (.tuple #[.agg (fls (fun _ => 0)), .agg #[.float .f32 0, .float .f32 0], .int .i64 4]) k15 rfl (by rfl) 81 #[.pointer (some ⟨g, k * 20, none⟩), .pointer (some ⟨g, 160 + k * 2, none⟩), .float .f32 1031798784] (fun w => by unfold execOp; go_simp) rfl rfl ?hc16 (fun w16 k16 => ?_) AllReadyH.nil
            case hc16 => exact HC.out _ (k15.tail.tail.v in2)
            refine ⟨k16.tail.tail, ?_⟩
            simp only [Act.put, List.setIfInBounds_toArray, List.set_cons_zero, List.set_cons_succ]
            refine take_val 11 _ _ (.tuple #[.agg (fls (fun _ => 0)), .agg #[.float .f32 0, .float .f32 0], .int .i64 4]) rfl (by rfl) (by kernel_rfl) (by kernel_rfl) (by kernel_rfl) (fun w => by rfl) rfl rfl k16.tail.tail ?_
            simp only [Act.put, List.setIfInBounds_toArray, List.set_cons_zero, List.set_cons_succ]
            refine take_val 12 _ _ (.agg (fls (fun _ => 0))) rfl (by rfl) (by kernel_rfl) (by kernel_rfl) (by kernel_rfl) (fun w => by unfold execOp; go_simp) rfl rfl k16.tail.tail ?_
            simp only [Act.put, List.setIfInBounds_toArray, List.set_cons_zero, List.set_cons_succ]
            refine take_val 13 _ _ (.agg #[.float .f32 0, .float .f32 0]) rfl (by rfl) (by kernel_rfl) (by kernel_rfl) (by kernel_rfl) (fun w => by unfold execOp; go_simp) rfl rfl k16.tail.tail ?_
            simp only [Act.put, List.setIfInBounds_toArray, List.set_cons_zero, List.set_cons_succ]
            refine take_val 14 _ _ (.int .i64 4) rfl (by rfl) (by kernel_rfl) (by kernel_rfl) (by kernel_rfl) (fun w => by unfold execOp; go_simp) rfl rfl k16.tail.tail ?_
            simp only [Act.put, List.setIfInBounds_toArray, List.set_cons_zero, List.set_cons_succ]
            refine wpAnyH_ready (rs := [17]) (by kernel_rfl) (by simp) ?_
            refine storeK 17 _ _ (k16).swap hB10 (neC (hn15 _ in0).symm hn10) rfl (by rfl) 30 _ _ rfl (fls (fun _ => 0)) rfl rfl (by rw [fls_size]; exact info_arr) (by simp) (fls_one _) rfl rfl (fun w17 k17 => ?_) AllReadyH.nil
            refine ⟨k17.tail.tail, ?_⟩
            refine wpAnyH_ready (rs := [18]) (by kernel_rfl) (by simp) ?_
            refine storeK 18 _ _ (k17).swap hB15 (neC (hn15 _ in0) (fun x hx => hn15 x (List.mem_cons_of_mem _ hx))) rfl (by rfl) 32 _ _ rfl (#[.float .f32 0, .float .f32 0]) rfl rfl (info_air) (by simp) (two_one _ _) rfl rfl (fun w18 k18 => ?_) AllReadyH.nil
            refine ⟨k18.tail.tail, ?_⟩
            refine take_val 19 _ _ (.int .i64 4) rfl (by rfl) (by kernel_rfl) (by kernel_rfl) (by kernel_rfl) (fun w => by rfl) rfl rfl k18.tail.tail ?_
            simp only [Act.put, List.setIfInBounds_toArray, List.set_cons_zero, List.set_cons_succ]
            refine wpAnyH_done (by kernel_rfl) ?_ _
            exact ⟨rfl, g10, g15, rfl, ⟨((fun x hx => hn15 x (List.mem_cons_of_mem _ hx)) (w.heap.size + 1, vls 178 (clw (gcG c k k) t), 35) in0).symm, (hn10 (w.heap.size + 1, vls 178 (clw (gcG c k k) t), 35) in0).symm⟩, k18⟩
          refine allocK 16 (fun g => _) _ kd rfl (by rfl) (#[.float .f32 0, .float .f32 0]) 32 (by unfold execOp; go_simp) (fun g => rfl) rfl (fun w19 g19 k19 hB19 hn19 => ?_) AllReadyH.nil
          refine ⟨k19.tail, ?_⟩
          simp only [Act.put, List.setIfInBounds_toArray, List.set_cons_zero, List.set_cons_succ]
          refine wpAnyH_ready (rs := [10, 15]) (by kernel_rfl) (by simp) ?_
          refine callK 10 _ _ (.tuple #[.agg (fls (fun _ => 0)), .agg #[.float .f32 0, .float .f32 0], .int .i64 4]) k19 rfl (by rfl) 81 #[.pointer (some ⟨g, k * 20, none⟩), .pointer (some ⟨g, 160 + k * 2, none⟩), .float .f32 1031798784] (fun w => by unfold execOp; go_simp) rfl rfl ?hc20 (fun w20 k20 => ?_) ?_
          case hc20 => exact HC.out _ (k19.tail.v in2)
          · refine ⟨k20.tail, ?_⟩
            simp only [Act.put, List.setIfInBounds_toArray, List.set_cons_zero, List.set_cons_succ]
            refine take_val 11 _ _ (.tuple #[.agg (fls (fun _ => 0)), .agg #[.float .f32 0, .float .f32 0], .int .i64 4]) rfl (by rfl) (by kernel_rfl) (by kernel_rfl) (by kernel_rfl) (fun w => by rfl) rfl rfl k20.tail ?_
            simp only [Act.put, List.setIfInBounds_toArray, List.set_cons_zero, List.set_cons_succ]
            refine take_val 12 _ _ (.agg (fls (fun _ => 0))) rfl (by rfl) (by kernel_rfl) (by kernel_rfl) (by kernel_rfl) (fun w => by unfold execOp; go_simp) rfl rfl k20.tail ?_
            simp only [Act.put, List.setIfInBounds_toArray, List.set_cons_zero, List.set_cons_succ]
            refine take_val 13 _ _ (.agg #[.float .f32 0, .float .f32 0]) rfl (by rfl) (by kernel_rfl) (by kernel_rfl) (by kernel_rfl) (fun w => by unfold execOp; go_simp) rfl rfl k20.tail ?_
            simp only [Act.put, List.setIfInBounds_toArray, List.set_cons_zero, List.set_cons_succ]
            refine take_val 14 _ _ (.int .i64 4) rfl (by rfl) (by kernel_rfl) (by kernel_rfl) (by kernel_rfl) (fun w => by unfold execOp; go_simp) rfl rfl k20.tail ?_
            simp only [Act.put, List.setIfInBounds_toArray, List.set_cons_zero, List.set_cons_succ]
            refine wpAnyH_ready (rs := [15]) (by kernel_rfl) (by simp) ?_
            refine allocK 15 (fun g => _) _ k20 rfl (by rfl) (fls fun _ => 0) 30 (by unfold execOp; go_simp) (fun g => rfl) rfl (fun w21 g21 k21 hB21 hn21 => ?_) AllReadyH.nil
            refine ⟨k21.tail.tail, ?_⟩
            simp only [Act.put, List.setIfInBounds_toArray, List.set_cons_zero, List.set_cons_succ]
            refine wpAnyH_ready (rs := [17]) (by kernel_rfl) (by simp) ?_
            refine storeK 17 _ _ k21 hB21 (neC (hn21 _ in0) (fun x hx => hn21 x (List.mem_cons_of_mem _ hx))) rfl (by rfl) 30 _ _ rfl (fls (fun _ => 0)) rfl rfl (by rw [fls_size]; exact info_arr) (by simp) (fls_one _) rfl rfl (fun w22 k22 => ?_) AllReadyH.nil
            refine ⟨k22.tail.tail, ?_⟩
            refine wpAnyH_ready (rs := [18]) (by kernel_rfl) (by simp) ?_
            refine storeK 18 _ _ (k22).swap hB19 (neC (hn21 _ in0).symm hn19) rfl (by rfl) 32 _ _ rfl (#[.float .f32 0, .float .f32 0]) rfl rfl (info_air) (by simp) (two_one _ _) rfl rfl (fun w23 k23 => ?_) AllReadyH.nil
            refine ⟨k23.tail.tail, ?_⟩
            refine take_val 19 _ _ (.int .i64 4) rfl (by rfl) (by kernel_rfl) (by kernel_rfl) (by kernel_rfl) (fun w => by rfl) rfl rfl k23.tail.tail ?_
            simp only [Act.put, List.setIfInBounds_toArray, List.set_cons_zero, List.set_cons_succ]
            refine wpAnyH_done (by kernel_rfl) ?_ _
            exact ⟨rfl, g21, g19, rfl, ⟨(hn19 (w.heap.size + 1, vls 178 (clw (gcG c k k) t), 35) in0).symm, ((fun x hx => hn21 x (List.mem_cons_of_mem _ hx)) (w.heap.size + 1, vls 178 (clw (gcG c k k) t), 35) in0).symm⟩, k23⟩
          refine allocK 15 (fun g => _) _ k19 rfl (by rfl) (fls fun _ => 0) 30 (by unfold execOp; go_simp) (fun g => rfl) rfl (fun w24 g24 k24 hB24 hn24 => ?_) AllReadyH.nil
          refine ⟨k24.tail.tail, ?_⟩
          simp only [Act.put, List.setIfInBounds_toArray, List.set_cons_zero, List.set_cons_succ]
          refine wpAnyH_ready (rs := [10]) (by kernel_rfl) (by simp) ?_
          refine callK 10 _ _ (.tuple #[.agg (fls (fun _ => 0)), .agg #[.float .f32 0, .float .f32 0], .int .i64 4]) k24 rfl (by rfl) 81 #[.pointer (some ⟨g, k * 20, none⟩), .pointer (some ⟨g, 160 + k * 2, none⟩), .float .f32 1031798784] (fun w => by unfold execOp; go_simp) rfl rfl ?hc25 (fun w25 k25 => ?_) AllReadyH.nil
          case hc25 => exact HC.out _ (k24.tail.tail.v in2)
          refine ⟨k25.tail.tail, ?_⟩
          simp only [Act.put, List.setIfInBounds_toArray, List.set_cons_zero, List.set_cons_succ]
          refine take_val 11 _ _ (.tuple #[.agg (fls (fun _ => 0)), .agg #[.float .f32 0, .float .f32 0], .int .i64 4]) rfl (by rfl) (by kernel_rfl) (by kernel_rfl) (by kernel_rfl) (fun w => by rfl) rfl rfl k25.tail.tail ?_
          simp only [Act.put, List.setIfInBounds_toArray, List.set_cons_zero, List.set_cons_succ]
          refine take_val 12 _ _ (.agg (fls (fun _ => 0))) rfl (by rfl) (by kernel_rfl) (by kernel_rfl) (by kernel_rfl) (fun w => by unfold execOp; go_simp) rfl rfl k25.tail.tail ?_
          simp only [Act.put, List.setIfInBounds_toArray, List.set_cons_zero, List.set_cons_succ]
          refine take_val 13 _ _ (.agg #[.float .f32 0, .float .f32 0]) rfl (by rfl) (by kernel_rfl) (by kernel_rfl) (by kernel_rfl) (fun w => by unfold execOp; go_simp) rfl rfl k25.tail.tail ?_
          simp only [Act.put, List.setIfInBounds_toArray, List.set_cons_zero, List.set_cons_succ]
          refine take_val 14 _ _ (.int .i64 4) rfl (by rfl) (by kernel_rfl) (by kernel_rfl) (by kernel_rfl) (fun w => by unfold execOp; go_simp) rfl rfl k25.tail.tail ?_
          simp only [Act.put, List.setIfInBounds_toArray, List.set_cons_zero, List.set_cons_succ]
          refine wpAnyH_ready (rs := [17]) (by kernel_rfl) (by simp) ?_
          refine storeK 17 _ _ k25 hB24 (neC (hn24 _ in0) (fun x hx => hn24 x (List.mem_cons_of_mem _ hx))) rfl (by rfl) 30 _ _ rfl (fls (fun _ => 0)) rfl rfl (by rw [fls_size]; exact info_arr) (by simp) (fls_one _) rfl rfl (fun w26 k26 => ?_) AllReadyH.nil
          refine ⟨k26.tail.tail, ?_⟩
          refine wpAnyH_ready (rs := [18]) (by kernel_rfl) (by simp) ?_
          refine storeK 18 _ _ (k26).swap hB19 (neC (hn24 _ in0).symm hn19) rfl (by rfl) 32 _ _ rfl (#[.float .f32 0, .float .f32 0]) rfl rfl (info_air) (by simp) (two_one _ _) rfl rfl (fun w27 k27 => ?_) AllReadyH.nil
          refine ⟨k27.tail.tail, ?_⟩
          refine take_val 19 _ _ (.int .i64 4) rfl (by rfl) (by kernel_rfl) (by kernel_rfl) (by kernel_rfl) (fun w => by rfl) rfl rfl k27.tail.tail ?_
          simp only [Act.put, List.setIfInBounds_toArray, List.set_cons_zero, List.set_cons_succ]
          refine wpAnyH_done (by kernel_rfl) ?_ _
          exact ⟨rfl, g24, g19, rfl, ⟨(hn19 (w.heap.size + 1, vls 178 (clw (gcG c k k) t), 35) in0).symm, ((fun x hx => hn24 x (List.mem_cons_of_mem _ hx)) (w.heap.size + 1, vls 178 (clw (gcG c k k) t), 35) in0).symm⟩, k27⟩
        rintro a1 wx ⟨g6, g7, rfl, hg67, k3⟩
        have k3 := hid k3.tail.tail.swap
        clear h0 hg67 HC
        simp only [Act.put, List.setIfInBounds_toArray, List.set_cons_zero, List.set_cons_succ]
        have tok1 : True := trivial
        go_wp2_with (have _t := tok1; refine store_row (by rfl) 35 _ _ (by rfl) (w.heap.size) (vls 178 (clw (fun _ => 0) 0)) (vls 178 (clw (fun _ => 0) 0)) (by rfl) (by rfl) k3.out (by rw [vls_size]; exact info_col) (by simp) (vls_one (clw_one _ _)) (by omega) (neC (by omega) (neC (by have := HGL.out; omega) ne0)) ?_; intro wz k4; replace k4 := hid k4; clear k3 tok1)
        exact bodyPost_ret (results_row_tmp rfl _ _ (w.heap.size) 35 (vls 178 (clw (fun _ => 0) 0)) (0, 0) _ rfl (k4.out.at (x := (w.heap.size, vls 178 (clw (fun _ => 0) 0), 35)) in0) Tryz.underlying35 rfl (by rw [vls_size]; exact info_col)) rfl ⟨rfl, k4.out.1⟩
    · obtain rfl : k = 8 := by omega
      obtain rfl : K = 8 := by omega
      obtain ⟨rfl, rfl, rfl⟩ := HR1.out rfl
      have HC := hid (fun w T hv => sMadeC_t (gcG c 8 8) s (gcG_lt HQ.out HB.out HM.out) (gcG_ok HQ.out HB.out HM.out) w (w.heap.size + 1) T hv)
      have HX := hid (fun w2 => sMadeC_t (gcG c 8 8) s (gcG_lt HQ.out HB.out HM.out) (gcG_ok HQ.out HB.out HM.out) w2 (w.heap.size + 1) 35)
      clear HR1 HR0 HC
      go_wp2_with fail
      refine (HX.out _ (h0.out.v in0)).mono ?_
      rintro e w7 ⟨rfl, hb7⟩
      have k3 := hid ((h0.out.stay hb7).swap)
      have tok1 : True := trivial
      clear h0 hb7 HX
      go_wp2_with (first
        | (have _t := tok1; clear tok1; refine store_row (by rfl) 35 _ _ (by rfl) (w.heap.size) (vls 178 (clw (gcG c 8 8) s)) (vls 178 (clw (fun _ => 0) 0)) (by rfl) (by rfl) k3.out (by rw [vls_size]; exact info_col) (by simp) (vls_one (clw_one _ _)) (by omega) (neC (by omega) (neC (by have := HGL.out; omega) ne0)) ?_; intro wz k4; replace k4 := hid k4; clear k3))
      exact bodyPost_ret (results_row_tmp rfl _ _ (w.heap.size) 35 (vls 178 (clw (gcG c 8 8) s)) (0, 0) _ rfl (k4.out.at (x := (w.heap.size, vls 178 (clw (gcG c 8 8) s), 35)) in0) Tryz.underlying35 rfl (by rw [vls_size]; exact info_col)) rfl ⟨rfl, k4.out.1⟩

theorem clw_tick (c : Nat → Nat) (t s : Int) (i : Nat) : updV (clw c t) 177 (.int .i64 s) i = clw c s i := by
  unfold updV clw
  by_cases e : i = 177
  · rw [if_pos e, if_pos e]
  · rw [if_neg e, if_neg e, if_neg e]

/-- When a tick can be made, and what it makes. -/
def tickW (c : Nat → Nat) : Nat → Nat := setW (gcG c 8 8)

def tickOk (c : Nat → Nat) (t : Int) : Prop := (∀ j, j < 8 → okCel c j) ∧ ColOk (setW (gcG c 8 8)) t ∧ ColOk (setW (gcG c 8 8)) (t + 1)

theorem not_all {p : Nat → Prop} {K N : Nat} (h : ¬ ∀ j, j < N → p j) (hM : ∀ j, j < K → p j) (e : K = N) : False := h (e ▸ hM)

theorem iGrowC_t (c : Nat → Nat) (t : Int) (hb : ∀ i, i < 177 → c i < 4294967296) (h : ColOk c t) (hM : ∀ j, j < 8 → okCel c j) (w : World) :
    Calls Tryz.prog 25 #[.agg (vls 178 (clw c t))] w fun e w' => e = .returned (.tuple #[.agg (vls 178 (clw (gcG c 8 8) t)), .int .i64 0]) ∧ Below w.heap.size w w' :=
  iGrowC_ok c t hb h 8 (Nat.le_refl 8) hM (fun x => absurd x (Nat.lt_irrefl 8)) _ _ _ (fun _ => ⟨rfl, rfl, rfl⟩) (fun x => absurd rfl x) w

theorem iGrowC_f (c : Nat → Nat) (t : Int) (hb : ∀ i, i < 177 → c i < 4294967296) (h : ColOk c t) (hM : ¬ ∀ j, j < 8 → okCel c j) (w : World) :
    Calls Tryz.prog 25 #[.agg (vls 178 (clw c t))] w fun e w' => e = .returned (.tuple #[.agg (vls 178 (clw (fun _ => 0) 0)), .int .i64 4]) ∧ Below w.heap.size w w' := by
  obtain ⟨K, k1, k2, k3⟩ := far8 (okCel c) 8
  exact iGrowC_ok c t hb h K k1 k2 k3 _ _ _ (fun x => (not_all hM k2 x).elim) (fun _ => ⟨rfl, rfl, rfl⟩) w

theorem sGrowL_t (c : Nat → Nat) (t : Int) (hb : ∀ i, i < 177 → c i < 4294967296) (h : ColOk c t) (hM : ∀ j, j < 8 → okCel c j) (w : World) (g : Nat) (T : TypeId) (hg : vAt w g 178 (clw c t) T) :
    Calls Tryz.prog 50 #[.pointer (some ⟨g, 0, none⟩)] w fun e w' => e = .returned (.tuple #[.agg (vls 178 (clw (gcG c 8 8) t)), .int .i64 0]) ∧ Below w.heap.size w w' :=
  sGrowL c t hb h 8 (Nat.le_refl 8) hM (fun x => absurd x (Nat.lt_irrefl 8)) _ _ _ (fun _ => ⟨rfl, rfl, rfl⟩) (fun x => absurd rfl x) w g T hg

theorem sGrowL_f (c : Nat → Nat) (t : Int) (hb : ∀ i, i < 177 → c i < 4294967296) (h : ColOk c t) (hM : ¬ ∀ j, j < 8 → okCel c j) (w : World) (g : Nat) (T : TypeId) (hg : vAt w g 178 (clw c t) T) :
    Calls Tryz.prog 50 #[.pointer (some ⟨g, 0, none⟩)] w fun e w' => e = .returned (.tuple #[.agg (vls 178 (clw (fun _ => 0) 0)), .int .i64 4]) ∧ Below w.heap.size w w' := by
  obtain ⟨K, k1, k2, k3⟩ := far8 (okCel c) 8
  exact sGrowL c t hb h K k1 k2 k3 _ _ _ (fun x => (not_all hM k2 x).elim) (fun _ => ⟨rfl, rfl, rfl⟩) w g T hg

set_option maxRecDepth 100000 in
set_option maxHeartbeats 1000000 in
theorem iTick_A (c : Nat → Nat) (t : Int) (hb : ∀ i, i < 177 → c i < 4294967296) (h : ColOk c t) (hM : ¬ ∀ j, j < 8 → okCel c j) (w : World) :
    Calls Tryz.prog 9 #[.agg (vls 178 (clw c t))] w fun e w' => e = .returned (.tuple #[.agg (vls 178 (clw (fun _ => 0) 0)), .int .i64 4]) ∧ Below w.heap.size w w' := by
  have k0 : Hid (Kept w [(w.heap.size + 1, vls 178 (clw (fun _ => 0) 0), 35), (w.heap.size, vls 178 (clw c t), 35)] ((w.alloc (.cells (vls 178 (clw c t)) 35)).alloc (.cells (vls 178 (clw (fun _ => 0) 0)) 35))) := hid ((((Kept.nil w).push _ _).push _ _).sub (by simp))
  have HG := hid (fun w => iGrowC_f c t hb h hM w)
  clear hb h hM
  go_enter Tryz.func9, Tryz.ntmps9
  have tok1 : True := trivial
  go_wp2_with (have _t := tok1; clear tok1; refine wpList_load_row (by rfl) 35 _ (by rfl) (w.heap.size) (by rfl) 35 (vls 178 (clw c t)) (0, 0) _ (k0.out.v in1) Tryz.underlying35 (by rfl) (by rw [vls_size]; exact info_col) ?_)
  refine (HG.out _).mono ?_
  rintro e w1 ⟨rfl, hb1⟩
  have k1 := hid (k0.out.stay hb1)
  have l1 : w.heap.size + 1 < w1.heap.size := k1.out.lt in0
  have m1 : w.heap.size < w1.heap.size := k1.out.lt in1
  have kN := hid (k1.out.push (vls 178 (clw (fun _ => 0) 0)) 35)
  have f1 := k1.out.fresh
  have tok1 : True := trivial
  clear k0 hb1 k1
  go_wp2_with (first | (have _t := tok1; clear tok1; refine store_row (by rfl) 35 _ _ (by rfl) (w1.heap.size) (vls 178 (clw (fun _ => 0) 0)) (vls 178 (clw (fun _ => 0) 0)) (by rfl) (by rfl) (kN.out) (by rw [vls_size]; exact info_col) (by simp) (vls_one (clw_one _ _)) (by omega) f1 ?_; intro w2 k2; replace k2 := hid (k2); clear kN; have tok2 : True := trivial) | (have _t := tok2; clear tok2; refine store_row (by rfl) 35 _ _ (by rfl) (w.heap.size + 1) (vls 178 (clw (fun _ => 0) 0)) (vls 178 (clw (fun _ => 0) 0)) (by rfl) (by rfl) (k2.out.swap) (by rw [vls_size]; exact info_col) (by simp) (vls_one (clw_one _ _)) (by omega) (neC (by omega) (neC (by omega) ne0)) ?_; intro w3 k3; replace k3 := hid (k3); clear k2))
  exact bodyPost_ret (results_row_tmp rfl _ _ (w.heap.size + 1) 35 (vls 178 (clw (fun _ => 0) 0)) (0, 0) _ rfl (k3.out.at (x := (w.heap.size + 1, vls 178 (clw (fun _ => 0) 0), 35)) in0) Tryz.underlying35 rfl (by rw [vls_size]; exact info_col)) rfl ⟨rfl, k3.out.1⟩

set_option maxRecDepth 100000 in
set_option maxHeartbeats 1000000 in
theorem iTick_B (c : Nat → Nat) (t : Int) (hb : ∀ i, i < 177 → c i < 4294967296) (h : ColOk c t) (hM : ∀ j, j < 8 → okCel c j) (hS : ¬ ColOk (setW (gcG c 8 8)) t) (w : World) :
    Calls Tryz.prog 9 #[.agg (vls 178 (clw c t))] w fun e w' => e = .returned (.tuple #[.agg (vls 178 (clw (fun _ => 0) 0)), .int .i64 4]) ∧ Below w.heap.size w w' := by
  have k0 : Hid (Kept w [(w.heap.size + 1, vls 178 (clw (fun _ => 0) 0), 35), (w.heap.size, vls 178 (clw c t), 35)] ((w.alloc (.cells (vls 178 (clw c t)) 35)).alloc (.cells (vls 178 (clw (fun _ => 0) 0)) 35))) := hid ((((Kept.nil w).push _ _).push _ _).sub (by simp))
  have HGO := gcG_ok h hb hM
  have HGL := gcG_lt h hb hM
  have HG := hid (fun w => iGrowC_t c t hb h hM w)
  have HS := hid (fun w => iSettleC_ok (gcG c 8 8) t HGL HGO (fun _ => 0) 0 4 (fun x => absurd x hS) (fun _ => ⟨rfl, rfl, rfl⟩) w)
  clear hb h hM HGO HGL hS
  go_enter Tryz.func9, Tryz.ntmps9
  have tok1 : True := trivial
  go_wp2_with (have _t := tok1; clear tok1; refine wpList_load_row (by rfl) 35 _ (by rfl) (w.heap.size) (by rfl) 35 (vls 178 (clw c t)) (0, 0) _ (k0.out.v in1) Tryz.underlying35 (by rfl) (by rw [vls_size]; exact info_col) ?_)
  refine (HG.out _).mono ?_
  rintro e w1 ⟨rfl, hb1⟩
  have k1 := hid (k0.out.stay hb1)
  have l1 : w.heap.size + 1 < w1.heap.size := k1.out.lt in0
  have m1 : w.heap.size < w1.heap.size := k1.out.lt in1
  have kN := hid (k1.out.push (vls 178 (clw (fun _ => 0) 0)) 35)
  have f1 := k1.out.fresh
  have tok1 : True := trivial
  clear k0 hb1 k1
  go_wp2_with (first | (have _t := tok1; clear tok1; refine store_row (by rfl) 35 _ _ (by rfl) (w1.heap.size) (vls 178 (clw (gcG c 8 8) t)) (vls 178 (clw (fun _ => 0) 0)) (by rfl) (by rfl) (kN.out) (by rw [vls_size]; exact info_col) (by simp) (vls_one (clw_one _ _)) (by omega) f1 ?_; intro w2 k2; replace k2 := hid (k2); clear kN; have tok2 : True := trivial) | (have _t := tok2; clear tok2; refine wpList_load_row (by rfl) 35 _ (by rfl) (w1.heap.size) (by rfl) 35 (vls 178 (clw (gcG c 8 8) t)) (0, 0) _ (k2.out.v in0) Tryz.underlying35 (by rfl) (by rw [vls_size]; exact info_col) ?_))
  refine (HS.out _).mono ?_
  rintro e w3 ⟨rfl, hb3⟩
  have k3 := hid (k2.out.stay hb3)
  have l3 : w1.heap.size < w3.heap.size := k3.out.lt in0
  have kM := hid (k3.out.push (vls 178 (clw (fun _ => 0) 0)) 35)
  have f3 := k3.out.fresh
  have tok1 : True := trivial
  clear k2 hb3 k3
  go_wp2_with (first | (have _t := tok1; clear tok1; refine store_row (by rfl) 35 _ _ (by rfl) (w3.heap.size) (vls 178 (clw (fun _ => 0) 0)) (vls 178 (clw (fun _ => 0) 0)) (by rfl) (by rfl) (kM.out) (by rw [vls_size]; exact info_col) (by simp) (vls_one (clw_one _ _)) (by omega) f3 ?_; intro w4 k4; replace k4 := hid (k4); clear kM; have tok2 : True := trivial) | (have _t := tok2; clear tok2; refine store_row (by rfl) 35 _ _ (by rfl) (w.heap.size + 1) (vls 178 (clw (fun _ => 0) 0)) (vls 178 (clw (fun _ => 0) 0)) (by rfl) (by rfl) (k4.out.up2) (by rw [vls_size]; exact info_col) (by simp) (vls_one (clw_one _ _)) (by omega) (neC (by omega) (neC (by omega) (neC (by omega) ne0))) ?_; intro w5 k5; replace k5 := hid (k5); clear k4))
  exact bodyPost_ret (results_row_tmp rfl _ _ (w.heap.size + 1) 35 (vls 178 (clw (fun _ => 0) 0)) (0, 0) _ rfl (k5.out.at (x := (w.heap.size + 1, vls 178 (clw (fun _ => 0) 0), 35)) in0) Tryz.underlying35 rfl (by rw [vls_size]; exact info_col)) rfl ⟨rfl, k5.out.1⟩

set_option maxRecDepth 100000 in
set_option maxHeartbeats 1000000 in
theorem iTick_C (c : Nat → Nat) (t : Int) (hb : ∀ i, i < 177 → c i < 4294967296) (h : ColOk c t) (hM : ∀ j, j < 8 → okCel c j) (hS : ColOk (setW (gcG c 8 8)) t) (hF : ¬ ColOk (setW (gcG c 8 8)) (t + 1)) (w : World) :
    Calls Tryz.prog 9 #[.agg (vls 178 (clw c t))] w fun e w' => e = .returned (.tuple #[.agg (vls 178 (clw (fun _ => 0) 0)), .int .i64 4]) ∧ Below w.heap.size w w' := by
  have k0 : Hid (Kept w [(w.heap.size + 1, vls 178 (clw (fun _ => 0) 0), 35), (w.heap.size, vls 178 (clw c t), 35)] ((w.alloc (.cells (vls 178 (clw c t)) 35)).alloc (.cells (vls 178 (clw (fun _ => 0) 0)) 35))) := hid ((((Kept.nil w).push _ _).push _ _).sub (by simp))
  have HGO := gcG_ok h hb hM
  have HGL := gcG_lt h hb hM
  have ht0 := h.t0
  have ht1 := h.t1
  have HX := setW_lt HGO HGL
  have HF := hid (fun w => iFitC_f (setW (gcG c 8 8)) (t + 1) HX hF 4 w)
  clear hF HX
  have HG := hid (fun w => iGrowC_t c t hb h hM w)
  have HS := hid (fun w => iSettleC_ok (gcG c 8 8) t HGL HGO (setW (gcG c 8 8)) t 0 (fun _ => ⟨rfl, rfl, rfl⟩) (fun x => absurd hS x) w)
  clear hb h hM HGO HGL hS
  go_enter Tryz.func9, Tryz.ntmps9
  have tok1 : True := trivial
  go_wp2_with (have _t := tok1; clear tok1; refine wpList_load_row (by rfl) 35 _ (by rfl) (w.heap.size) (by rfl) 35 (vls 178 (clw c t)) (0, 0) _ (k0.out.v in1) Tryz.underlying35 (by rfl) (by rw [vls_size]; exact info_col) ?_)
  refine (HG.out _).mono ?_
  rintro e w1 ⟨rfl, hb1⟩
  have k1 := hid (k0.out.stay hb1)
  have l1 : w.heap.size + 1 < w1.heap.size := k1.out.lt in0
  have m1 : w.heap.size < w1.heap.size := k1.out.lt in1
  have kN := hid (k1.out.push (vls 178 (clw (fun _ => 0) 0)) 35)
  have f1 := k1.out.fresh
  have tok1 : True := trivial
  clear k0 hb1 k1
  go_wp2_with (first | (have _t := tok1; clear tok1; refine store_row (by rfl) 35 _ _ (by rfl) (w1.heap.size) (vls 178 (clw (gcG c 8 8) t)) (vls 178 (clw (fun _ => 0) 0)) (by rfl) (by rfl) (kN.out) (by rw [vls_size]; exact info_col) (by simp) (vls_one (clw_one _ _)) (by omega) f1 ?_; intro w2 k2; replace k2 := hid (k2); clear kN; have tok2 : True := trivial) | (have _t := tok2; clear tok2; refine wpList_load_row (by rfl) 35 _ (by rfl) (w1.heap.size) (by rfl) 35 (vls 178 (clw (gcG c 8 8) t)) (0, 0) _ (k2.out.v in0) Tryz.underlying35 (by rfl) (by rw [vls_size]; exact info_col) ?_))
  refine (HS.out _).mono ?_
  rintro e w3 ⟨rfl, hb3⟩
  have k3 := hid (k2.out.stay hb3)
  have l3 : w1.heap.size < w3.heap.size := k3.out.lt in0
  have kM := hid (k3.out.push (vls 178 (clw (fun _ => 0) 0)) 35)
  have f3 := k3.out.fresh
  have tok1 : True := trivial
  clear k2 hb3 k3
  go_wp2_with (first | (have _t := tok1; clear tok1; refine store_row (by rfl) 35 _ _ (by rfl) (w3.heap.size) (vls 178 (clw (setW (gcG c 8 8)) t)) (vls 178 (clw (fun _ => 0) 0)) (by rfl) (by rfl) (kM.out) (by rw [vls_size]; exact info_col) (by simp) (vls_one (clw_one _ _)) (by omega) f3 ?_; intro w4 k4; replace k4 := hid (k4); have c177 := (k4.out.v in0).ct; clear kM; have tok2 : True := trivial) | (have _t := tok2; clear tok2; refine store_one (by rfl) 2 _ _ (by rfl) (by kernel_rfl) (w3.heap.size) 177 (.int .i64 (t + 1)) (by rfl) (by rfl) rfl rfl k4.out (by omega) (by omega) f3 ?_; intro w5 k5; replace k5 := hid (k5.ext (fun i _ => clw_tick (setW (gcG c 8 8)) t (t + 1) i)); clear k4 c177; have tok3 : True := trivial) | (have _t := tok3; clear tok3; refine wpList_load_row (by rfl) 35 _ (by rfl) (w3.heap.size) (by rfl) 35 (vls 178 (clw (setW (gcG c 8 8)) (t + 1))) (0, 0) _ (k5.out.v in0) Tryz.underlying35 (by rfl) (by rw [vls_size]; exact info_col) ?_))
  refine (HF.out _).mono ?_
  rintro e w6 ⟨rfl, hb6⟩
  have k6 := hid (k5.out.stay hb6)
  have tok1 : True := trivial
  clear k5 hb6
  go_wp2_with (first | (have _t := tok1; clear tok1; refine store_row (by rfl) 35 _ _ (by rfl) (w.heap.size + 1) (vls 178 (clw (fun _ => 0) 0)) (vls 178 (clw (fun _ => 0) 0)) (by rfl) (by rfl) (k6.out.up2) (by rw [vls_size]; exact info_col) (by simp) (vls_one (clw_one _ _)) (by omega) (neC (by omega) (neC (by omega) (neC (by omega) ne0))) ?_; intro w7 k7; replace k7 := hid (k7); clear k6))
  exact bodyPost_ret (results_row_tmp rfl _ _ (w.heap.size + 1) 35 (vls 178 (clw (fun _ => 0) 0)) (0, 0) _ rfl (k7.out.at (x := (w.heap.size + 1, vls 178 (clw (fun _ => 0) 0), 35)) in0) Tryz.underlying35 rfl (by rw [vls_size]; exact info_col)) rfl ⟨rfl, k7.out.1⟩

set_option maxRecDepth 100000 in
set_option maxHeartbeats 1000000 in
theorem iTick_D (c : Nat → Nat) (t : Int) (hb : ∀ i, i < 177 → c i < 4294967296) (h : ColOk c t) (hM : ∀ j, j < 8 → okCel c j) (hS : ColOk (setW (gcG c 8 8)) t) (hF : ColOk (setW (gcG c 8 8)) (t + 1)) (w : World) :
    Calls Tryz.prog 9 #[.agg (vls 178 (clw c t))] w fun e w' => e = .returned (.tuple #[.agg (vls 178 (clw (setW (gcG c 8 8)) (t + 1))), .int .i64 0]) ∧ Below w.heap.size w w' := by
  have k0 : Hid (Kept w [(w.heap.size + 1, vls 178 (clw (fun _ => 0) 0), 35), (w.heap.size, vls 178 (clw c t), 35)] ((w.alloc (.cells (vls 178 (clw c t)) 35)).alloc (.cells (vls 178 (clw (fun _ => 0) 0)) 35))) := hid ((((Kept.nil w).push _ _).push _ _).sub (by simp))
  have HGO := gcG_ok h hb hM
  have HGL := gcG_lt h hb hM
  have ht0 := h.t0
  have ht1 := h.t1
  have HX := setW_lt HGO HGL
  have HF := hid (fun w => iFitC_t (setW (gcG c 8 8)) (t + 1) HX hF 4 w)
  clear hF HX
  have HG := hid (fun w => iGrowC_t c t hb h hM w)
  have HS := hid (fun w => iSettleC_ok (gcG c 8 8) t HGL HGO (setW (gcG c 8 8)) t 0 (fun _ => ⟨rfl, rfl, rfl⟩) (fun x => absurd hS x) w)
  clear hb h hM HGO HGL hS
  go_enter Tryz.func9, Tryz.ntmps9
  have tok1 : True := trivial
  go_wp2_with (have _t := tok1; clear tok1; refine wpList_load_row (by rfl) 35 _ (by rfl) (w.heap.size) (by rfl) 35 (vls 178 (clw c t)) (0, 0) _ (k0.out.v in1) Tryz.underlying35 (by rfl) (by rw [vls_size]; exact info_col) ?_)
  refine (HG.out _).mono ?_
  rintro e w1 ⟨rfl, hb1⟩
  have k1 := hid (k0.out.stay hb1)
  have l1 : w.heap.size + 1 < w1.heap.size := k1.out.lt in0
  have m1 : w.heap.size < w1.heap.size := k1.out.lt in1
  have kN := hid (k1.out.push (vls 178 (clw (fun _ => 0) 0)) 35)
  have f1 := k1.out.fresh
  have tok1 : True := trivial
  clear k0 hb1 k1
  go_wp2_with (first | (have _t := tok1; clear tok1; refine store_row (by rfl) 35 _ _ (by rfl) (w1.heap.size) (vls 178 (clw (gcG c 8 8) t)) (vls 178 (clw (fun _ => 0) 0)) (by rfl) (by rfl) (kN.out) (by rw [vls_size]; exact info_col) (by simp) (vls_one (clw_one _ _)) (by omega) f1 ?_; intro w2 k2; replace k2 := hid (k2); clear kN; have tok2 : True := trivial) | (have _t := tok2; clear tok2; refine wpList_load_row (by rfl) 35 _ (by rfl) (w1.heap.size) (by rfl) 35 (vls 178 (clw (gcG c 8 8) t)) (0, 0) _ (k2.out.v in0) Tryz.underlying35 (by rfl) (by rw [vls_size]; exact info_col) ?_))
  refine (HS.out _).mono ?_
  rintro e w3 ⟨rfl, hb3⟩
  have k3 := hid (k2.out.stay hb3)
  have l3 : w1.heap.size < w3.heap.size := k3.out.lt in0
  have kM := hid (k3.out.push (vls 178 (clw (fun _ => 0) 0)) 35)
  have f3 := k3.out.fresh
  have tok1 : True := trivial
  clear k2 hb3 k3
  go_wp2_with (first | (have _t := tok1; clear tok1; refine store_row (by rfl) 35 _ _ (by rfl) (w3.heap.size) (vls 178 (clw (setW (gcG c 8 8)) t)) (vls 178 (clw (fun _ => 0) 0)) (by rfl) (by rfl) (kM.out) (by rw [vls_size]; exact info_col) (by simp) (vls_one (clw_one _ _)) (by omega) f3 ?_; intro w4 k4; replace k4 := hid (k4); have c177 := (k4.out.v in0).ct; clear kM; have tok2 : True := trivial) | (have _t := tok2; clear tok2; refine store_one (by rfl) 2 _ _ (by rfl) (by kernel_rfl) (w3.heap.size) 177 (.int .i64 (t + 1)) (by rfl) (by rfl) rfl rfl k4.out (by omega) (by omega) f3 ?_; intro w5 k5; replace k5 := hid (k5.ext (fun i _ => clw_tick (setW (gcG c 8 8)) t (t + 1) i)); clear k4 c177; have tok3 : True := trivial) | (have _t := tok3; clear tok3; refine wpList_load_row (by rfl) 35 _ (by rfl) (w3.heap.size) (by rfl) 35 (vls 178 (clw (setW (gcG c 8 8)) (t + 1))) (0, 0) _ (k5.out.v in0) Tryz.underlying35 (by rfl) (by rw [vls_size]; exact info_col) ?_))
  refine (HF.out _).mono ?_
  rintro e w6 ⟨rfl, hb6⟩
  have k6 := hid (k5.out.stay hb6)
  have tok1 : True := trivial
  clear k5 hb6
  go_wp2_with (first | (have _t := tok1; clear tok1; refine store_row (by rfl) 35 _ _ (by rfl) (w.heap.size + 1) (vls 178 (clw (setW (gcG c 8 8)) (t + 1))) (vls 178 (clw (fun _ => 0) 0)) (by rfl) (by rfl) (k6.out.up2) (by rw [vls_size]; exact info_col) (by simp) (vls_one (clw_one _ _)) (by omega) (neC (by omega) (neC (by omega) (neC (by omega) ne0))) ?_; intro w7 k7; replace k7 := hid (k7); clear k6))
  exact bodyPost_ret (results_row_tmp rfl _ _ (w.heap.size + 1) 35 (vls 178 (clw (setW (gcG c 8 8)) (t + 1))) (0, 0) _ rfl (k7.out.at (x := (w.heap.size + 1, vls 178 (clw (setW (gcG c 8 8)) (t + 1)), 35)) in0) Tryz.underlying35 rfl (by rw [vls_size]; exact info_col)) rfl ⟨rfl, k7.out.1⟩

theorem iTick_t (c : Nat → Nat) (t : Int) (hb : ∀ i, i < 177 → c i < 4294967296) (h : ColOk c t) (hk : tickOk c t) (w : World) :
    Calls Tryz.prog 9 #[.agg (vls 178 (clw c t))] w fun e w' => e = .returned (.tuple #[.agg (vls 178 (clw (tickW c) (t + 1))), .int .i64 0]) ∧ Below w.heap.size w w' :=
  iTick_D c t hb h hk.1 hk.2.1 hk.2.2 w

theorem iTick_f (c : Nat → Nat) (t : Int) (hb : ∀ i, i < 177 → c i < 4294967296) (h : ColOk c t) (hk : ¬ tickOk c t) (w : World) :
    Calls Tryz.prog 9 #[.agg (vls 178 (clw c t))] w fun e w' => e = .returned (.tuple #[.agg (vls 178 (clw (fun _ => 0) 0)), .int .i64 4]) ∧ Below w.heap.size w w' := by
  by_cases h1 : ∀ j, j < 8 → okCel c j
  · by_cases h2 : ColOk (setW (gcG c 8 8)) t
    · exact iTick_C c t hb h h1 h2 (fun h3 => hk ⟨h1, h2, h3⟩) w
    · exact iTick_B c t hb h h1 h2 w
  · exact iTick_A c t hb h h1 w

set_option maxRecDepth 100000 in
set_option maxHeartbeats 1000000 in
theorem sTick_A (c : Nat → Nat) (t : Int) (hb : ∀ i, i < 177 → c i < 4294967296) (h : ColOk c t) (hM : ¬ ∀ j, j < 8 → okCel c j) (w : World) (g : Nat) (T : TypeId) (hg : vAt w g 178 (clw c t) T) :
    Calls Tryz.prog 22 #[.pointer (some ⟨g, 0, none⟩)] w fun e w' => e = .returned (.tuple #[.agg (vls 178 (clw (fun _ => 0) 0)), .int .i64 4]) ∧ Below w.heap.size w w' := by
  have hgl := hg.lt
  have k0 : Hid (Kept w [(w.heap.size, vls 178 (clw (fun _ => 0) 0), 35), (g, vls 178 (clw c t), T)] (w.alloc (.cells (vls 178 (clw (fun _ => 0) 0)) 35))) := hid (Kept.push ⟨Below.refl _ _, fun x hx => by rw [List.mem_singleton.1 hx]; exact hg⟩ _ _)
  clear hg
  have HG := hid (fun w (hv : vAt w g 178 (clw c t) T) => sGrowL_f c t hb h hM w g T hv)
  clear hb h hM
  go_enter Tryz.func22, Tryz.ntmps22
  go_wp2_with fail
  refine (HG.out _ (k0.out.v in1)).mono ?_
  rintro e w1 ⟨rfl, hb1⟩
  have k1 := hid (k0.out.stay hb1)
  have l1 : w.heap.size < w1.heap.size := k1.out.lt in0
  have m1 : g < w1.heap.size := k1.out.lt in1
  have kN := hid (k1.out.push (vls 178 (clw (fun _ => 0) 0)) 35)
  have f1 := k1.out.fresh
  have tok1 : True := trivial
  clear k0 hb1 k1
  go_wp2_with (first | (have _t := tok1; clear tok1; refine store_row (by rfl) 35 _ _ (by rfl) (w1.heap.size) (vls 178 (clw (fun _ => 0) 0)) (vls 178 (clw (fun _ => 0) 0)) (by rfl) (by rfl) (kN.out) (by rw [vls_size]; exact info_col) (by simp) (vls_one (clw_one _ _)) (by omega) f1 ?_; intro w2 k2; replace k2 := hid (k2); clear kN; have tok2 : True := trivial) | (have _t := tok2; clear tok2; refine store_row (by rfl) 35 _ _ (by rfl) (w.heap.size) (vls 178 (clw (fun _ => 0) 0)) (vls 178 (clw (fun _ => 0) 0)) (by rfl) (by rfl) (k2.out.swap) (by rw [vls_size]; exact info_col) (by simp) (vls_one (clw_one _ _)) (by omega) (neC (by omega) (neC (by omega) ne0)) ?_; intro w3 k3; replace k3 := hid (k3); clear k2))
  exact bodyPost_ret (results_row_tmp rfl _ _ (w.heap.size) 35 (vls 178 (clw (fun _ => 0) 0)) (0, 0) _ rfl (k3.out.at (x := (w.heap.size, vls 178 (clw (fun _ => 0) 0), 35)) in0) Tryz.underlying35 rfl (by rw [vls_size]; exact info_col)) rfl ⟨rfl, k3.out.1⟩

set_option maxRecDepth 100000 in
set_option maxHeartbeats 1000000 in
theorem sTick_B (c : Nat → Nat) (t : Int) (hb : ∀ i, i < 177 → c i < 4294967296) (h : ColOk c t) (hM : ∀ j, j < 8 → okCel c j) (hS : ¬ ColOk (setW (gcG c 8 8)) t) (w : World) (g : Nat) (T : TypeId) (hg : vAt w g 178 (clw c t) T) :
    Calls Tryz.prog 22 #[.pointer (some ⟨g, 0, none⟩)] w fun e w' => e = .returned (.tuple #[.agg (vls 178 (clw (fun _ => 0) 0)), .int .i64 4]) ∧ Below w.heap.size w w' := by
  have hgl := hg.lt
  have k0 : Hid (Kept w [(w.heap.size, vls 178 (clw (fun _ => 0) 0), 35), (g, vls 178 (clw c t), T)] (w.alloc (.cells (vls 178 (clw (fun _ => 0) 0)) 35))) := hid (Kept.push ⟨Below.refl _ _, fun x hx => by rw [List.mem_singleton.1 hx]; exact hg⟩ _ _)
  clear hg
  have HGO := gcG_ok h hb hM
  have HGL := gcG_lt h hb hM
  have HG := hid (fun w (hv : vAt w g 178 (clw c t) T) => sGrowL_t c t hb h hM w g T hv)
  have HS := hid (fun w g (hv : vAt w g 178 (clw (gcG c 8 8) t) 35) => sSettleC (gcG c 8 8) t HGL HGO (fun _ => 0) 0 4 (fun x => absurd x hS) (fun _ => ⟨rfl, rfl, rfl⟩) w g 35 hv)
  clear hb h hM HGO HGL hS
  go_enter Tryz.func22, Tryz.ntmps22
  go_wp2_with fail
  refine (HG.out _ (k0.out.v in1)).mono ?_
  rintro e w1 ⟨rfl, hb1⟩
  have k1 := hid (k0.out.stay hb1)
  have l1 : w.heap.size < w1.heap.size := k1.out.lt in0
  have m1 : g < w1.heap.size := k1.out.lt in1
  have kN := hid (k1.out.push (vls 178 (clw (fun _ => 0) 0)) 35)
  have f1 := k1.out.fresh
  have tok1 : True := trivial
  clear k0 hb1 k1
  go_wp2_with (first | (have _t := tok1; clear tok1; refine store_row (by rfl) 35 _ _ (by rfl) (w1.heap.size) (vls 178 (clw (gcG c 8 8) t)) (vls 178 (clw (fun _ => 0) 0)) (by rfl) (by rfl) (kN.out) (by rw [vls_size]; exact info_col) (by simp) (vls_one (clw_one _ _)) (by omega) f1 ?_; intro w2 k2; replace k2 := hid (k2); clear kN))
  refine (HS.out _ (w1.heap.size) (k2.out.v in0)).mono ?_
  rintro e w3 ⟨rfl, hb3⟩
  have k3 := hid (k2.out.stay hb3)
  have l3 : w1.heap.size < w3.heap.size := k3.out.lt in0
  have kM := hid (k3.out.push (vls 178 (clw (fun _ => 0) 0)) 35)
  have f3 := k3.out.fresh
  have tok1 : True := trivial
  clear k2 hb3 k3
  go_wp2_with (first | (have _t := tok1; clear tok1; refine store_row (by rfl) 35 _ _ (by rfl) (w3.heap.size) (vls 178 (clw (fun _ => 0) 0)) (vls 178 (clw (fun _ => 0) 0)) (by rfl) (by rfl) (kM.out) (by rw [vls_size]; exact info_col) (by simp) (vls_one (clw_one _ _)) (by omega) f3 ?_; intro w4 k4; replace k4 := hid (k4); clear kM; have tok2 : True := trivial) | (have _t := tok2; clear tok2; refine store_row (by rfl) 35 _ _ (by rfl) (w.heap.size) (vls 178 (clw (fun _ => 0) 0)) (vls 178 (clw (fun _ => 0) 0)) (by rfl) (by rfl) (k4.out.up2) (by rw [vls_size]; exact info_col) (by simp) (vls_one (clw_one _ _)) (by omega) (neC (by omega) (neC (by omega) (neC (by omega) ne0))) ?_; intro w5 k5; replace k5 := hid (k5); clear k4))
  exact bodyPost_ret (results_row_tmp rfl _ _ (w.heap.size) 35 (vls 178 (clw (fun _ => 0) 0)) (0, 0) _ rfl (k5.out.at (x := (w.heap.size, vls 178 (clw (fun _ => 0) 0), 35)) in0) Tryz.underlying35 rfl (by rw [vls_size]; exact info_col)) rfl ⟨rfl, k5.out.1⟩

set_option maxRecDepth 100000 in
set_option maxHeartbeats 1000000 in
theorem sTick_C (c : Nat → Nat) (t : Int) (hb : ∀ i, i < 177 → c i < 4294967296) (h : ColOk c t) (hM : ∀ j, j < 8 → okCel c j) (hS : ColOk (setW (gcG c 8 8)) t) (hF : ¬ ColOk (setW (gcG c 8 8)) (t + 1)) (w : World) (g : Nat) (T : TypeId) (hg : vAt w g 178 (clw c t) T) :
    Calls Tryz.prog 22 #[.pointer (some ⟨g, 0, none⟩)] w fun e w' => e = .returned (.tuple #[.agg (vls 178 (clw (fun _ => 0) 0)), .int .i64 4]) ∧ Below w.heap.size w w' := by
  have hgl := hg.lt
  have k0 : Hid (Kept w [(w.heap.size, vls 178 (clw (fun _ => 0) 0), 35), (g, vls 178 (clw c t), T)] (w.alloc (.cells (vls 178 (clw (fun _ => 0) 0)) 35))) := hid (Kept.push ⟨Below.refl _ _, fun x hx => by rw [List.mem_singleton.1 hx]; exact hg⟩ _ _)
  clear hg
  have HGO := gcG_ok h hb hM
  have HGL := gcG_lt h hb hM
  have ht0 := h.t0
  have ht1 := h.t1
  have HX := setW_lt HGO HGL
  have HF := hid (fun w g (hv : vAt w g 178 (clw (setW (gcG c 8 8)) (t + 1)) 35) => sMadeC_f (setW (gcG c 8 8)) (t + 1) HX hF w g 35 hv)
  clear hF HX
  have HG := hid (fun w (hv : vAt w g 178 (clw c t) T) => sGrowL_t c t hb h hM w g T hv)
  have HS := hid (fun w g (hv : vAt w g 178 (clw (gcG c 8 8) t) 35) => sSettleC (gcG c 8 8) t HGL HGO (setW (gcG c 8 8)) t 0 (fun _ => ⟨rfl, rfl, rfl⟩) (fun x => absurd hS x) w g 35 hv)
  clear hb h hM HGO HGL hS
  go_enter Tryz.func22, Tryz.ntmps22
  go_wp2_with fail
  refine (HG.out _ (k0.out.v in1)).mono ?_
  rintro e w1 ⟨rfl, hb1⟩
  have k1 := hid (k0.out.stay hb1)
  have l1 : w.heap.size < w1.heap.size := k1.out.lt in0
  have m1 : g < w1.heap.size := k1.out.lt in1
  have kN := hid (k1.out.push (vls 178 (clw (fun _ => 0) 0)) 35)
  have f1 := k1.out.fresh
  have tok1 : True := trivial
  clear k0 hb1 k1
  go_wp2_with (first | (have _t := tok1; clear tok1; refine store_row (by rfl) 35 _ _ (by rfl) (w1.heap.size) (vls 178 (clw (gcG c 8 8) t)) (vls 178 (clw (fun _ => 0) 0)) (by rfl) (by rfl) (kN.out) (by rw [vls_size]; exact info_col) (by simp) (vls_one (clw_one _ _)) (by omega) f1 ?_; intro w2 k2; replace k2 := hid (k2); clear kN))
  refine (HS.out _ (w1.heap.size) (k2.out.v in0)).mono ?_
  rintro e w3 ⟨rfl, hb3⟩
  have k3 := hid (k2.out.stay hb3)
  have l3 : w1.heap.size < w3.heap.size := k3.out.lt in0
  have kM := hid (k3.out.push (vls 178 (clw (fun _ => 0) 0)) 35)
  have f3 := k3.out.fresh
  have tok1 : True := trivial
  clear k2 hb3 k3
  go_wp2_with (first | (have _t := tok1; clear tok1; refine store_row (by rfl) 35 _ _ (by rfl) (w3.heap.size) (vls 178 (clw (setW (gcG c 8 8)) t)) (vls 178 (clw (fun _ => 0) 0)) (by rfl) (by rfl) (kM.out) (by rw [vls_size]; exact info_col) (by simp) (vls_one (clw_one _ _)) (by omega) f3 ?_; intro w4 k4; replace k4 := hid (k4); have c177 := (k4.out.v in0).ct; clear kM; have tok2 : True := trivial) | (have _t := tok2; clear tok2; refine store_one (by rfl) 2 _ _ (by rfl) (by kernel_rfl) (w3.heap.size) 177 (.int .i64 (t + 1)) (by rfl) (by rfl) rfl rfl k4.out (by omega) (by omega) f3 ?_; intro w5 k5; replace k5 := hid (k5.ext (fun i _ => clw_tick (setW (gcG c 8 8)) t (t + 1) i)); clear k4 c177))
  refine (HF.out _ (w3.heap.size) (k5.out.v in0)).mono ?_
  rintro e w6 ⟨rfl, hb6⟩
  have k6 := hid (k5.out.stay hb6)
  have tok1 : True := trivial
  clear k5 hb6
  go_wp2_with (first | (have _t := tok1; clear tok1; refine store_row (by rfl) 35 _ _ (by rfl) (w.heap.size) (vls 178 (clw (fun _ => 0) 0)) (vls 178 (clw (fun _ => 0) 0)) (by rfl) (by rfl) (k6.out.up2) (by rw [vls_size]; exact info_col) (by simp) (vls_one (clw_one _ _)) (by omega) (neC (by omega) (neC (by omega) (neC (by omega) ne0))) ?_; intro w7 k7; replace k7 := hid (k7); clear k6))
  exact bodyPost_ret (results_row_tmp rfl _ _ (w.heap.size) 35 (vls 178 (clw (fun _ => 0) 0)) (0, 0) _ rfl (k7.out.at (x := (w.heap.size, vls 178 (clw (fun _ => 0) 0), 35)) in0) Tryz.underlying35 rfl (by rw [vls_size]; exact info_col)) rfl ⟨rfl, k7.out.1⟩

set_option maxRecDepth 100000 in
set_option maxHeartbeats 1000000 in
theorem sTick_D (c : Nat → Nat) (t : Int) (hb : ∀ i, i < 177 → c i < 4294967296) (h : ColOk c t) (hM : ∀ j, j < 8 → okCel c j) (hS : ColOk (setW (gcG c 8 8)) t) (hF : ColOk (setW (gcG c 8 8)) (t + 1)) (w : World) (g : Nat) (T : TypeId) (hg : vAt w g 178 (clw c t) T) :
    Calls Tryz.prog 22 #[.pointer (some ⟨g, 0, none⟩)] w fun e w' => e = .returned (.tuple #[.agg (vls 178 (clw (setW (gcG c 8 8)) (t + 1))), .int .i64 0]) ∧ Below w.heap.size w w' := by
  have hgl := hg.lt
  have k0 : Hid (Kept w [(w.heap.size, vls 178 (clw (fun _ => 0) 0), 35), (g, vls 178 (clw c t), T)] (w.alloc (.cells (vls 178 (clw (fun _ => 0) 0)) 35))) := hid (Kept.push ⟨Below.refl _ _, fun x hx => by rw [List.mem_singleton.1 hx]; exact hg⟩ _ _)
  clear hg
  have HGO := gcG_ok h hb hM
  have HGL := gcG_lt h hb hM
  have ht0 := h.t0
  have ht1 := h.t1
  have HX := setW_lt HGO HGL
  have HF := hid (fun w g (hv : vAt w g 178 (clw (setW (gcG c 8 8)) (t + 1)) 35) => sMadeC_t (setW (gcG c 8 8)) (t + 1) HX hF w g 35 hv)
  clear hF HX
  have HG := hid (fun w (hv : vAt w g 178 (clw c t) T) => sGrowL_t c t hb h hM w g T hv)
  have HS := hid (fun w g (hv : vAt w g 178 (clw (gcG c 8 8) t) 35) => sSettleC (gcG c 8 8) t HGL HGO (setW (gcG c 8 8)) t 0 (fun _ => ⟨rfl, rfl, rfl⟩) (fun x => absurd hS x) w g 35 hv)
  clear hb h hM HGO HGL hS
  go_enter Tryz.func22, Tryz.ntmps22
  go_wp2_with fail
  refine (HG.out _ (k0.out.v in1)).mono ?_
  rintro e w1 ⟨rfl, hb1⟩
  have k1 := hid (k0.out.stay hb1)
  have l1 : w.heap.size < w1.heap.size := k1.out.lt in0
  have m1 : g < w1.heap.size := k1.out.lt in1
  have kN := hid (k1.out.push (vls 178 (clw (fun _ => 0) 0)) 35)
  have f1 := k1.out.fresh
  have tok1 : True := trivial
  clear k0 hb1 k1
  go_wp2_with (first | (have _t := tok1; clear tok1; refine store_row (by rfl) 35 _ _ (by rfl) (w1.heap.size) (vls 178 (clw (gcG c 8 8) t)) (vls 178 (clw (fun _ => 0) 0)) (by rfl) (by rfl) (kN.out) (by rw [vls_size]; exact info_col) (by simp) (vls_one (clw_one _ _)) (by omega) f1 ?_; intro w2 k2; replace k2 := hid (k2); clear kN))
  refine (HS.out _ (w1.heap.size) (k2.out.v in0)).mono ?_
  rintro e w3 ⟨rfl, hb3⟩
  have k3 := hid (k2.out.stay hb3)
  have l3 : w1.heap.size < w3.heap.size := k3.out.lt in0
  have kM := hid (k3.out.push (vls 178 (clw (fun _ => 0) 0)) 35)
  have f3 := k3.out.fresh
  have tok1 : True := trivial
  clear k2 hb3 k3
  go_wp2_with (first | (have _t := tok1; clear tok1; refine store_row (by rfl) 35 _ _ (by rfl) (w3.heap.size) (vls 178 (clw (setW (gcG c 8 8)) t)) (vls 178 (clw (fun _ => 0) 0)) (by rfl) (by rfl) (kM.out) (by rw [vls_size]; exact info_col) (by simp) (vls_one (clw_one _ _)) (by omega) f3 ?_; intro w4 k4; replace k4 := hid (k4); have c177 := (k4.out.v in0).ct; clear kM; have tok2 : True := trivial) | (have _t := tok2; clear tok2; refine store_one (by rfl) 2 _ _ (by rfl) (by kernel_rfl) (w3.heap.size) 177 (.int .i64 (t + 1)) (by rfl) (by rfl) rfl rfl k4.out (by omega) (by omega) f3 ?_; intro w5 k5; replace k5 := hid (k5.ext (fun i _ => clw_tick (setW (gcG c 8 8)) t (t + 1) i)); clear k4 c177))
  refine (HF.out _ (w3.heap.size) (k5.out.v in0)).mono ?_
  rintro e w6 ⟨rfl, hb6⟩
  have k6 := hid (k5.out.stay hb6)
  have tok1 : True := trivial
  clear k5 hb6
  go_wp2_with (first | (have _t := tok1; clear tok1; refine store_row (by rfl) 35 _ _ (by rfl) (w.heap.size) (vls 178 (clw (setW (gcG c 8 8)) (t + 1))) (vls 178 (clw (fun _ => 0) 0)) (by rfl) (by rfl) (k6.out.up2) (by rw [vls_size]; exact info_col) (by simp) (vls_one (clw_one _ _)) (by omega) (neC (by omega) (neC (by omega) (neC (by omega) ne0))) ?_; intro w7 k7; replace k7 := hid (k7); clear k6))
  exact bodyPost_ret (results_row_tmp rfl _ _ (w.heap.size) 35 (vls 178 (clw (setW (gcG c 8 8)) (t + 1))) (0, 0) _ rfl (k7.out.at (x := (w.heap.size, vls 178 (clw (setW (gcG c 8 8)) (t + 1)), 35)) in0) Tryz.underlying35 rfl (by rw [vls_size]; exact info_col)) rfl ⟨rfl, k7.out.1⟩

theorem sTick_t (c : Nat → Nat) (t : Int) (hb : ∀ i, i < 177 → c i < 4294967296) (h : ColOk c t) (hk : tickOk c t) (w : World) (g : Nat) (T : TypeId) (hg : vAt w g 178 (clw c t) T) :
    Calls Tryz.prog 22 #[.pointer (some ⟨g, 0, none⟩)] w fun e w' => e = .returned (.tuple #[.agg (vls 178 (clw (tickW c) (t + 1))), .int .i64 0]) ∧ Below w.heap.size w w' :=
  sTick_D c t hb h hk.1 hk.2.1 hk.2.2 w g T hg

theorem sTick_f (c : Nat → Nat) (t : Int) (hb : ∀ i, i < 177 → c i < 4294967296) (h : ColOk c t) (hk : ¬ tickOk c t) (w : World) (g : Nat) (T : TypeId) (hg : vAt w g 178 (clw c t) T) :
    Calls Tryz.prog 22 #[.pointer (some ⟨g, 0, none⟩)] w fun e w' => e = .returned (.tuple #[.agg (vls 178 (clw (fun _ => 0) 0)), .int .i64 4]) ∧ Below w.heap.size w w' := by
  by_cases h1 : ∀ j, j < 8 → okCel c j
  · by_cases h2 : ColOk (setW (gcG c 8 8)) t
    · exact sTick_C c t hb h h1 h2 (fun h3 => hk ⟨h1, h2, h3⟩) w g T hg
    · exact sTick_B c t hb h h1 h2 w g T hg
  · exact sTick_A c t hb h h1 w g T hg

/-- A column, and the code that came with it. -/
structure TSt where
  c : Nat → Nat
  t : Int
  n : Int

noncomputable def tNext (s : TSt) : TSt := @ite TSt (tickOk s.c s.t) (Classical.propDecidable _) ⟨tickW s.c, s.t + 1, 0⟩ ⟨fun _ => 0, 0, 4⟩

theorem tNext_t {s : TSt} (h : tickOk s.c s.t) : tNext s = ⟨tickW s.c, s.t + 1, 0⟩ := if_pos h

theorem tNext_f {s : TSt} (h : ¬ tickOk s.c s.t) : tNext s = ⟨fun _ => 0, 0, 4⟩ := if_neg h

noncomputable def tSt (s : TSt) : Nat → TSt
  | 0 => s
  | k + 1 => tNext (tSt s k)

structure TVal (s : TSt) : Prop where
  ok : ColOk s.c s.t
  lt : ∀ i, i < 177 → s.c i < 4294967296

theorem col_zero : ColOk (fun _ => 0) 0 := ⟨fun _ _ _ _ => (by decide : amtB 0 = true), fun _ _ => (by decide : airB 0 0 = true), (by decide : amtB 0 = true), by decide, by decide⟩

theorem tickW_lt {c : Nat → Nat} {t : Int} (h : ColOk c t) (hb : ∀ i, i < 177 → c i < 4294967296) (hk : tickOk c t) (i : Nat) (hi : i < 177) : tickW c i < 4294967296 := setW_lt (gcG_ok h hb hk.1) (gcG_lt h hb hk.1) i hi

theorem TVal.next {s : TSt} (h : TVal s) : TVal (tNext s) := by
  by_cases hk : tickOk s.c s.t
  · rw [tNext_t hk]
    exact ⟨hk.2.2, tickW_lt h.ok h.lt hk⟩
  · rw [tNext_f hk]
    exact ⟨col_zero, fun _ _ => (by decide : (0 : Nat) < 4294967296)⟩

theorem TVal.at {s : TSt} (h : TVal s) : ∀ k, TVal (tSt s k)
  | 0 => h
  | k + 1 => (h.at k).next

theorem iTickS (s : TSt) (h : TVal s) (w : World) :
    Calls Tryz.prog 9 #[.agg (vls 178 (clw s.c s.t))] w fun e w' => e = .returned (.tuple #[.agg (vls 178 (clw (tNext s).c (tNext s).t)), .int .i64 (tNext s).n]) ∧ Below w.heap.size w w' := by
  by_cases hk : tickOk s.c s.t
  · rw [tNext_t hk]
    exact iTick_t s.c s.t h.lt h.ok hk w
  · rw [tNext_f hk]
    exact iTick_f s.c s.t h.lt h.ok hk w

theorem sTickS (s : TSt) (h : TVal s) (w : World) (g : Nat) (T : TypeId) (hg : vAt w g 178 (clw s.c s.t) T) :
    Calls Tryz.prog 22 #[.pointer (some ⟨g, 0, none⟩)] w fun e w' => e = .returned (.tuple #[.agg (vls 178 (clw (tNext s).c (tNext s).t)), .int .i64 (tNext s).n]) ∧ Below w.heap.size w w' := by
  by_cases hk : tickOk s.c s.t
  · rw [tNext_t hk]
    exact sTick_t s.c s.t h.lt h.ok hk w g T hg
  · rw [tNext_f hk]
    exact sTick_f s.c s.t h.lt h.ok hk w g T hg

theorem iTickK (s : TSt) (h : TVal s) (k : Nat) (w : World) :
    Calls Tryz.prog 9 #[.agg (vls 178 (clw (tSt s k).c (tSt s k).t))] w fun e w' => e = .returned (.tuple #[.agg (vls 178 (clw (tSt s (k + 1)).c (tSt s (k + 1)).t)), .int .i64 (tSt s (k + 1)).n]) ∧ Below w.heap.size w w' := iTickS (tSt s k) (h.at k) w

theorem sTickK (s : TSt) (h : TVal s) (k : Nat) (w : World) (g : Nat) (T : TypeId) (hg : vAt w g 178 (clw (tSt s k).c (tSt s k).t) T) :
    Calls Tryz.prog 22 #[.pointer (some ⟨g, 0, none⟩)] w fun e w' => e = .returned (.tuple #[.agg (vls 178 (clw (tSt s (k + 1)).c (tSt s (k + 1)).t)), .int .i64 (tSt s (k + 1)).n]) ∧ Below w.heap.size w w' := sTickS (tSt s k) (h.at k) w g T hg

/-- What the iterator hands on. -/
noncomputable def encT (s : TSt) (i : Nat) : Array Value := #[.agg (vls 178 (clw (tSt s (i + 1)).c (tSt s (i + 1)).t)), .int .i64 (tSt s (i + 1)).n]

set_option maxRecDepth 100000 in
set_option maxHeartbeats 1000000 in
theorem tTicks_in (m l mr : Nat) (s : TSt) (hs : TVal s) (N : Nat) (hN : N ≤ 1048576) (gs gm : Nat) (Y : Nat → Prop)
    (J Jx : Nat → World → Prop) (W : World) (hW : Kept W [(gs, vls 178 (clw (tSt s 0).c (tSt s 0).t), 35), (gm, #[.int .i64 (N : Int)], 2)] W) (hmr : mr < W.heap.size) (hY0 : ∀ k, Y k → k < W.heap.size) (hYb : ∀ x ∈ [(gs, vls 178 (clw (tSt s 0).c (tSt s 0).t), 35), (gm, #[.int .i64 (N : Int)], 2)], ¬ Y x.1)
    (hJ : ∀ i V V', J i V → Keeps (RowK mr W.heap.size) V V' → J i V') (hJx : ∀ i V V', Jx i V → Keeps (RowK mr W.heap.size) V V' → Jx i V')
    (hY : ∀ i V, i < N → J i V → YieldAt Fence.wide (m - 1) Tryz.prog l (encT s i) V fun e V' => (e = .returned (.bool true) ∧ J (i + 1) V' ∧ Keeps Y V V') ∨ (e = .returned (.bool false) ∧ Jx (i + 1) V'))
    (h0 : J 0 W) :
    CallsIn Fence.wide m Tryz.prog 63 #[.func (.yield l) #[] #[], .pointer (some ⟨gs, 0, none⟩), .pointer (some ⟨gm, 0, none⟩)] W fun e W' =>
      ((∃ v, e = .returned v) ∧ J N W') ∨ ((∃ v, e = .returned v) ∧ ∃ i, i ≤ N ∧ Jx i W') := by
  refine callsIn_wide.2 ?_
  have HW := hid hW
  have kz := hid (hW.push (vls 178 (clw (fun _ => 0) 0)) 35)
  have ls : gs < W.heap.size := hW.lt (x := (gs, vls 178 (clw (tSt s 0).c (tSt s 0).t), 35)) in0
  have lm : gm < W.heap.size := hW.lt (x := (gm, #[.int .i64 (N : Int)], 2)) in1
  have HY := hid hY
  have HJ := hid hJ
  have HJX := hid hJx
  have HS := hid hs
  have HYB := hid hYb
  have HY0 := hid hY0
  have HMR := hid hmr
  have H0 := hid h0
  clear hW hY hJ hJx hs hYb hY0 h0 hmr
  go_enter Tryz.func63, Tryz.ntmps63
  have tok1 : True := trivial
  go_wp2_with (first
    | (have _t := tok1; clear tok1; refine wpList_load_row (by rfl) 35 _ (by rfl) gs (by rfl) 35 (vls 178 (clw (tSt s 0).c (tSt s 0).t)) (0, 0) _ (HW.out.at (x := (gs, vls 178 (clw (tSt s 0).c (tSt s 0).t), 35)) in0) Tryz.underlying35 (by rfl) (by rw [vls_size]; exact info_col) ?_; have tok2 : True := trivial)
    | (have _t := tok2; clear tok2; refine store_row (by rfl) 35 _ _ (by rfl) (W.heap.size) (vls 178 (clw (tSt s 0).c (tSt s 0).t)) (vls 178 (clw (fun _ => 0) 0)) (by rfl) (by rfl) kz.out (by rw [vls_size]; exact info_col) (by simp) (vls_one (clw_one _ _)) (Nat.le_refl _) (neC (by omega) (neC (by omega) ne0)) ?_; intro w1 kx; have dm : w1.cell? ⟨gm, 0, none⟩ = some (.int .i64 (N : Int)) := kx.c in2; have HX := hid (HK.of (X := fun _ => True) kx); have J1 := hid (HJ.out 0 _ _ H0.out (Keeps.of kx.1)); clear kx kz))
  go_loopw [8] (fun i wr => ∃ k : Nat, k ≤ N ∧ i = .int .i64 k ∧ J k wr ∧ Hid (HK (fun _ => True) W [(W.heap.size, vls 178 (clw (tSt s k).c (tSt s k).t), 35), (gs, vls 178 (clw (tSt s 0).c (tSt s 0).t), 35), (gm, #[.int .i64 (N : Int)], 2)] wr)) (fun i _ => N - (intOf i).toNat)
  case atStart => exact ⟨0, Nat.zero_le _, rfl, J1.out, HX⟩
  case round =>
    clear HX J1 dm HW H0
    obtain ⟨k, hk, rfl, hj, hx⟩ := hrel
    have HJk := hid hj
    clear hj
    by_cases hlt : k < N
    · have HL := hid hlt
      have hkN : (k : Int) < (N : Int) := by omega
      have HC := hid (fun w2 => iTickK s HS.out k w2)
      clear hlt hk
      refine (wpIn_wide (n := m)).1 ?_
      have tok0 : True := trivial
      gi_wp2_with (first
        | (have _t := tok0; clear tok0; refine loadRowIn (by rfl) 35 _ (by rfl) (W.heap.size) (by rfl) (vls 178 (clw (tSt s k).c (tSt s k).t)) 35 _ (hx.out.at (x := (W.heap.size, vls 178 (clw (tSt s k).c (tSt s k).t), 35)) in0) Tryz.underlying35 (by rfl) (by rw [vls_size]; exact info_col) ?_; have tok1 : True := trivial)
        | (have _t := tok1; clear tok1; refine ⟨trivial, (fun h => by cases h), (callsIn_wide.2 (HC.out _)).mono ?_⟩; rintro e w2 ⟨rfl, hb2⟩; have X2 := hid (hx.out.left (Keeps.of (X := fun _ => False) hb2) (fun _ _ h => h)); have J2 := hid (HJ.out _ _ _ HJk.out (Keeps.of hb2)); clear hb2; have tok2 : True := trivial)
        | (have _t := tok2; clear tok2; refine storeL 35 (by rfl) 35 _ _ (by rfl) (W.heap.size) (vls 178 (clw (tSt s (k + 1)).c (tSt s (k + 1)).t)) (vls 178 (clw (tSt s k).c (tSt s k).t)) (by rfl) (by rfl) (X2.out.at (x := (W.heap.size, vls 178 (clw (tSt s k).c (tSt s k).t), 35)) in0) (by rw [vls_size]; exact info_col) (by simp) (vls_one (clw_one _ _)) (fun w3 e3 => ?_); have X3 := hid (e3 ▸ X2.out.setT (neC (by omega) (neC (by omega) ne0)) (vls 178 (clw (tSt s (k + 1)).c (tSt s (k + 1)).t))); have J3 := hid (e3 ▸ HJ.out _ _ _ J2.out ((keeps_row (W.heap.size) (vls 178 (clw (tSt s (k + 1)).c (tSt s (k + 1)).t)) w2).mono fun _ _ h => Or.inr (h ▸ Nat.le_refl _))); clear e3 X2 J2; have tok3 : True := trivial)
        | (have _t := tok3; clear tok3; refine loadRowIn (by rfl) 35 _ (by rfl) (W.heap.size) (by rfl) (vls 178 (clw (tSt s (k + 1)).c (tSt s (k + 1)).t)) 35 _ (X3.out.at (x := (W.heap.size, vls 178 (clw (tSt s (k + 1)).c (tSt s (k + 1)).t), 35)) in0) Tryz.underlying35 (by rfl) (by rw [vls_size]; exact info_col) ?_; have tok4 : True := trivial)
        | (have _t := tok4; clear tok4; obtain ⟨fn, tmps, assign, body, hy, hR⟩ := HY.out k w3 HL.out J3.out; have hy := hid (show (Instr.yield l #[.agg (vls 178 (clw (tSt s (k + 1)).c (tSt s (k + 1)).t)), .int .i64 (tSt s (k + 1)).n]).run Tryz.prog w3 = _ from hy); refine yieldL (l := l) (fn := fn) (tmps := tmps) (assign := assign) (body := body) (by rfl) (by intro c hc; cases hc) (by have hy2 := hy.out; unfold execOp; go_simp) (fun _ _ => True.intro) (fun h => by cases h) hR (fun e W3 hr => ?_); clear hy hR))
      have HKk' := hid (show k + 1 ≤ N from HL.out)
      rcases hr with ⟨rfl, hj, hkY⟩ | ⟨rfl, hjx⟩
      · refine ⟨.bool true, rfl, ?_⟩
        have X5 := hid (X3.out.left hkY (farC (fun h => by have := HY0.out _ h; omega) HYB.out))
        have J5 := hid hj
        clear hkY hj X3 J3
        gi_wp2
        go_roundw
        case rel => exact ⟨k + 1, HKk'.out, by go_num, J5.out, X5⟩
        case measure => have := HKk'.out; simp [intOf]; omega
      · refine ⟨.bool false, rfl, ?_⟩
        have J5 := hid hjx
        clear hjx
        gi_wp2
        refine bodyPost_ret (results_none rfl _ _ _) rfl ?_
        exact .inr ⟨⟨_, rfl⟩, k + 1, HKk'.out, J5.out⟩
    · have ek : k = N := by omega
      have hkN : ¬ (k : Int) < (N : Int) := by omega
      have HJN := hid (ek ▸ HJk.out)
      clear hlt hk ek
      go_wp2
      exact ⟨rfl, _, results_none rfl _ _ _, .inl ⟨⟨_, rfl⟩, HJN.out⟩⟩

theorem iTicksOf (s : TSt) (n : Int) (w : World) :
    Calls Tryz.prog 34 #[.agg (vls 178 (clw s.c s.t)), .int .i64 n] w fun e w' => e = .returned (.func (.func 63) #[] #[.pointer (some ⟨w.heap.size, 0, none⟩), .pointer (some ⟨w.heap.size + 1, 0, none⟩)]) ∧ Kept w [(w.heap.size + 1, #[.int .i64 n], 2), (w.heap.size, vls 178 (clw s.c s.t), 35)] w' := by
  have hmf : ∀ (fn : Fn) (first cap : Array Value) (w : World), (Instr.makeFunc fn first cap).run Tryz.prog w = .ok (.func fn first cap) w := fun _ _ _ _ => rfl
  have k0 : Hid (Kept w [(w.heap.size + 1, #[.int .i64 n], 2), (w.heap.size, vls 178 (clw s.c s.t), 35)] ((w.alloc (.cells (vls 178 (clw s.c s.t)) 35)).alloc (.cells #[.int .i64 n] 2))) := by
    have := ((Kept.nil w).push (vls 178 (clw s.c s.t)) 35).push #[.int .i64 n] 2
    simp only [World.size_alloc] at this
    exact hid this
  go_enter Tryz.func34, Tryz.ntmps34
  go_wp2
  go_ret
  exact ⟨rfl, k0.out⟩

set_option maxRecDepth 100000 in
set_option maxHeartbeats 1000000 in
theorem iTicks_bad (s : TSt) (hb : ∀ i, i < 177 → s.c i < 4294967296) (h : ¬ ColOk s.c s.t) (m : Int) (w : World) :
    Calls Tryz.prog 12 #[.agg (vls 178 (clw s.c s.t)), .int .i64 m] w fun e w' => e = .returned (.tuple #[.agg (vls 178 (clw (fun _ => 0) 0)), .int .i64 1]) ∧ Below w.heap.size w w' := by
  have k0 : Hid (Kept w [(w.heap.size + 1 + 1, #[.int .i64 0], 2), (w.heap.size + 1, vls 178 (clw (fun _ => 0) 0), 35), (w.heap.size, vls 178 (clw s.c s.t), 35)] (((w.alloc (.cells (vls 178 (clw s.c s.t)) 35)).alloc (.cells (vls 178 (clw (fun _ => 0) 0)) 35)).alloc (.cells #[.int .i64 0] 2))) := by
    have := (((Kept.nil w).push (vls 178 (clw s.c s.t)) 35).push (vls 178 (clw (fun _ => 0) 0)) 35).push #[.int .i64 0] 2
    simp only [World.size_alloc] at this
    exact hid this
  have HB := hid hb
  have HQ := hid h
  clear hb h
  go_enter Tryz.func12, Tryz.ntmps12
  have tok1 : True := trivial
  go_wp2_with (first | (have _t := tok1; clear tok1; refine wpList_load_row (by rfl) 35 _ (by rfl) (w.heap.size) (by rfl) 35 (vls 178 (clw s.c s.t)) (0, 0) _ (k0.out.at (x := (w.heap.size, vls 178 (clw s.c s.t), 35)) in2) Tryz.underlying35 (by rfl) (by rw [vls_size]; exact info_col) ?_))
  refine (iValidColumn s.c s.t HB.out false (col_no HQ.out) _).mono ?_
  rintro e w1 ⟨rfl, hb1⟩
  have k1 := hid (k0.out.stay hb1)
  have tok1 : True := trivial
  clear k0 hb1
  go_wp2_with (first | (have _t := tok1; clear tok1; refine store_rowE (by rfl) 35 _ _ (by rfl) (w.heap.size + 1) (vls 178 (clw (fun _ => 0) 0)) (vls 178 (clw (fun _ => 0) 0)) (by rfl) (by rfl) (k1.out.at (x := (w.heap.size + 1, vls 178 (clw (fun _ => 0) 0), 35)) in1) (by rw [vls_size]; exact info_col) (by simp) (vls_one (clw_one _ _)) (fun w2 e2 => ?_); have k2 := hid (e2 ▸ (k1.out.swap.set (by omega) (neC (by omega) (neC (by omega) ne0)) (vls 178 (clw (fun _ => 0) 0))).swap); clear e2; have tok2 : True := trivial) | (have _t := tok2; clear tok2; refine store_cellE 2 (by rfl) 2 _ _ (by rfl) (w.heap.size + 1 + 1) (.int .i64 1) (.int .i64 0) (by rfl) (by rfl) (k2.out.at (x := (w.heap.size + 1 + 1, #[.int .i64 0], 2)) in0) (by kernel_rfl) (by rfl) (by rfl) (fun w3 e2 => ?_); have k3 := hid (e2 ▸ (k2.out.cell1 (by omega) (neC (by omega) (neC (by omega) ne0)) (.int .i64 1))); clear e2))
  have e2 : (loadVar 35 ⟨w.heap.size + 1, 0, none⟩).run Tryz.prog w3 = .ok (.agg (vls 178 (clw (fun _ => 0) 0))) w3 := run_loadVar_row _ (w.heap.size + 1) 35 35 (vls 178 (clw (fun _ => 0) 0)) (0, 0) _ (k3.out.at (x := (w.heap.size + 1, vls 178 (clw (fun _ => 0) 0), 35)) in1) Tryz.underlying35 rfl (by rw [vls_size]; exact info_col)
  have e3 : (loadVar 2 ⟨w.heap.size + 1 + 1, 0, none⟩).run Tryz.prog w3 = .ok (.int .i64 1) w3 := by
    have c7 : World.cell? w3 ⟨w.heap.size + 1 + 1, 0, none⟩ = some (.int .i64 1) := k3.out.c in0
    clear e2 k3
    simp [go_sem, c7]
  refine ⟨rfl, .tuple #[.agg (vls 178 (clw (fun _ => 0) 0)), .int .i64 1], ?_, rfl, k3.out.1⟩
  simp [results, Tryz.results12, asAddr, e2, e3, Sem.run_bind, Result.andThen_ok, Act.put]

set_option maxRecDepth 100000 in
set_option maxHeartbeats 1000000 in
theorem iTicks_range (s : TSt) (hs : TVal s) (m : Int) (hm : m < 0 ∨ 200 < m) (w : World) :
    Calls Tryz.prog 12 #[.agg (vls 178 (clw s.c s.t)), .int .i64 m] w fun e w' => e = .returned (.tuple #[.agg (vls 178 (clw (fun _ => 0) 0)), .int .i64 2]) ∧ Below w.heap.size w w' := by
  have k0 : Hid (Kept w [(w.heap.size + 1 + 1, #[.int .i64 0], 2), (w.heap.size + 1, vls 178 (clw (fun _ => 0) 0), 35), (w.heap.size, vls 178 (clw s.c s.t), 35)] (((w.alloc (.cells (vls 178 (clw s.c s.t)) 35)).alloc (.cells (vls 178 (clw (fun _ => 0) 0)) 35)).alloc (.cells #[.int .i64 0] 2))) := by
    have := (((Kept.nil w).push (vls 178 (clw s.c s.t)) 35).push (vls 178 (clw (fun _ => 0) 0)) 35).push #[.int .i64 0] 2
    simp only [World.size_alloc] at this
    exact hid this
  have HS := hid hs
  clear hs
  go_enter Tryz.func12, Tryz.ntmps12
  have tok1 : True := trivial
  go_wp2_with (first | (have _t := tok1; clear tok1; refine wpList_load_row (by rfl) 35 _ (by rfl) (w.heap.size) (by rfl) 35 (vls 178 (clw s.c s.t)) (0, 0) _ (k0.out.at (x := (w.heap.size, vls 178 (clw s.c s.t), 35)) in2) Tryz.underlying35 (by rfl) (by rw [vls_size]; exact info_col) ?_))
  refine (iValidColumn s.c s.t HS.out.lt true (col_ok HS.out.ok) _).mono ?_
  rintro e w1 ⟨rfl, hb1⟩
  have k1 := hid (k0.out.stay hb1)
  clear k0 hb1
  rcases hm with hm | hm
  · have tok1 : True := trivial
    go_wp2_with (first | (have _t := tok1; clear tok1; refine store_rowE (by rfl) 35 _ _ (by rfl) (w.heap.size + 1) (vls 178 (clw (fun _ => 0) 0)) (vls 178 (clw (fun _ => 0) 0)) (by rfl) (by rfl) (k1.out.at (x := (w.heap.size + 1, vls 178 (clw (fun _ => 0) 0), 35)) in1) (by rw [vls_size]; exact info_col) (by simp) (vls_one (clw_one _ _)) (fun w2 e2 => ?_); have k2 := hid (e2 ▸ (k1.out.swap.set (by omega) (neC (by omega) (neC (by omega) ne0)) (vls 178 (clw (fun _ => 0) 0))).swap); clear e2; have tok2 : True := trivial) | (have _t := tok2; clear tok2; refine store_cellE 2 (by rfl) 2 _ _ (by rfl) (w.heap.size + 1 + 1) (.int .i64 2) (.int .i64 0) (by rfl) (by rfl) (k2.out.at (x := (w.heap.size + 1 + 1, #[.int .i64 0], 2)) in0) (by kernel_rfl) (by rfl) (by rfl) (fun w3 e2 => ?_); have k3 := hid (e2 ▸ (k2.out.cell1 (by omega) (neC (by omega) (neC (by omega) ne0)) (.int .i64 2))); clear e2))
    have e2 : (loadVar 35 ⟨w.heap.size + 1, 0, none⟩).run Tryz.prog w3 = .ok (.agg (vls 178 (clw (fun _ => 0) 0))) w3 := run_loadVar_row _ (w.heap.size + 1) 35 35 (vls 178 (clw (fun _ => 0) 0)) (0, 0) _ (k3.out.at (x := (w.heap.size + 1, vls 178 (clw (fun _ => 0) 0), 35)) in1) Tryz.underlying35 rfl (by rw [vls_size]; exact info_col)
    have e3 : (loadVar 2 ⟨w.heap.size + 1 + 1, 0, none⟩).run Tryz.prog w3 = .ok (.int .i64 2) w3 := by
      have c7 : World.cell? w3 ⟨w.heap.size + 1 + 1, 0, none⟩ = some (.int .i64 2) := k3.out.c in0
      clear e2 k3
      simp [go_sem, c7]
    refine ⟨rfl, .tuple #[.agg (vls 178 (clw (fun _ => 0) 0)), .int .i64 2], ?_, rfl, k3.out.1⟩
    simp [results, Tryz.results12, asAddr, e2, e3, Sem.run_bind, Result.andThen_ok, Act.put]
  · have hm0 : ¬ m < 0 := by omega
    have tok1 : True := trivial
    go_wp2_with (first | (have _t := tok1; clear tok1; refine store_rowE (by rfl) 35 _ _ (by rfl) (w.heap.size + 1) (vls 178 (clw (fun _ => 0) 0)) (vls 178 (clw (fun _ => 0) 0)) (by rfl) (by rfl) (k1.out.at (x := (w.heap.size + 1, vls 178 (clw (fun _ => 0) 0), 35)) in1) (by rw [vls_size]; exact info_col) (by simp) (vls_one (clw_one _ _)) (fun w2 e2 => ?_); have k2 := hid (e2 ▸ (k1.out.swap.set (by omega) (neC (by omega) (neC (by omega) ne0)) (vls 178 (clw (fun _ => 0) 0))).swap); clear e2; have tok2 : True := trivial) | (have _t := tok2; clear tok2; refine store_cellE 2 (by rfl) 2 _ _ (by rfl) (w.heap.size + 1 + 1) (.int .i64 2) (.int .i64 0) (by rfl) (by rfl) (k2.out.at (x := (w.heap.size + 1 + 1, #[.int .i64 0], 2)) in0) (by kernel_rfl) (by rfl) (by rfl) (fun w3 e2 => ?_); have k3 := hid (e2 ▸ (k2.out.cell1 (by omega) (neC (by omega) (neC (by omega) ne0)) (.int .i64 2))); clear e2))
    have e2 : (loadVar 35 ⟨w.heap.size + 1, 0, none⟩).run Tryz.prog w3 = .ok (.agg (vls 178 (clw (fun _ => 0) 0))) w3 := run_loadVar_row _ (w.heap.size + 1) 35 35 (vls 178 (clw (fun _ => 0) 0)) (0, 0) _ (k3.out.at (x := (w.heap.size + 1, vls 178 (clw (fun _ => 0) 0), 35)) in1) Tryz.underlying35 rfl (by rw [vls_size]; exact info_col)
    have e3 : (loadVar 2 ⟨w.heap.size + 1 + 1, 0, none⟩).run Tryz.prog w3 = .ok (.int .i64 2) w3 := by
      have c7 : World.cell? w3 ⟨w.heap.size + 1 + 1, 0, none⟩ = some (.int .i64 2) := k3.out.c in0
      clear e2 k3
      simp [go_sem, c7]
    refine ⟨rfl, .tuple #[.agg (vls 178 (clw (fun _ => 0) 0)), .int .i64 2], ?_, rfl, k3.out.1⟩
    simp [results, Tryz.results12, asAddr, e2, e3, Sem.run_bind, Result.andThen_ok, Act.put]

set_option maxRecDepth 100000 in
set_option maxHeartbeats 1000000 in
theorem iTicks_ok (s : TSt) (hs : TVal s) (h0 : s.n = 0) (N : Nat) (hN : N ≤ 200) (r : Nat → Nat) (tt n : Int) (ho1 : ∀ D : Nat, D < N → (∀ j, j ≤ D → (tSt s j).n = 0) → (tSt s (D + 1)).n ≠ 0 → r = (fun _ => 0) ∧ tt = 0 ∧ n = (tSt s (D + 1)).n) (ho2 : (∀ j, j ≤ N → (tSt s j).n = 0) → r = (tSt s N).c ∧ tt = (tSt s N).t ∧ n = 0) (w : World) :
    Calls Tryz.prog 12 #[.agg (vls 178 (clw s.c s.t)), .int .i64 (N : Int)] w fun e w' => e = .returned (.tuple #[.agg (vls 178 (clw r tt)), .int .i64 n]) ∧ Below w.heap.size w w' := by
  have k0 : Hid (Kept w [(w.heap.size + 1 + 1, #[.int .i64 0], 2), (w.heap.size + 1, vls 178 (clw (fun _ => 0) 0), 35), (w.heap.size, vls 178 (clw s.c s.t), 35)] (((w.alloc (.cells (vls 178 (clw s.c s.t)) 35)).alloc (.cells (vls 178 (clw (fun _ => 0) 0)) 35)).alloc (.cells #[.int .i64 0] 2))) := by
    have := (((Kept.nil w).push (vls 178 (clw s.c s.t)) 35).push (vls 178 (clw (fun _ => 0) 0)) 35).push #[.int .i64 0] 2
    simp only [World.size_alloc] at this
    exact hid this
  have HS := hid hs
  have HI0 := hid h0
  have HN := hid hN
  have HO1 := hid ho1
  have HO2 := hid ho2
  have hn0 : ¬ (N : Int) < 0 := by omega
  have hn1 : ¬ 200 < (N : Int) := by omega
  clear hs h0 ho1 ho2 hN
  refine (callsIn_wide (n := 9)).1 ?_
  refine callsIn_of_wp_marks Tryz.func12 rfl trivial ?_ rfl
  refine wpIn_wide.2 ?_
  simp only [Tryz.ntmps12, List.size_toArray, List.length_cons, List.length_nil, Nat.reduceAdd, Nat.reduceSub, Array.replicate_succ, Array.replicate_zero, List.push_toArray, List.append_toArray, List.nil_append, List.cons_append]
  have tok1 : True := trivial
  go_wp2_with (first | (have _t := tok1; clear tok1; refine wpList_load_row (by rfl) 35 _ (by rfl) (w.heap.size) (by rfl) 35 (vls 178 (clw s.c s.t)) (0, 0) _ (k0.out.at (x := (w.heap.size, vls 178 (clw s.c s.t), 35)) in2) Tryz.underlying35 (by rfl) (by rw [vls_size]; exact info_col) ?_))
  refine (iValidColumn s.c s.t HS.out.lt true (col_ok HS.out.ok) _).mono ?_
  rintro e w1 ⟨rfl, hb1⟩
  have k1 := hid (k0.out.stay hb1)
  have l1 : w.heap.size + 1 + 1 < w1.heap.size := k1.out.lt in0
  have kz := hid (k1.out.push (vls 178 (clw (fun _ => 0) 0)) 35)
  have tok1 : True := trivial
  clear k0 hb1
  go_wp2_with (first | (have _t := tok1; clear tok1; refine wpList_load_row (by rfl) 35 _ (by rfl) (w.heap.size) (by rfl) 35 (vls 178 (clw s.c s.t)) (0, 0) _ (k1.out.at (x := (w.heap.size, vls 178 (clw s.c s.t), 35)) in2) Tryz.underlying35 (by rfl) (by rw [vls_size]; exact info_col) ?_; have tok2 : True := trivial) | (have _t := tok2; clear tok2; refine store_rowE (by rfl) 35 _ _ (by rfl) (w1.heap.size) (vls 178 (clw s.c s.t)) (vls 178 (clw (fun _ => 0) 0)) (by rfl) (by rfl) (kz.out.at (x := (w1.heap.size, vls 178 (clw (fun _ => 0) 0), 35)) in0) (by rw [vls_size]; exact info_col) (by simp) (vls_one (clw_one _ _)) (fun w3 e2 => ?_); have k3 := hid (e2 ▸ (kz.out.set (by omega) (neC (by omega) (neC (by omega) (neC (by omega) ne0))) (vls 178 (clw s.c s.t)))); clear kz; clear e2; have tok3 : True := trivial) | (have _t := tok3; clear tok3; refine wpList_load_row (by rfl) 35 _ (by rfl) (w.heap.size) (by rfl) 35 (vls 178 (clw s.c s.t)) (0, 0) _ (k3.out.at (x := (w.heap.size, vls 178 (clw s.c s.t), 35)) in3) Tryz.underlying35 (by rfl) (by rw [vls_size]; exact info_col) ?_))
  refine (iTicksOf s (N : Int) _).mono ?_
  rintro e w5 ⟨rfl, kL⟩
  have k5 := hid (k3.out.stay kL.1)
  have H6 : Hid (w.heap.size + 1 + 1 < w1.heap.size) := hid l1
  have H3 : Hid (w1.heap.size < w3.heap.size) := hid (k3.out.lt in0)
  have H5 : Hid (w3.heap.size + 1 < w5.heap.size) := hid (kL.lt in0)
  have kL := hid kL.here
  have HQ2 : Hid (w1.heap.size < w5.heap.size) := hid (k5.out.lt in0)
  clear k3 k1 l1 hn0 hn1
  go_wp2_with fail
  refine (wpIn_wide (n := 9)).1 ?_
  refine range_nums (F := Fence.wide) (n := 9) (gf := 63) (lb := #[.pointer (some ⟨w3.heap.size, 0, none⟩), .pointer (some ⟨w3.heap.size + 1, 0, none⟩)])
    (encs := encT s) (M := N) (mr := w3.heap.size) (E := fun e => ∃ v, e = .returned v) (X := Trio (w1.heap.size) (w.heap.size + 1) (w.heap.size + 1 + 1)) rfl (by decide) (by rfl) trivial (Go.Proofs.enters_of Tryz.func63 (by kernel_rfl) rfl) (fun i => rfl) (by have := H5.out; omega)
    (fun k hk => by have := H6.out; have := H3.out; have := H5.out; unfold Trio at hk; omega)
    ?hit (fun i V => (∀ j, j ≤ i → (tSt s j).n = 0) ∧ Kept w [(w1.heap.size, vls 178 (clw (tSt s i).c (tSt s i).t), 35), (w.heap.size + 1 + 1, #[.int .i64 0], 2), (w.heap.size + 1, vls 178 (clw (fun _ => 0) 0), 35), (w.heap.size, vls 178 (clw s.c s.t), 35)] V) (fun c i V => c = .ret ∧ (∃ D, i = D + 1 ∧ (∀ j, j ≤ D → (tSt s j).n = 0) ∧ (tSt s (D + 1)).n ≠ 0 ∧ Kept w [(w1.heap.size, vls 178 (clw (tSt s D).c (tSt s D).t), 35), (w.heap.size + 1 + 1, #[.int .i64 (tSt s (D + 1)).n], 2), (w.heap.size + 1, vls 178 (clw (fun _ => 0) 0), 35), (w.heap.size, vls 178 (clw s.c s.t), 35)] V)) (fun i b V => ∃ h1, b = { tmps := #[.agg (vls 178 (clw s.c s.t)), .int .i64 (N : Int), .pointer (some ⟨w.heap.size, 0, none⟩), undef, .pointer (some ⟨w.heap.size + 1, 0, none⟩), .pointer (some ⟨w.heap.size + 1 + 1, 0, none⟩), .pointer (some ⟨w1.heap.size, 0, none⟩), .pointer (some ⟨h1, 0, none⟩), .int .i64 (tSt s (i + 1)).n, .agg (vls 178 (clw s.c s.t)), .bool true, .bool false, undef, .int .i64 (N : Int), .bool (decide ((N : Int) < 0)), .bool (decide ((N : Int) < 0)), .int .i64 (N : Int), .bool (decide (200 < (N : Int))), .bool (decide ((N : Int) < 0) || decide (200 < (N : Int))), undef, .agg (vls 178 (clw s.c s.t)), .agg (vls 178 (clw s.c s.t)), .int .i64 (N : Int), .func (.func 63) #[] #[.pointer (some ⟨w3.heap.size, 0, none⟩), .pointer (some ⟨w3.heap.size + 1, 0, none⟩)], .agg (vls 178 (clw (tSt s (i + 1)).c (tSt s (i + 1)).t)), .int .i64 (tSt s (i + 1)).n, undef, undef, undef, undef, undef, undef], defers := [] } ∧ w5.heap.size ≤ h1 ∧ h1 ≠ w5.heap.size + 1 ∧ V.heap[h1]? = some (.cells (vls 178 (clw (tSt s (i + 1)).c (tSt s (i + 1)).t)) 35 (0, 0))) ?hI ?hIx ?hAx ?h0 ?assign ?body ?done ?panic ?out ?stop
  case hit =>
    intro J Jx W hb hz hJ hJx hY h0
    exact tTicks_in (9 - 1) (w5.heap.size + 1) w3.heap.size s HS.out N (by have := HN.out; omega) w3.heap.size (w3.heap.size + 1) (fun k => Trio (w1.heap.size) (w.heap.size + 1) (w.heap.size + 1 + 1) k ∨ k = w5.heap.size + 1) J Jx W ⟨Below.refl _ W, fun x hx => (kL.out.stay hb).2 x (swap2 _ _ x hx)⟩ (by have := H5.out; omega) (fun k hk => by have := H6.out; have := H3.out; have := H5.out; unfold Trio at hk; omega) (fun x hx h => by
      have := H6.out; have := H3.out; have := H5.out
      simp only [List.mem_cons, List.not_mem_nil, or_false] at hx
      unfold Trio at h
      rcases hx with rfl | rfl <;> simp only at h <;> omega) hJ hJx hY h0
  case hI =>
    rintro i V V' ⟨hd, h⟩ k
    have := H6.out
    have := H3.out
    have := H5.out
    exact ⟨hd, h.far k (fun i hi => by unfold RowK at hi; omega) (farC (by unfold RowK; omega) (farC (by unfold RowK; omega) (farC (by unfold RowK; omega) (farC (by unfold RowK; omega) far0))))⟩
  case hIx =>
    rintro c i V V' ⟨hc, D, hd, he, hf, h⟩ k
    have := H6.out
    have := H3.out
    have := H5.out
    exact ⟨hc, D, hd, he, hf, h.far k (fun i hi => by unfold RowK at hi; omega) (farC (by unfold RowK; omega) (farC (by unfold RowK; omega) (farC (by unfold RowK; omega) (farC (by unfold RowK; omega) far0))))⟩
  case hAx =>
    rintro i b V V' ⟨h1, rfl, l1, l2, r1⟩ k
    exact ⟨h1, rfl, l1, l2, k.row r1 (by omega)⟩
  case h0 =>
    refine ⟨fun j hj => ?_, k5.out⟩
    obtain rfl : j = 0 := by omega
    exact HI0.out
  case assign =>
    rintro i V B hi ⟨hI1, hI⟩ hsz hB
    have HI := hid hI
    have HI1 := hid hI1
    have HBX := hid hB
    have hZ := hid hsz
    have kn := hid ((Kept.nil V).push (vls 178 (clw (fun _ => 0) 0)) 35)
    clear hI hI1 hB hsz
    unfold encT
    have tok1 : True := trivial
    gi_wp2_with (first
      | (have _t := tok1; clear tok1; refine storeL 35 (by rfl) 35 _ _ (by rfl) V.heap.size (vls 178 (clw (tSt s (i + 1)).c (tSt s (i + 1)).t)) (vls 178 (clw (fun _ => 0) 0)) (by rfl) (by rfl) (kn.out.at (x := (V.heap.size, vls 178 (clw (fun _ => 0) 0), 35)) in0) (by rw [vls_size]; exact info_col) (by simp) (vls_one (clw_one _ _)) (fun V1 e1 => ?_); have K1 := hid (e1 ▸ kn.out.set (Nat.le_refl _) ne0 (vls 178 (clw (tSt s (i + 1)).c (tSt s (i + 1)).t))); clear e1 kn))
    have h2 := hZ.out
    exact HBX.out _ V1 (Keeps.of K1.out.1) ⟨HI1.out, HI.out.stay K1.out.1⟩ ⟨V.heap.size, rfl, by omega, by omega, K1.out.at (x := (V.heap.size, vls 178 (clw (tSt s (i + 1)).c (tSt s (i + 1)).t), 35)) in0⟩
  case body =>
    rintro i b' V hi ⟨hI1, hI⟩ ⟨h1, rfl, l1, l2, r1⟩
    have kI := hid hI
    have HI1 := hid hI1
    have R1 := hid r1
    have H6b := H6.out
    have HLI := hid hi
    clear hI hI1 l1 l2 r1 hi
    have tok1 : True := trivial
    by_cases hd : (tSt s (i + 1)).n = 0
    · have HD := hid hd
      gi_wp2_with (first
        | (have _t := tok1; clear tok1; refine loadL (by rfl) (.agg (vls 178 (clw (tSt s (i + 1)).c (tSt s (i + 1)).t))) (run_load_rows 35 _ (by rfl) h1 (vls 178 (clw (tSt s (i + 1)).c (tSt s (i + 1)).t)) 35 _ (by rfl) R1.out Tryz.underlying35 (by rfl) (by rw [vls_size]; exact info_col)) _ _ (by rfl) ?_; have tok2 : True := trivial)
        | (have _t := tok2; clear tok2; refine storeL 35 (by rfl) 35 _ _ (by rfl) (w1.heap.size) (vls 178 (clw (tSt s (i + 1)).c (tSt s (i + 1)).t)) (vls 178 (clw (tSt s i).c (tSt s i).t)) (by rfl) (by rfl) (kI.out.at (x := (w1.heap.size, vls 178 (clw (tSt s i).c (tSt s i).t), 35)) in0) (by rw [vls_size]; exact info_col) (by simp) (vls_one (clw_one _ _)) (fun V1 e1 => ?_); have k1 := hid (e1 ▸ kI.out.set (by omega) (neC (by omega) (neC (by omega) (neC (by omega) ne0))) (vls 178 (clw (tSt s (i + 1)).c (tSt s (i + 1)).t))); have X1 := hid (show Keeps (Trio (w1.heap.size) (w.heap.size + 1) (w.heap.size + 1 + 1)) V V1 from e1 ▸ ((keeps_row _ _ _).mono fun _ _ h => Or.inl h)); clear e1))
      refine ⟨X1.out, fun j hj => ?_, k1.out⟩
      by_cases e : j = i + 1
      · rw [e]; exact HD.out
      · exact HI1.out j (by omega)
    · have HD := hid hd
      gi_wp2_with (first
        | (have _t := tok1; clear tok1; refine storeL 35 (by rfl) 35 _ _ (by rfl) (w.heap.size + 1) (vls 178 (clw (fun _ => 0) 0)) (vls 178 (clw (fun _ => 0) 0)) (by rfl) (by rfl) (kI.out.at (x := (w.heap.size + 1, vls 178 (clw (fun _ => 0) 0), 35)) in2) (by rw [vls_size]; exact info_col) (by simp) (vls_one (clw_one _ _)) (fun V1 e1 => ?_); have k1 := hid (e1 ▸ (kI.out.up2.set (by omega) (neC (by omega) (neC (by omega) (neC (by omega) ne0))) (vls 178 (clw (fun _ => 0) 0))).dn2); have X1 := hid (show Keeps (Trio (w1.heap.size) (w.heap.size + 1) (w.heap.size + 1 + 1)) V V1 from e1 ▸ ((keeps_row _ _ _).mono fun _ _ h => Or.inr (Or.inl h))); clear e1; have tok2 : True := trivial)
        | (have _t := tok2; clear tok2; refine storeL1 2 (by rfl) 2 _ _ (by rfl) (w.heap.size + 1 + 1) (.int .i64 (tSt s (i + 1)).n) (.int .i64 0) (by rfl) (by rfl) (k1.out.at (x := (w.heap.size + 1 + 1, #[.int .i64 0], 2)) in1) (by kernel_rfl) (by rfl) (by rfl) (fun V2 e2 => ?_); have k2 := hid (e2 ▸ (k1.out.swap.cell1 (by omega) (neC (by omega) (neC (by omega) (neC (by omega) ne0))) (.int .i64 (tSt s (i + 1)).n)).swap); have X2 := hid (show Keeps (Trio (w1.heap.size) (w.heap.size + 1) (w.heap.size + 1 + 1)) V V2 from X1.out.trans (e2 ▸ Keeps.setCell _ _ (Or.inr (Or.inr rfl)))); clear e2))
      exact ⟨X2.out, rfl, i, rfl, HI1.out, HD.out, k2.out⟩
  case out => rintro ⟨v, hv⟩; cases hv
  case done =>
    rintro v V hE ⟨hI1, hI⟩ hdf
    obtain ⟨hO, hT, hn⟩ := HO2.out hI1
    have HO := hid hO
    have HT := hid hT
    have HE := hid hn
    have k1 := hid hI
    have hD := hid hdf
    have H6b := H6.out
    clear hI hdf hI1 hO hn hE hT
    have tok1 : True := trivial
    go_wp2_with (first | (have _t := tok1; clear tok1; refine wpList_load_row (by rfl) 35 _ (by rfl) (w1.heap.size) (by rfl) 35 (vls 178 (clw (tSt s N).c (tSt s N).t)) (0, 0) _ (k1.out.at (x := (w1.heap.size, vls 178 (clw (tSt s N).c (tSt s N).t), 35)) in0) Tryz.underlying35 (by rfl) (by rw [vls_size]; exact info_col) ?_; have tok2 : True := trivial) | (have _t := tok2; clear tok2; refine store_rowE (by rfl) 35 _ _ (by rfl) (w.heap.size + 1) (vls 178 (clw (tSt s N).c (tSt s N).t)) (vls 178 (clw (fun _ => 0) 0)) (by rfl) (by rfl) (k1.out.at (x := (w.heap.size + 1, vls 178 (clw (fun _ => 0) 0), 35)) in2) (by rw [vls_size]; exact info_col) (by simp) (vls_one (clw_one _ _)) (fun V2 e2 => ?_); have k2 := hid (e2 ▸ (k1.out.up2.set (by omega) (neC (by omega) (neC (by omega) (neC (by omega) ne0))) (vls 178 (clw (tSt s N).c (tSt s N).t))).dn2); have d2 : Hid (V2.heap[w5.heap.size]? = some (.deferred (some []))) := hid ((show Keeps (fun k => k = w.heap.size + 1) V V2 from e2 ▸ keeps_row _ _ _).row hD.out (by have := HQ2.out; omega)); clear e2; have tok3 : True := trivial) | (have _t := tok3; clear tok3; refine store_cellE 2 (by rfl) 2 _ _ (by rfl) (w.heap.size + 1 + 1) (.int .i64 0) (.int .i64 0) (by rfl) (by rfl) (k2.out.at (x := (w.heap.size + 1 + 1, #[.int .i64 0], 2)) in1) (by kernel_rfl) (by rfl) (by rfl) (fun V3 e2 => ?_); have k3 := hid (e2 ▸ (k2.out.swap.cell1 (by omega) (neC (by omega) (neC (by omega) (neC (by omega) ne0))) (.int .i64 0)).swap); have d3 : Hid (V3.heap[w5.heap.size]? = some (.deferred (some []))) := hid ((show Keeps (fun k => k = w.heap.size + 1 + 1) V2 V3 from e2 ▸ Keeps.setCell _ _ rfl).row d2.out (by have := HQ2.out; omega)); clear e2))
    rw [HO.out, HT.out, HE.out]
    refine ⟨by simp, .inl ⟨_, _, rfl, run_takeDeferred d3.out, ?_⟩⟩
    have k7 := hid (k3.out.far (Keeps.putObj (X := fun k => k = w5.heap.size) (w := V3) w5.heap.size (.deferred none) rfl) (fun i hi => by have := HQ2.out; omega) (by have := HQ2.out; exact (farC (X := fun k => k = w5.heap.size) (by omega) (farC (X := fun k => k = w5.heap.size) (by omega) (farC (X := fun k => k = w5.heap.size) (by omega) (farC (X := fun k => k = w5.heap.size) (by omega) (far0 (X := fun k => k = w5.heap.size))))))))
    clear k3 d3
    generalize World.putObj V3 _ _ = w7 at k7 ⊢
    have e2 : (loadVar 35 ⟨w.heap.size + 1, 0, none⟩).run Tryz.prog w7 = .ok (.agg (vls 178 (clw (tSt s N).c (tSt s N).t))) w7 := run_loadVar_row _ (w.heap.size + 1) 35 35 (vls 178 (clw (tSt s N).c (tSt s N).t)) (0, 0) _ (k7.out.at (x := (w.heap.size + 1, vls 178 (clw (tSt s N).c (tSt s N).t), 35)) in2) Tryz.underlying35 rfl (by rw [vls_size]; exact info_col)
    have e3 : (loadVar 2 ⟨w.heap.size + 1 + 1, 0, none⟩).run Tryz.prog w7 = .ok (.int .i64 0) w7 := by
      have c7 : World.cell? w7 ⟨w.heap.size + 1 + 1, 0, none⟩ = some (.int .i64 0) := k7.out.c in1
      clear e2 k7
      simp [go_sem, c7]
    refine ⟨.tuple #[.agg (vls 178 (clw (tSt s N).c (tSt s N).t)), .int .i64 0], ?_, rfl, k7.out.1⟩
    simp [results, Tryz.results12, asAddr, e2, e3, Sem.run_bind, Result.andThen_ok, Act.put]
  case panic =>
    rintro chain V ⟨v, hv⟩
    cases hv
  case stop =>
    rintro c i V hi ⟨rfl, D, rfl, he, hf, hI⟩ hdf
    obtain ⟨hO, hT, hn⟩ := HO1.out D (by omega) he hf
    have HO := hid hO
    have HT := hid hT
    have HE := hid hn
    have k3 := hid hI
    have d3 := hid hdf
    have H6b := H6.out
    clear hI hdf hO hn hT he hf hi
    refine wpIn_wide.2 ?_
    go_wp2
    rw [HO.out, HT.out, HE.out]
    refine ⟨by simp, .inl ⟨_, _, rfl, run_takeDeferred d3.out, ?_⟩⟩
    have k7 := hid (k3.out.far (Keeps.putObj (X := fun k => k = w5.heap.size) (w := V) w5.heap.size (.deferred none) rfl) (fun i hi => by have := HQ2.out; omega) (by have := HQ2.out; exact (farC (X := fun k => k = w5.heap.size) (by omega) (farC (X := fun k => k = w5.heap.size) (by omega) (farC (X := fun k => k = w5.heap.size) (by omega) (farC (X := fun k => k = w5.heap.size) (by omega) (far0 (X := fun k => k = w5.heap.size))))))))
    clear k3 d3
    generalize World.putObj V _ _ = w7 at k7 ⊢
    have e2 : (loadVar 35 ⟨w.heap.size + 1, 0, none⟩).run Tryz.prog w7 = .ok (.agg (vls 178 (clw (fun _ => 0) 0))) w7 := run_loadVar_row _ (w.heap.size + 1) 35 35 (vls 178 (clw (fun _ => 0) 0)) (0, 0) _ (k7.out.at (x := (w.heap.size + 1, vls 178 (clw (fun _ => 0) 0), 35)) in2) Tryz.underlying35 rfl (by rw [vls_size]; exact info_col)
    have e3 : (loadVar 2 ⟨w.heap.size + 1 + 1, 0, none⟩).run Tryz.prog w7 = .ok (.int .i64 (tSt s (D + 1)).n) w7 := by
      have c7 : World.cell? w7 ⟨w.heap.size + 1 + 1, 0, none⟩ = some (.int .i64 (tSt s (D + 1)).n) := k7.out.c in1
      clear e2 k7
      simp [go_sem, c7]
    refine ⟨.tuple #[.agg (vls 178 (clw (fun _ => 0) 0)), .int .i64 (tSt s (D + 1)).n], ?_, rfl, k7.out.1⟩
    simp [results, Tryz.results12, asAddr, e2, e3, Sem.run_bind, Result.andThen_ok]

theorem mv3 {α : Type} (a b c : α) : ∀ x ∈ [b, c], x ∈ [a, b, c] := fun _ hx => List.mem_cons_of_mem _ hx

set_option maxRecDepth 100000 in
set_option maxHeartbeats 1000000 in
theorem sTicksL (s : TSt) (hs : TVal s) (h0 : s.n = 0) (N : Nat) (hN : N ≤ 1048576) (r : Nat → Nat) (tt n : Int) (ho1 : ∀ D : Nat, D < N → (∀ j, j ≤ D → (tSt s j).n = 0) → (tSt s (D + 1)).n ≠ 0 → r = (fun _ => 0) ∧ tt = 0 ∧ n = (tSt s (D + 1)).n) (ho2 : (∀ j, j ≤ N → (tSt s j).n = 0) → r = (tSt s N).c ∧ tt = (tSt s N).t ∧ n = 0) (w : World) :
    Calls Tryz.prog 32 #[.agg (vls 178 (clw s.c s.t)), .int .i64 (N : Int)] w fun e w' => e = .returned (.tuple #[.agg (vls 178 (clw r tt)), .int .i64 n]) ∧ Below w.heap.size w w' := by
  have k0 : Hid (Kept w [(w.heap.size + 1, vls 178 (clw (fun _ => 0) 0), 35), (w.heap.size, vls 178 (clw s.c s.t), 35)] ((w.alloc (.cells (vls 178 (clw s.c s.t)) 35)).alloc (.cells (vls 178 (clw (fun _ => 0) 0)) 35))) := hid ((((Kept.nil w).push _ _).push _ _).sub (by simp))
  have HS := hid hs
  have HN := hid hN
  have HI0 := hid h0
  have HO1 := hid ho1
  have HO2 := hid ho2
  clear hs h0 ho1 ho2
  go_enter Tryz.func32, Tryz.ntmps32
  go_wp2_with fail
  go_loopw [6] (fun i wr => ∃ k : Nat, k ≤ N ∧ i = .int .i64 k ∧ Hid (∀ j, j ≤ k → (tSt s j).n = 0) ∧ Hid (Kept w [(w.heap.size + 1, vls 178 (clw (fun _ => 0) 0), 35), (w.heap.size, vls 178 (clw (tSt s k).c (tSt s k).t), 35)] wr)) (fun i _ => N - (intOf i).toNat)
  case atStart => exact ⟨0, Nat.zero_le _, rfl, hid (fun j hj => by obtain rfl : j = 0 := by omega
                                                                    exact HI0.out), k0⟩
  case round =>
    clear k0
    obtain ⟨k, hk, rfl, hd0, h0⟩ := hrel
    by_cases hlt : k < N
    · have HL := hid hlt
      have hkN : (k : Int) < (N : Int) := by omega
      have hk2 : k < 1048576 := by omega
      have HC := hid (fun w2 (hv : vAt w2 w.heap.size 178 (clw (tSt s k).c (tSt s k).t) 35) => sTickK s HS.out k w2 w.heap.size 35 hv)
      clear hlt hk
      go_wp2_with fail
      refine (HC.out _ (h0.out.v in1)).mono ?_
      rintro e w2 ⟨rfl, hb2⟩
      have k1 := hid (h0.out.stay hb2)
      have l1 : w.heap.size + 1 < w2.heap.size := k1.out.lt in0
      have kN := hid (k1.out.push (vls 178 (clw (fun _ => 0) 0)) 35)
      have f1 := k1.out.fresh
      clear h0 hb2 HC
      have tok1 : True := trivial
      by_cases hd : (tSt s (k + 1)).n = 0
      · have HD : Hid (∀ j, j ≤ k + 1 → (tSt s j).n = 0) := hid (fun j hj => by
          by_cases e : j = k + 1
          · rw [e]; exact hd
          · exact hd0.out j (by omega))
        rw [hd]
        clear hd
        go_wp2_with (first | (have _t := tok1; clear tok1; refine store_rowE (by rfl) 35 _ _ (by rfl) (w2.heap.size) (vls 178 (clw (tSt s (k + 1)).c (tSt s (k + 1)).t)) (vls 178 (clw (fun _ => 0) 0)) (by rfl) (by rfl) (kN.out.at (x := (w2.heap.size, vls 178 (clw (fun _ => 0) 0), 35)) in0) (by rw [vls_size]; exact info_col) (by simp) (vls_one (clw_one _ _)) (fun w3 e2 => ?_); have k3 := hid (e2 ▸ (kN.out.set (by omega) f1 (vls 178 (clw (tSt s (k + 1)).c (tSt s (k + 1)).t)))); clear kN; clear e2; have tok2 : True := trivial) | (have _t := tok2; clear tok2; refine wpList_load_row (by rfl) 35 _ (by rfl) (w2.heap.size) (by rfl) 35 (vls 178 (clw (tSt s (k + 1)).c (tSt s (k + 1)).t)) (0, 0) _ (k3.out.at (x := (w2.heap.size, vls 178 (clw (tSt s (k + 1)).c (tSt s (k + 1)).t), 35)) in0) Tryz.underlying35 (by rfl) (by rw [vls_size]; exact info_col) ?_; have tok3 : True := trivial) | (have _t := tok3; clear tok3; refine store_rowE (by rfl) 35 _ _ (by rfl) (w.heap.size) (vls 178 (clw (tSt s (k + 1)).c (tSt s (k + 1)).t)) (vls 178 (clw (tSt s k).c (tSt s k).t)) (by rfl) (by rfl) (k3.out.at (x := (w.heap.size, vls 178 (clw (tSt s k).c (tSt s k).t), 35)) in2) (by rw [vls_size]; exact info_col) (by simp) (vls_one (clw_one _ _)) (fun w4 e2 => ?_); have k4 := hid (e2 ▸ (k3.out.up2.set (by omega) (neC (by omega) (neC (by omega) ne0)) (vls 178 (clw (tSt s (k + 1)).c (tSt s (k + 1)).t))).dn2); clear k3; clear e2))
        go_roundw
        case rel => exact ⟨k + 1, HL.out, by go_num, HD, hid (k4.out.sub (mv3 _ _ _))⟩
        case measure => have := HL.out; simp [intOf]; omega
      · obtain ⟨e1, e2, e3⟩ := HO1.out k HL.out hd0.out hd
        have E1 := hid e1
        have E2 := hid e2
        have E3 := hid e3
        clear e1 e2 e3 HO1 HO2
        go_wp2_with (first | (have _t := tok1; clear tok1; refine store_rowE (by rfl) 35 _ _ (by rfl) (w2.heap.size) (vls 178 (clw (tSt s (k + 1)).c (tSt s (k + 1)).t)) (vls 178 (clw (fun _ => 0) 0)) (by rfl) (by rfl) (kN.out.at (x := (w2.heap.size, vls 178 (clw (fun _ => 0) 0), 35)) in0) (by rw [vls_size]; exact info_col) (by simp) (vls_one (clw_one _ _)) (fun w3 e2 => ?_); have k3 := hid (e2 ▸ (kN.out.set (by omega) f1 (vls 178 (clw (tSt s (k + 1)).c (tSt s (k + 1)).t)))); clear kN; clear e2; have tok2 : True := trivial) | (have _t := tok2; clear tok2; refine store_rowE (by rfl) 35 _ _ (by rfl) (w.heap.size + 1) (vls 178 (clw (fun _ => 0) 0)) (vls 178 (clw (fun _ => 0) 0)) (by rfl) (by rfl) (k3.out.at (x := (w.heap.size + 1, vls 178 (clw (fun _ => 0) 0), 35)) in1) (by rw [vls_size]; exact info_col) (by simp) (vls_one (clw_one _ _)) (fun w4 e2 => ?_); have k4 := hid (e2 ▸ (k3.out.swap.set (by omega) (neC (by omega) (neC (by omega) ne0)) (vls 178 (clw (fun _ => 0) 0))).swap); clear k3; clear e2))
        rw [E1.out, E2.out, E3.out]
        exact bodyPost_ret (results_row_tmp rfl _ _ (w.heap.size + 1) 35 (vls 178 (clw (fun _ => 0) 0)) (0, 0) _ rfl (k4.out.at (x := (w.heap.size + 1, vls 178 (clw (fun _ => 0) 0), 35)) in1) Tryz.underlying35 rfl (by rw [vls_size]; exact info_col)) rfl ⟨rfl, k4.out.1⟩
    · obtain rfl : k = N := by omega
      obtain ⟨e1, e2, e3⟩ := HO2.out hd0.out
      have E1 := hid e1
      have E2 := hid e2
      have E3 := hid e3
      have hkN : ¬ (k : Int) < (k : Int) := by omega
      have tok1 : True := trivial
      clear e1 e2 e3 HO1 HO2 hlt hk
      go_wp2_with (first | (have _t := tok1; clear tok1; refine wpList_load_row (by rfl) 35 _ (by rfl) (w.heap.size) (by rfl) 35 (vls 178 (clw (tSt s k).c (tSt s k).t)) (0, 0) _ (h0.out.at (x := (w.heap.size, vls 178 (clw (tSt s k).c (tSt s k).t), 35)) in1) Tryz.underlying35 (by rfl) (by rw [vls_size]; exact info_col) ?_; have tok2 : True := trivial) | (have _t := tok2; clear tok2; refine store_rowE (by rfl) 35 _ _ (by rfl) (w.heap.size + 1) (vls 178 (clw (tSt s k).c (tSt s k).t)) (vls 178 (clw (fun _ => 0) 0)) (by rfl) (by rfl) (h0.out.at (x := (w.heap.size + 1, vls 178 (clw (fun _ => 0) 0), 35)) in0) (by rw [vls_size]; exact info_col) (by simp) (vls_one (clw_one _ _)) (fun w4 e2 => ?_); have k4 := hid (e2 ▸ (h0.out.set (by omega) (neC (by omega) ne0) (vls 178 (clw (tSt s k).c (tSt s k).t)))); clear e2))
      rw [E1.out, E2.out, E3.out]
      exact bodyPost_ret (results_row_tmp rfl _ _ (w.heap.size + 1) 35 (vls 178 (clw (tSt s k).c (tSt s k).t)) (0, 0) _ rfl (k4.out.at (x := (w.heap.size + 1, vls 178 (clw (tSt s k).c (tSt s k).t), 35)) in0) Tryz.underlying35 rfl (by rw [vls_size]; exact info_col)) rfl ⟨rfl, k4.out.1⟩

set_option maxRecDepth 100000 in
set_option maxHeartbeats 1000000 in
theorem sTicks_bad (s : TSt) (hb : ∀ i, i < 177 → s.c i < 4294967296) (h : ¬ ColOk s.c s.t) (m : Int) (w : World) :
    Calls Tryz.prog 11 #[.agg (vls 178 (clw s.c s.t)), .int .i64 m] w fun e w' => e = .returned (.tuple #[.agg (vls 178 (clw (fun _ => 0) 0)), .int .i64 1]) ∧ Below w.heap.size w w' := by
  have k0 : Hid (Kept w [(w.heap.size + 1, vls 178 (clw (fun _ => 0) 0), 35), (w.heap.size, vls 178 (clw s.c s.t), 35)] ((w.alloc (.cells (vls 178 (clw s.c s.t)) 35)).alloc (.cells (vls 178 (clw (fun _ => 0) 0)) 35))) := hid ((((Kept.nil w).push _ _).push _ _).sub (by simp))
  have HB := hid hb
  have HQ := hid h
  clear hb h
  go_enter Tryz.func11, Tryz.ntmps11
  go_wp2_with fail
  refine (sColOk s.c s.t HB.out false (col_no HQ.out) _ w.heap.size 35 (k0.out.v in1)).mono ?_
  rintro e w1 ⟨rfl, hb1⟩
  have k1 := hid (k0.out.stay hb1)
  have tok1 : True := trivial
  clear k0 hb1
  go_wp2_with (first | (have _t := tok1; clear tok1; refine store_rowE (by rfl) 35 _ _ (by rfl) (w.heap.size + 1) (vls 178 (clw (fun _ => 0) 0)) (vls 178 (clw (fun _ => 0) 0)) (by rfl) (by rfl) (k1.out.at (x := (w.heap.size + 1, vls 178 (clw (fun _ => 0) 0), 35)) in0) (by rw [vls_size]; exact info_col) (by simp) (vls_one (clw_one _ _)) (fun w4 e2 => ?_); have k4 := hid (e2 ▸ (k1.out.set (by omega) (neC (by omega) ne0) (vls 178 (clw (fun _ => 0) 0)))); clear e2))
  exact bodyPost_ret (results_row_tmp rfl _ _ (w.heap.size + 1) 35 (vls 178 (clw (fun _ => 0) 0)) (0, 0) _ rfl (k4.out.at (x := (w.heap.size + 1, vls 178 (clw (fun _ => 0) 0), 35)) in0) Tryz.underlying35 rfl (by rw [vls_size]; exact info_col)) rfl ⟨rfl, k4.out.1⟩

set_option maxRecDepth 100000 in
set_option maxHeartbeats 1000000 in
theorem sTicks_range (s : TSt) (hs : TVal s) (m : Int) (hm : ¬ (0 ≤ m ∧ m ≤ 200)) (w : World) :
    Calls Tryz.prog 11 #[.agg (vls 178 (clw s.c s.t)), .int .i64 m] w fun e w' => e = .returned (.tuple #[.agg (vls 178 (clw (fun _ => 0) 0)), .int .i64 2]) ∧ Below w.heap.size w w' := by
  have k0 : Hid (Kept w [(w.heap.size + 1, vls 178 (clw (fun _ => 0) 0), 35), (w.heap.size, vls 178 (clw s.c s.t), 35)] ((w.alloc (.cells (vls 178 (clw s.c s.t)) 35)).alloc (.cells (vls 178 (clw (fun _ => 0) 0)) 35))) := hid ((((Kept.nil w).push _ _).push _ _).sub (by simp))
  have HS := hid hs
  have HI := hid (fun w => l00In_f m 0 200 hm w)
  clear hs hm
  go_enter Tryz.func11, Tryz.ntmps11
  go_wp2_with fail
  refine (sColOk s.c s.t HS.out.lt true (col_ok HS.out.ok) _ w.heap.size 35 (k0.out.v in1)).mono ?_
  rintro e w1 ⟨rfl, hb1⟩
  have k1 := hid (k0.out.stay hb1)
  clear k0 hb1
  go_wp2_with fail
  refine (HI.out _).mono ?_
  rintro e w2 ⟨rfl, rfl⟩
  have tok1 : True := trivial
  go_wp2_with (first | (have _t := tok1; clear tok1; refine store_rowE (by rfl) 35 _ _ (by rfl) (w.heap.size + 1) (vls 178 (clw (fun _ => 0) 0)) (vls 178 (clw (fun _ => 0) 0)) (by rfl) (by rfl) (k1.out.at (x := (w.heap.size + 1, vls 178 (clw (fun _ => 0) 0), 35)) in0) (by rw [vls_size]; exact info_col) (by simp) (vls_one (clw_one _ _)) (fun w4 e2 => ?_); have k4 := hid (e2 ▸ (k1.out.set (by omega) (neC (by omega) ne0) (vls 178 (clw (fun _ => 0) 0)))); clear e2))
  exact bodyPost_ret (results_row_tmp rfl _ _ (w.heap.size + 1) 35 (vls 178 (clw (fun _ => 0) 0)) (0, 0) _ rfl (k4.out.at (x := (w.heap.size + 1, vls 178 (clw (fun _ => 0) 0), 35)) in0) Tryz.underlying35 rfl (by rw [vls_size]; exact info_col)) rfl ⟨rfl, k4.out.1⟩

set_option maxRecDepth 100000 in
set_option maxHeartbeats 1000000 in
theorem sTicks_ok (s : TSt) (hs : TVal s) (h0 : s.n = 0) (N : Nat) (hN : N ≤ 200) (r : Nat → Nat) (tt n : Int) (ho1 : ∀ D : Nat, D < N → (∀ j, j ≤ D → (tSt s j).n = 0) → (tSt s (D + 1)).n ≠ 0 → r = (fun _ => 0) ∧ tt = 0 ∧ n = (tSt s (D + 1)).n) (ho2 : (∀ j, j ≤ N → (tSt s j).n = 0) → r = (tSt s N).c ∧ tt = (tSt s N).t ∧ n = 0) (w : World) :
    Calls Tryz.prog 11 #[.agg (vls 178 (clw s.c s.t)), .int .i64 (N : Int)] w fun e w' => e = .returned (.tuple #[.agg (vls 178 (clw r tt)), .int .i64 n]) ∧ Below w.heap.size w w' := by
  have k0 : Hid (Kept w [(w.heap.size + 1, vls 178 (clw (fun _ => 0) 0), 35), (w.heap.size, vls 178 (clw s.c s.t), 35)] ((w.alloc (.cells (vls 178 (clw s.c s.t)) 35)).alloc (.cells (vls 178 (clw (fun _ => 0) 0)) 35))) := hid ((((Kept.nil w).push _ _).push _ _).sub (by simp))
  have HS := hid hs
  have HI := hid (fun w => l00In_t (N : Int) 0 200 (by omega) (by omega) w)
  have HC := hid (fun w => sTicksL s hs h0 N (by omega) r tt n ho1 ho2 w)
  clear hs h0 ho1 ho2
  go_enter Tryz.func11, Tryz.ntmps11
  go_wp2_with fail
  refine (sColOk s.c s.t HS.out.lt true (col_ok HS.out.ok) _ w.heap.size 35 (k0.out.v in1)).mono ?_
  rintro e w1 ⟨rfl, hb1⟩
  have k1 := hid (k0.out.stay hb1)
  clear k0 hb1
  go_wp2_with fail
  refine (HI.out _).mono ?_
  rintro e w2 ⟨rfl, rfl⟩
  have tok1 : True := trivial
  go_wp2_with (first | (have _t := tok1; clear tok1; refine wpList_load_row (by rfl) 35 _ (by rfl) (w.heap.size) (by rfl) 35 (vls 178 (clw s.c s.t)) (0, 0) _ (k1.out.at (x := (w.heap.size, vls 178 (clw s.c s.t), 35)) in1) Tryz.underlying35 (by rfl) (by rw [vls_size]; exact info_col) ?_))
  refine (HC.out _).mono ?_
  rintro e w3 ⟨rfl, hb3⟩
  have k3 := hid (k1.out.stay hb3)
  have tok1 : True := trivial
  clear k1 hb3
  go_wp2_with (first | (have _t := tok1; clear tok1; refine store_rowE (by rfl) 35 _ _ (by rfl) (w.heap.size + 1) (vls 178 (clw r tt)) (vls 178 (clw (fun _ => 0) 0)) (by rfl) (by rfl) (k3.out.at (x := (w.heap.size + 1, vls 178 (clw (fun _ => 0) 0), 35)) in0) (by rw [vls_size]; exact info_col) (by simp) (vls_one (clw_one _ _)) (fun w4 e2 => ?_); have k4 := hid (e2 ▸ (k3.out.set (by omega) (neC (by omega) ne0) (vls 178 (clw r tt)))); clear e2))
  exact bodyPost_ret (results_row_tmp rfl _ _ (w.heap.size + 1) 35 (vls 178 (clw r tt)) (0, 0) _ rfl (k4.out.at (x := (w.heap.size + 1, vls 178 (clw r tt), 35)) in0) Tryz.underlying35 rfl (by rw [vls_size]; exact info_col)) rfl ⟨rfl, k4.out.1⟩

theorem words_cons : ∀ (v : List Char) (r : List Char), (∀ c ∈ v, c ≠ Char.ofNat 32) → wordsSigns (v ++ Char.ofNat 32 :: r) = v :: wordsSigns r
  | [], r, _ => rfl
  | c :: v, r, h => by
    have ih := words_cons v r (fun x hx => h x (by simp [hx]))
    have hc : c ≠ Char.ofNat 32 := h c (by simp)
    show wordsSigns (c :: (v ++ Char.ofNat 32 :: r)) = _
    rw [wordsSigns.eq_3 _ _ (fun e => hc e), ih]

def w0 : List Nat := [104, 97, 114, 110, 101, 115, 115]

def w1 : List Nat := [101, 55, 48, 54, 48, 56, 51, 50, 98, 52, 54, 99, 50, 98, 49, 55, 49, 97, 55, 52, 102, 53, 56, 48, 99, 102, 102, 54, 48, 57, 100, 51, 57, 51, 53, 50, 57, 50, 50, 99, 52, 101, 98, 97, 55, 100, 52, 51, 101, 54, 56, 56, 98, 53, 100, 51, 56, 101, 99, 56, 56, 102, 49, 101]

def w2 : List Nat := [99, 117, 116]

def w3 : List Nat := [97, 116, 32, 108, 111, 111, 112, 46, 101, 120, 97, 109, 112, 108, 101, 47, 103, 48, 49, 50, 50, 52, 47, 108, 97, 119, 115, 46, 70, 110, 69, 120, 97, 99, 116, 84, 105, 99, 107, 67, 111, 108, 117, 109, 110, 32, 108, 111, 111, 112, 46, 101, 120, 97, 109, 112, 108, 101, 47, 103, 48, 49, 50, 50, 52, 47, 108, 97, 119, 115, 46, 70, 110, 69, 120, 97, 99, 116, 84, 105, 99, 107, 67, 111, 108, 117, 109, 110, 115, 32, 108, 111, 111, 112, 46, 101, 120, 97, 109, 112, 108, 101, 47, 103, 48, 49, 50, 50, 52, 47, 108, 97, 119, 115, 46, 70, 110, 69, 120, 97, 99, 116, 68, 111, 65, 99, 116, 32, 108, 111, 111, 112, 46, 101, 120, 97, 109, 112, 108, 101, 47, 103, 48, 49, 50, 50, 52, 47, 108, 97, 119, 115, 46, 70, 110, 69, 120, 97, 99, 116, 82, 117, 110, 65, 99, 116, 115]

def letters (l : List Nat) : List Char := l.map Char.ofNat

theorem head_reads : Tryz.prog.initOrder = String.ofList (letters w0 ++ Char.ofNat 32 :: (letters w1 ++ Char.ofNat 32 :: (letters w2 ++ Char.ofNat 32 :: letters w3))) := by kernel_rfl

theorem no_blank {l : List Nat} (h : l.all (fun n => Char.ofNat n != Char.ofNat 32) = true) : ∀ c ∈ letters l, c ≠ Char.ofNat 32 := by
  intro c hc
  obtain ⟨n, hn, rfl⟩ := List.mem_map.1 hc
  have := List.all_eq_true.1 h n hn
  simpa using this

theorem h0 : letters w0 = "harness".toList := by kernel_rfl

theorem h2 : letters w2 = "cut".toList := by kernel_rfl

theorem sums : isSumSigns (letters w1) = true := by kernel_rfl

theorem words : wordsSigns Tryz.prog.initOrder.toList = "harness".toList :: letters w1 :: "cut".toList :: wordsSigns (letters w3) := by
  rw [head_reads, String.toList_ofList, words_cons _ _ (no_blank (by decide +kernel)), words_cons _ _ (no_blank (by decide +kernel)), words_cons _ _ (no_blank (by decide +kernel)), h0, h2]

theorem behind : ∃ r, behindMainWord (wordsSigns Tryz.prog.initOrder.toList) = "cut".toList :: r := by
  refine ⟨wordsSigns (letters w3), ?_⟩
  rw [words]
  generalize wordsSigns (letters w3) = r
  have hs := sums
  generalize letters w1 = v at hs
  unfold behindMainWord
  simp [hs]

theorem not_later : Tryz.prog.laysLater = false := by kernel_rfl

theorem no_reflect : Tryz.prog.bearsReflect = false := by kernel_rfl

theorem no_doors : Tryz.prog.doorFits [] = true := by kernel_rfl

theorem strips (r : List (List Char)) : stripLifts liftWords ("cut".toList :: r) = ([], "cut".toList :: r) := by kernel_rfl

theorem may_enter_of (P : Program) (r : List (List Char)) (h : behindMainWord (wordsSigns P.initOrder.toList) = "cut".toList :: r) (h1 : P.laysLater = false) (h2 : P.bearsReflect = false) (h3 : P.doorFits [] = true) : P.mayEnter = true := by
  unfold Program.mayEnter
  rw [h]
  dsimp only
  rw [strips, h1, h2, h3]
  kernel_rfl

theorem lifts_final_of (P : Program) (r : List (List Char)) (h : behindMainWord (wordsSigns P.initOrder.toList) = "cut".toList :: r) : P.liftsFinal = false := by
  unfold Program.liftsFinal Program.headLifts
  rw [h]
  dsimp only
  rw [strips]
  kernel_rfl

theorem made_of (P : Program) (r : List (List Char)) (h : behindMainWord (wordsSigns P.initOrder.toList) = "cut".toList :: r) : P.make = some .cut := by
  unfold Program.make
  rw [h]
  kernel_rfl

theorem may_enter : Tryz.prog.mayEnter = true := let ⟨r, h⟩ := behind; may_enter_of _ r h not_later no_reflect no_doors

theorem lifts_final : Tryz.prog.liftsFinal = false := let ⟨r, h⟩ := behind; lifts_final_of _ r h

theorem made : Tryz.prog.make = some .cut := let ⟨r, h⟩ := behind; made_of _ r h

theorem laid : laidOutB Tryz.prog = true := by kernel_rfl

theorem rowed : mapsRowed Tryz.prog = true := by kernel_rfl

theorem no_stops : Tryz.prog.stops = [] := by kernel_rfl

theorem no_knobs : Tryz.prog.stopKnobs = [] := by kernel_rfl

theorem plain_keys : Tryz.prog.plainKeys = true := by kernel_rfl

theorem stops_heard : Tryz.prog.stopsHeard = true := by kernel_rfl

theorem arr2 {α : Type} {cs : Array α} (h : cs.size = 2) : ∃ c0 c1, cs = #[c0, c1] := by
  obtain ⟨l⟩ := cs
  match l, h with
  | [a, b], _ => exact ⟨a, b, rfl⟩

theorem own : ownKnob Tryz.prog.godebug = none := by kernel_rfl

theorem rdi : Tryz.prog.readableRec 2 = true ∧ 2 < Tryz.prog.types.size := ⟨by kernel_rfl, of_decide_eq_true (by kernel_rfl)⟩

theorem cells178 : Tryz.prog.cellsOf 29 = 178 := by kernel_rfl

theorem types178 : Tryz.prog.cellTypes Tryz.prog.depth 29 = some (List.replicate 177 22 ++ [2]) := by kernel_rfl

theorem rdc : Tryz.prog.readableRec 29 = true ∧ 29 < Tryz.prog.types.size := ⟨by kernel_rfl, of_decide_eq_true (by kernel_rfl)⟩
end Go.Proofs.YthpimindkmmkjaaGreat
