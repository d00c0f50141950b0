import Derived.Test.YthpimindkmmkjaaVRiseIn
import Derived.Test.YthpimindkmmkjaaCRiseIn
import Derived.Test.YthpimindkmmkjaaChecked
import Derived.Test.YthpimindkmmkjaaRows
import Derived.Laws.FloatArith
import Derived.ProofKit
import Derived.WalkKit
import Derived.WalkLawsBesides
import Derived.WalkSpells
import Derived.Deep.QuietTactic
import Derived.BigQuiet
import Derived.Deep.RegionHeld3
import Derived.ChangeKeysEq
import Derived.Laws.BitsAllLaws
import Derived.Deep.MidRow
import Derived.Deep.WholeRow
import Derived.StillTailTactics
import Derived.Deep.Slices
import Derived.ChangeSame
import Derived.OrdersIn
import Derived.ControlIn
import Derived.RangeFuncSeq
import Derived.RangeFuncNested
import Derived.RangeFuncLeaves
import Derived.RangeFuncBox
import Derived.OwnWalkIn
import Derived.TacticsInMore
import Derived.LoopNIn
import Derived.LoopIn
import Derived.Shelf.Abstract
import Derived.ArgAppend
import Derived.Lib.SliceRun
import Derived.OpenShut
import Derived.Below
import Derived.Laws.AppendOwn
import Derived.MapKept
import Derived.StillTail
import Derived.ScopeJumps
/- The law FnExactRiseIn of chapter 1: at every argument the call returns true, and what was there before it is as it was. -/
namespace Go.Proofs.Ythpimindkmmkjaa
open Go.RowKit Go.Fl

set_option maxRecDepth 100000 in
set_option maxHeartbeats 8000000 in
theorem sAt (n : Nat) (x : Nat → Nat) (hx : W32 x) (hq : souB n x = true) (h : Nat) (hl : h < 4294967296) (w : World) (s : Value) (hs : Rd w s n x) (rh rv : Nat) (c : Int) (hr : atR n x h = (rh, rv, c)) :
    Calls Try.prog 145 #[s, .float .f32 h] w fun e w' => ∃ i, e = .returned (.tuple #[.agg #[.float .f32 rh, .float .f32 rv], .int .i64 i, .int .i64 c]) ∧ Below w.heap.size w w' := by
  have F := souB_iff.1 hq
  have hlo := F.lo
  have hhi := F.hi
  obtain ⟨p, cap, rfl, hc⟩ := hs
  obtain ⟨b, o, rfl, hcell⟩ := hc (by omega)
  have HC := hid hcell
  have k0 : Hid (Kept w [(w.heap.size, #[.float .f32 0, .float .f32 0], 32)] (w.alloc (.cells #[.float .f32 0, .float .f32 0] 32))) := hid ((Kept.nil w).push _ _)
  have HF := hid F
  have HX := hid hx
  have i0 : ∀ w, (Instr.indexAt 78 (.slice (some ⟨b, o, none⟩) n cap) (.int .i64 0)).run Try.prog w = .ok (.pointer (some ⟨b, o, none⟩)) w := fun w => by
    have := run_indexAt (P := Try.prog) (t := 78) (e := 153) Try.underlying78 info_lev (b := b) (o := o) (n := n) (cap := cap) (k := 0) (by omega) w
    simpa using this
  have i9 : ∀ w, (Instr.indexAt 78 (.slice (some ⟨b, o, none⟩) n cap) (.int .i64 ((n : Int) - 1))).run Try.prog w = .ok (.pointer (some ⟨b, o + (n - 1) * 3, none⟩)) w := fun w => by
    have := run_indexAt (P := Try.prog) (t := 78) (e := 153) Try.underlying78 info_lev (b := b) (o := o) (n := n) (cap := cap) (k := n - 1) (by omega) w
    rw [show ((n - 1 : Nat) : Int) = (n : Int) - 1 by omega] at this
    exact this
  have hw1 : IntKind.i64.wrap ((n : Int) - 1) = (n : Int) - 1 := by rw [IntKind.wrap_i64]; omega
  have hB : Below w.heap.size w (w.alloc (.cells #[.float .f32 0, .float .f32 0] 32)) := (Below.refl _ w).alloc (Nat.le_refl _) _
  have a0 : (w.alloc (.cells #[.float .f32 0, .float .f32 0] 32)).cell? ⟨b, o, none⟩ = some (.float .f32 (x 0)) := by
    have h1 := hcell 0 (by omega)
    exact (hB.cell (p := ⟨b, o + 0, none⟩) (block_lt_of_cell h1)).trans h1
  have a9 : (w.alloc (.cells #[.float .f32 0, .float .f32 0] 32)).cell? ⟨b, o + (n - 1) * 3, none⟩ = some (.float .f32 (x ((n - 1) * 3))) := by
    have h1 := hcell ((n - 1) * 3) (by omega)
    exact (hB.cell (block_lt_of_cell h1)).trans h1
  obtain ⟨g1, hg1⟩ : ∃ g, (FloatKind.f32.format.order h (x 0) == some .gt || FloatKind.f32.format.order h (x 0) == some .eq) = g := ⟨_, rfl⟩
  obtain ⟨g2, hg2⟩ : ∃ g, (FloatKind.f32.format.order h (x ((n - 1) * 3)) == some .lt || FloatKind.f32.format.order h (x ((n - 1) * 3)) == some .eq) = g := ⟨_, rfl⟩
  have hin : (g1 && g2) = false → atR n x h = (0, 0, 6) := fun hgg => by
    rcases hfb : finB h with _ | _
    · exact at_bad F hl hfb
    · have hf := fw_of hl hfb
      refine at_none F hf ?_
      have f0 := ge_sv hf (F.fw (k := 0) (by omega))
      have f9 := le_sv hf (F.fw (k := n - 1) (by omega))
      rcases Bool.and_eq_false_iff.1 hgg with hg | hg
      · refine .inl (Int.not_le.1 fun hh => ?_)
        have := f0.2 hh
        rw [show (0 * 3) = 0 from rfl] at this
        rw [← hg1] at hg
        exact absurd this (by rw [Bool.not_eq_true]; exact hg)
      · refine .inr (Int.not_le.1 fun hh => ?_)
        have := f9.2 hh
        rw [← hg2] at hg
        exact absurd this (by rw [Bool.not_eq_true]; exact hg)
  have hyes : (g1 && g2) = true → FW h ∧ sv (x (0 * 3)) ≤ sv h ∧ sv h ≤ sv (x ((n - 1) * 3)) := fun hgg => by
    rw [Bool.and_eq_true] at hgg
    rcases hfb : finB h with _ | _
    · exfalso
      have ha := order_bad hl hfb (hgt_inf (hgt_lv (F.lv 0 (by omega))))
      have hb := order_bad hl hfb (hgt_inf (hgt_lv (F.lv (n - 1) (by omega))))
      have e1 : (Ieee.Format.order S h (x (0 * 3)) == some .gt || Ieee.Format.order S h (x (0 * 3)) == some .eq) = true := hg1.trans hgg.1
      have e2 : (Ieee.Format.order S h (x ((n - 1) * 3)) == some .lt || Ieee.Format.order S h (x ((n - 1) * 3)) == some .eq) = true := hg2.trans hgg.2
      by_cases hs : 2147483648 ≤ h
      · rw [if_pos hs] at ha
        rcases ha with ha | ha <;> rw [ha] at e1 <;> exact absurd e1 (by decide)
      · rw [if_neg hs] at hb
        rcases hb with hb | hb <;> rw [hb] at e2 <;> exact absurd e2 (by decide)
    · have hf := fw_of hl hfb
      exact ⟨hf, (ge_sv hf (F.fw (k := 0) (by omega))).1 (hg1.trans hgg.1), (le_sv hf (F.fw (k := n - 1) (by omega))).1 (hg2.trans hgg.2)⟩
  have HN : Hid (n ≤ 1048576) := hid (by omega)
  have HR := hid hr
  cases g1
  · have hfin := (HR.out).symm.trans (hin rfl)
    injection hfin with e1 e2
    injection e2 with e2 e3
    subst e1 e2 e3
    clear hin hyes hcell F hq hx hr a9 i9 hg2
    go_enter Try.func145, Try.ntmps145
    go_wp2_with (refine store_kept (w0 := w) (l := []) rfl 32 _ _ rfl (w.heap.size) (#[.float .f32 0, .float .f32 0]) rfl rfl 32 (#[.float .f32 0, .float .f32 0]) (k0.out) (Nat.le_refl _) (by simp) info_air rfl (by simp [Value.oneCell']) (fun w7 k7 => ?_); replace k7 := hid k7)
    first | exact bodyPost_ret (results_row_tmp2 rfl _ _ (w.heap.size) 32 (#[.float .f32 0, .float .f32 0]) (0, 0) _ rfl (k7.out.at (x := (w.heap.size, #[.float .f32 0, .float .f32 0], 32)) (by simp)) Try.underlying32 rfl info_air) rfl ⟨_, rfl, k7.out.1⟩ | exact bodyPost_ret (results_row_tmp2 rfl _ _ (w.heap.size) 32 (#[.float .f32 0, .float .f32 0]) (0, 0) _ rfl (k7.out.at (x := (w.heap.size, #[.float .f32 0, .float .f32 0], 32)) (by simp)) Try.underlying32 rfl info_air) rfl ⟨⟨_, rfl⟩, k7.out.1⟩
  cases g2
  · have hfin := (HR.out).symm.trans (hin rfl)
    injection hfin with e1 e2
    injection e2 with e2 e3
    subst e1 e2 e3
    clear hin hyes hcell F hq hx hr
    go_enter Try.func145, Try.ntmps145
    go_wp2_with (refine store_kept (w0 := w) (l := []) rfl 32 _ _ rfl (w.heap.size) (#[.float .f32 0, .float .f32 0]) rfl rfl 32 (#[.float .f32 0, .float .f32 0]) (k0.out) (Nat.le_refl _) (by simp) info_air rfl (by simp [Value.oneCell']) (fun w7 k7 => ?_); replace k7 := hid k7)
    first | exact bodyPost_ret (results_row_tmp2 rfl _ _ (w.heap.size) 32 (#[.float .f32 0, .float .f32 0]) (0, 0) _ rfl (k7.out.at (x := (w.heap.size, #[.float .f32 0, .float .f32 0], 32)) (by simp)) Try.underlying32 rfl info_air) rfl ⟨_, rfl, k7.out.1⟩ | exact bodyPost_ret (results_row_tmp2 rfl _ _ (w.heap.size) 32 (#[.float .f32 0, .float .f32 0]) (0, 0) _ rfl (k7.out.at (x := (w.heap.size, #[.float .f32 0, .float .f32 0], 32)) (by simp)) Try.underlying32 rfl info_air) rfl ⟨⟨_, rfl⟩, k7.out.1⟩
  obtain ⟨hf, hy0, hy9⟩ := hyes rfl
  have HFW := hid hf
  have HY0 := hid hy0
  have HY9 := hid hy9
  clear hin hyes hcell F hq hx hr hf hy0 hy9 hhi
  go_enter Try.func145, Try.ntmps145
  go_wp2
  clear a0 a9 i0 i9 hg1 hg2 hw1 hB
  go_loopw [8] (fun i wr => ∃ k : Nat, k ≤ n - 1 ∧ i = .int .i64 k ∧ Hid (∀ i, i < k → sv (x ((i + 1) * 3)) ≤ sv h) ∧ Hid (Kept w [(w.heap.size, #[.float .f32 0, .float .f32 0], 32)] wr)) (fun i _ => n - (intOf i).toNat)
  case atStart => exact ⟨0, by omega, rfl, hid (fun i h => by omega), k0⟩
  case round =>
    obtain ⟨k, hk, rfl, hK, kr⟩ := hrel
    have hk0 : sv (x (k * 3)) ≤ sv h := by
      rcases Nat.eq_zero_or_pos k with rfl | hp
      · exact HY0.out
      · obtain ⟨j, rfl⟩ : ∃ j, k = j + 1 := ⟨k - 1, by omega⟩
        exact hK.out j (by omega)
    have HK0 := hid hk0
    have hn1 := HN.out
    have HKN : Hid (k ≤ 1048576) := hid (by omega)
    have hcw : ∀ j, j < 3 * n → wr.cell? ⟨b, o + j, none⟩ = some (.float .f32 (x j)) := fun j hj => by have h1 := HC.out j hj; rw [kr.out.1.cell (block_lt_of_cell h1)]; exact h1
    have HCW := hid hcw
    have c0 := cell0 hcw (i := k) (by omega)
    have c1 := cell1 hcw (i := k) (by omega)
    have c2 := cell2 hcw (i := k) (by omega)
    have i1 := fun w => run_indexAt (P := Try.prog) (t := 78) (e := 153) Try.underlying78 info_lev (b := b) (o := o) (n := n) (cap := cap) (k := k) (by omega) w
    have q1 : (FloatKind.f32.format.order (x (k * 3)) h == some .eq) = decide (sv (x (k * 3)) = sv h) := by
      rw [Bool.eq_iff_iff, decide_eq_true_eq]; exact eq_sv (HF.out.fw (by omega)) HFW.out
    clear hcw hk0
    have heq : sv (x (k * 3)) = sv h → (x (k * 3 + 1) = rh ∧ x (k * 3 + 2) = rv ∧ 0 = c) := fun he => by
      have := (HR.out).symm.trans (at_eq HF.out HFW.out (k := k) (by omega) he.symm)
      injection this with e1 e2
      injection e2 with e2 e3
      exact ⟨e1.symm, e2.symm, e3.symm⟩
    by_cases hlt : k + 1 < n
    · have HL := hid hlt
      have hk3 : (k : Int) + 1 < (n : Int) := by omega
      have d0 := cell0 HCW.out (i := k + 1) hlt
      have i2 := fun w => run_indexAt1 (P := Try.prog) (t := 78) (e := 153) Try.underlying78 info_lev (b := b) (o := o) (n := n) (cap := cap) (k := k) hlt w
      have l1 : (FloatKind.f32.format.order (x ((k + 1) * 3)) h == some .lt || FloatKind.f32.format.order (x ((k + 1) * 3)) h == some .eq) = decide (sv (x ((k + 1) * 3)) ≤ sv h) := le_dec (HF.out.fw hlt) HFW.out
      by_cases hle : sv (x ((k + 1) * 3)) ≤ sv h
      · rw [decide_eq_true hle] at l1
        have HF2 : Hid (∀ i, i < k + 1 → sv (x ((i + 1) * 3)) ≤ sv h) := hid fun i hi => by
          rcases Nat.lt_or_ge i k with h1 | h1
          · exact hK.out i h1
          · rw [show i = k by omega]; exact hle
        clear hle heq q1
        go_wp2
        go_roundw
        case rel => exact ⟨k + 1, by omega, by go_num, HF2, kr⟩
        case measure => simp [intOf]; omega
      · rw [decide_eq_false hle] at l1
        have HLE := hid hle
        clear hle
        by_cases he : sv (x (k * 3)) = sv h
        · obtain ⟨rfl, rfl, rfl⟩ := heq he
          rw [decide_eq_true he] at q1
          clear he heq
          go_wp2_with (first | (refine store_kept (w0 := w) (l := []) rfl 32 _ _ rfl (w.heap.size) (#[.float .f32 (x (k * 3 + 1)), .float .f32 (x (k * 3 + 2))]) rfl rfl 32 (#[.float .f32 0, .float .f32 0]) (kr.out) (Nat.le_refl _) (by simp) info_air rfl (by simp [Value.oneCell']) (fun w7 k7 => ?_); replace k7 := hid k7) | (refine wpList_load_mid rfl 32 _ rfl b (o + k * 3 + 1) rfl [.float .f32 (x (k * 3 + 1)), .float .f32 (x (k * 3 + 2))] _ (range2 c1 c2) Try.underlying32 rfl info_air ?_))
          first | exact bodyPost_ret (results_row_tmp2 rfl _ _ (w.heap.size) 32 (#[.float .f32 (x (k * 3 + 1)), .float .f32 (x (k * 3 + 2))]) (0, 0) _ rfl (k7.out.at (x := (w.heap.size, #[.float .f32 (x (k * 3 + 1)), .float .f32 (x (k * 3 + 2))], 32)) (by simp)) Try.underlying32 rfl info_air) rfl ⟨_, rfl, k7.out.1⟩ | exact bodyPost_ret (results_row_tmp2 rfl _ _ (w.heap.size) 32 (#[.float .f32 (x (k * 3 + 1)), .float .f32 (x (k * 3 + 2))]) (0, 0) _ rfl (k7.out.at (x := (w.heap.size, #[.float .f32 (x (k * 3 + 1)), .float .f32 (x (k * 3 + 2))], 32)) (by simp)) Try.underlying32 rfl info_air) rfl ⟨⟨_, rfl⟩, k7.out.1⟩
        · rw [decide_eq_false he] at q1
          have HAt := hid (at_facts HX.out HF.out HFW.out hlt (by have := HK0.out; omega) (by have := HLE.out; omega))
          have hmid := (HR.out).symm.trans (at_mid HF.out HFW.out (k := k) hlt (by have := HK0.out; omega) (by have := HLE.out; omega))
          have r1 := fun w => run_float_arith (P := Try.prog) w .sub 22 .f32 _ _ _ HAt.out.d1
          have r2 := fun w => run_float_arith (P := Try.prog) w .sub 22 .f32 _ _ _ HAt.out.d2
          have r3 := fun w => run_float_arith (P := Try.prog) w .quo 22 .f32 _ _ _ HAt.out.q
          have HCC : Hid (∀ w', Below w.heap.size w w' → w'.cell? ⟨b, o + k * 3 + 1, none⟩ = some (.float .f32 (x (k * 3 + 1))) ∧ w'.cell? ⟨b, o + k * 3 + 1 + 1, none⟩ = some (.float .f32 (x (k * 3 + 2))) ∧ w'.cell? ⟨b, o + (k + 1) * 3 + 1, none⟩ = some (.float .f32 (x ((k + 1) * 3 + 1))) ∧ w'.cell? ⟨b, o + (k + 1) * 3 + 1 + 1, none⟩ = some (.float .f32 (x ((k + 1) * 3 + 2)))) := hid fun w' hb => by
            have hcw : ∀ j, j < 3 * n → w'.cell? ⟨b, o + j, none⟩ = some (.float .f32 (x j)) := fun j hj => by have h1 := HC.out j hj; rw [hb.cell (block_lt_of_cell h1)]; exact h1
            exact ⟨cell1 hcw (by omega), cell2 hcw (by omega), cell1 hcw hlt, cell2 hcw hlt⟩
          clear he heq
          unfold mixR at hmid
          rcases hQ : airB (mixW (x (k * 3 + 1)) (x ((k + 1) * 3 + 1)) (shW x h k)) (mixW (x (k * 3 + 2)) (x ((k + 1) * 3 + 2)) (shW x h k)) with _ | _
          · rw [hQ, if_neg (by decide)] at hmid
            injection hmid with e1 e2
            injection e2 with e2 e3
            subst e1 e2 e3
            have HQ := hid hQ
            clear hQ
            go_wp2
            go_quiet (fail)
            clear c0 c1 c2 d0 r1 r2 r3 q1 l1
            replace kr := hid (kept_drewK kr.out nq)
            go_wp2_with fail
            refine region_kept (w0 := w) (l := [(w.heap.size, #[.float .f32 0, .float .f32 0], 32)]) 13 #[false, false, false, false, false, false, false, false, false, false, false, false, false] (by kernel_rfl) rfl rfl ?_
            have kd := kr.out.drew
            generalize World.drew _ = wd at kd ⊢
            refine take_val 0 _ _ (.slice (some ⟨b, o, none⟩) n cap) rfl (by rfl) (by kernel_rfl) (by kernel_rfl) (by kernel_rfl) (fun w => by rfl) rfl rfl kd ?_
            simp only [Act.put, List.setIfInBounds_toArray, List.set_cons_zero, List.set_cons_succ]
            refine take_val 1 _ _ (.int .i64 (k : Int)) rfl (by rfl) (by kernel_rfl) (by kernel_rfl) (by kernel_rfl) (fun w => by rfl) rfl rfl kd ?_
            simp only [Act.put, List.setIfInBounds_toArray, List.set_cons_zero, List.set_cons_succ]
            refine take_val 2 _ _ (.pointer (some ⟨b, o + k * 3, none⟩)) rfl (by rfl) (by kernel_rfl) (by kernel_rfl) (by kernel_rfl) (fun w => run_index_op _ _ rfl rfl (i1 w)) rfl rfl kd ?_
            simp only [Act.put, List.setIfInBounds_toArray, List.set_cons_zero, List.set_cons_succ]
            refine take_val 3 _ _ (.pointer (some ⟨b, o + k * 3 + 1, none⟩)) rfl (by rfl) (by kernel_rfl) (by kernel_rfl) (by kernel_rfl) (fun w => by unfold execOp; go_simp) rfl rfl kd ?_
            simp only [Act.put, List.setIfInBounds_toArray, List.set_cons_zero, List.set_cons_succ]
            refine take_val 4 _ _ (.slice (some ⟨b, o, none⟩) n cap) rfl (by rfl) (by kernel_rfl) (by kernel_rfl) (by kernel_rfl) (fun w => by rfl) rfl rfl kd ?_
            simp only [Act.put, List.setIfInBounds_toArray, List.set_cons_zero, List.set_cons_succ]
            refine take_val 5 _ _ (.int .i64 (k : Int)) rfl (by rfl) (by kernel_rfl) (by kernel_rfl) (by kernel_rfl) (fun w => by rfl) rfl rfl kd ?_
            simp only [Act.put, List.setIfInBounds_toArray, List.set_cons_zero, List.set_cons_succ]
            refine take_val 6 _ _ (.int .i64 ((k : Int) + 1)) rfl (by rfl) (by kernel_rfl) (by kernel_rfl) (by kernel_rfl) (fun w => run_binop_val _ _ _ _ (by rfl) (by rfl) (by simp [eqGuard]) (run_succ HKN.out w)) rfl rfl kd ?_
            simp only [Act.put, List.setIfInBounds_toArray, List.set_cons_zero, List.set_cons_succ]
            refine take_val 7 _ _ (.pointer (some ⟨b, o + (k + 1) * 3, none⟩)) rfl (by rfl) (by kernel_rfl) (by kernel_rfl) (by kernel_rfl) (fun w => run_index_op _ _ rfl rfl (i2 w)) rfl rfl kd ?_
            simp only [Act.put, List.setIfInBounds_toArray, List.set_cons_zero, List.set_cons_succ]
            refine take_val 8 _ _ (.pointer (some ⟨b, o + (k + 1) * 3 + 1, none⟩)) rfl (by rfl) (by kernel_rfl) (by kernel_rfl) (by kernel_rfl) (fun w => by unfold execOp; go_simp) rfl rfl kd ?_
            simp only [Act.put, List.setIfInBounds_toArray, List.set_cons_zero, List.set_cons_succ]
            refine take_val 9 _ _ (.float .f32 (shW x h k)) rfl (by rfl) (by kernel_rfl) (by kernel_rfl) (by kernel_rfl) (fun w => by rfl) rfl rfl kd ?_
            simp only [Act.put, List.setIfInBounds_toArray, List.set_cons_zero, List.set_cons_succ]
            refine wpAnyH_ready (rs := [10, 11]) (by kernel_rfl) (by simp) ?_
            refine callK 10 _ _ (.agg #[.float .f32 (mixW (x (k * 3 + 1)) (x ((k + 1) * 3 + 1)) (shW x h k)), .float .f32 (mixW (x (k * 3 + 2)) (x ((k + 1) * 3 + 2)) (shW x h k))]) kd rfl (by rfl) 112 #[.pointer (some ⟨b, o + k * 3 + 1, none⟩), .pointer (some ⟨b, o + (k + 1) * 3 + 1, none⟩), .float .f32 (shW x h k)] (fun w => by unfold execOp; go_simp) rfl rfl ?hc1 (fun w1 k1 => ?_) ?_
            case hc1 => exact sMixAt _ _ _ _ _ HAt.out.m1 HAt.out.m2 _ _ _ _ _ (fun w9 hb => HCC.out w9 (kd.1.trans (hb.mono kd.1.size)))
            · refine ⟨k1, ?_⟩
              simp only [Act.put, List.setIfInBounds_toArray, List.set_cons_zero, List.set_cons_succ]
              refine wpAnyH_ready (rs := [11]) (by kernel_rfl) (by simp) ?_
              refine allocK 11 (fun g => _) _ k1 rfl (by rfl) (#[.float .f32 0, .float .f32 0]) 32 (by unfold execOp; go_simp) (fun g => rfl) rfl (fun w2 g2 k2 hB2 hn2 => ?_) AllReadyH.nil
              refine ⟨k2.tail, ?_⟩
              simp only [Act.put, List.setIfInBounds_toArray, List.set_cons_zero, List.set_cons_succ]
              refine wpAnyH_ready (rs := [12]) (by kernel_rfl) (by simp) ?_
              refine storeK 12 _ _ k2 hB2 hn2 rfl (by rfl) 32 _ _ rfl (#[.float .f32 (mixW (x (k * 3 + 1)) (x ((k + 1) * 3 + 1)) (shW x h k)), .float .f32 (mixW (x (k * 3 + 2)) (x ((k + 1) * 3 + 2)) (shW x h k))]) rfl rfl (info_air) (by simp) (by simp [Value.oneCell']) rfl rfl (fun w3 k3 => ?_) AllReadyH.nil
              refine ⟨k3.tail, ?_⟩
              refine wpAnyH_done (by kernel_rfl) (NoPanic.normal ?_) _
              have kz := hid k3
              have A1 := kz.out.at (x := (g2, #[.float .f32 (mixW (x (k * 3 + 1)) (x ((k + 1) * 3 + 1)) (shW x h k)), .float .f32 (mixW (x (k * 3 + 2)) (x ((k + 1) * 3 + 2)) (shW x h k))], 32)) (by simp)
              go_wp2_with fail
              refine (sAirAtQ (mixW (x (k * 3 + 1)) (x ((k + 1) * 3 + 1)) (shW x h k)) (mixW (x (k * 3 + 2)) (x ((k + 1) * 3 + 2)) (shW x h k)) HAt.out.m2.lt false HQ.out _ g2 0 ((cell_of_row _ g2 0 _ _ _ A1).trans rfl) ((cell_of_row _ g2 1 _ _ _ A1).trans rfl)).mono ?_
              rintro e w5 ⟨rfl, m5, rfl⟩
              have k5 := hid (kept_drewK kz.out m5)
              have hne5 : ∀ y ∈ ([(g2, #[.float .f32 (mixW (x (k * 3 + 1)) (x ((k + 1) * 3 + 1)) (shW x h k)), .float .f32 (mixW (x (k * 3 + 2)) (x ((k + 1) * 3 + 2)) (shW x h k))], 32)] : List (Nat × Array Value × TypeId)), y.1 ≠ w.heap.size := by intro y hy; simp at hy; subst hy; exact fun e => hn2 (w.heap.size, #[.float .f32 0, .float .f32 0], 32) (by simp) e.symm
              go_wp2_with (refine store_kept (w0 := w) (l := [(g2, #[.float .f32 (mixW (x (k * 3 + 1)) (x ((k + 1) * 3 + 1)) (shW x h k)), .float .f32 (mixW (x (k * 3 + 2)) (x ((k + 1) * 3 + 2)) (shW x h k))], 32)]) rfl 32 _ _ rfl (w.heap.size) (#[.float .f32 0, .float .f32 0]) rfl rfl 32 (#[.float .f32 0, .float .f32 0]) (k5.out.swap) (Nat.le_refl _) hne5 info_air rfl (by simp [Value.oneCell']) (fun w7 k7 => ?_); replace k7 := hid k7)
              first | exact bodyPost_ret (results_row_tmp2 rfl _ _ (w.heap.size) 32 (#[.float .f32 0, .float .f32 0]) (0, 0) _ rfl (k7.out.at (x := (w.heap.size, #[.float .f32 0, .float .f32 0], 32)) (by simp)) Try.underlying32 rfl info_air) rfl ⟨_, rfl, k7.out.1⟩ | exact bodyPost_ret (results_row_tmp2 rfl _ _ (w.heap.size) 32 (#[.float .f32 0, .float .f32 0]) (0, 0) _ rfl (k7.out.at (x := (w.heap.size, #[.float .f32 0, .float .f32 0], 32)) (by simp)) Try.underlying32 rfl info_air) rfl ⟨⟨_, rfl⟩, k7.out.1⟩
            refine allocK 11 (fun g => _) _ kd rfl (by rfl) (#[.float .f32 0, .float .f32 0]) 32 (by unfold execOp; go_simp) (fun g => rfl) rfl (fun w4 g4 k4 hB4 hn4 => ?_) AllReadyH.nil
            refine ⟨k4.tail, ?_⟩
            simp only [Act.put, List.setIfInBounds_toArray, List.set_cons_zero, List.set_cons_succ]
            refine wpAnyH_ready (rs := [10]) (by kernel_rfl) (by simp) ?_
            refine callK 10 _ _ (.agg #[.float .f32 (mixW (x (k * 3 + 1)) (x ((k + 1) * 3 + 1)) (shW x h k)), .float .f32 (mixW (x (k * 3 + 2)) (x ((k + 1) * 3 + 2)) (shW x h k))]) k4 rfl (by rfl) 112 #[.pointer (some ⟨b, o + k * 3 + 1, none⟩), .pointer (some ⟨b, o + (k + 1) * 3 + 1, none⟩), .float .f32 (shW x h k)] (fun w => by unfold execOp; go_simp) rfl rfl ?hc5 (fun w5 k5 => ?_) AllReadyH.nil
            case hc5 => exact sMixAt _ _ _ _ _ HAt.out.m1 HAt.out.m2 _ _ _ _ _ (fun w9 hb => HCC.out w9 (k4.1.trans (hb.mono k4.1.size)))
            refine ⟨k5.tail, ?_⟩
            simp only [Act.put, List.setIfInBounds_toArray, List.set_cons_zero, List.set_cons_succ]
            refine wpAnyH_ready (rs := [12]) (by kernel_rfl) (by simp) ?_
            refine storeK 12 _ _ k5 hB4 hn4 rfl (by rfl) 32 _ _ rfl (#[.float .f32 (mixW (x (k * 3 + 1)) (x ((k + 1) * 3 + 1)) (shW x h k)), .float .f32 (mixW (x (k * 3 + 2)) (x ((k + 1) * 3 + 2)) (shW x h k))]) rfl rfl (info_air) (by simp) (by simp [Value.oneCell']) rfl rfl (fun w6 k6 => ?_) AllReadyH.nil
            refine ⟨k6.tail, ?_⟩
            refine wpAnyH_done (by kernel_rfl) (NoPanic.normal ?_) _
            have kz := hid k6
            have A1 := kz.out.at (x := (g4, #[.float .f32 (mixW (x (k * 3 + 1)) (x ((k + 1) * 3 + 1)) (shW x h k)), .float .f32 (mixW (x (k * 3 + 2)) (x ((k + 1) * 3 + 2)) (shW x h k))], 32)) (by simp)
            go_wp2_with fail
            refine (sAirAtQ (mixW (x (k * 3 + 1)) (x ((k + 1) * 3 + 1)) (shW x h k)) (mixW (x (k * 3 + 2)) (x ((k + 1) * 3 + 2)) (shW x h k)) HAt.out.m2.lt false HQ.out _ g4 0 ((cell_of_row _ g4 0 _ _ _ A1).trans rfl) ((cell_of_row _ g4 1 _ _ _ A1).trans rfl)).mono ?_
            rintro e w5 ⟨rfl, m5, rfl⟩
            have k5 := hid (kept_drewK kz.out m5)
            have hne5 : ∀ y ∈ ([(g4, #[.float .f32 (mixW (x (k * 3 + 1)) (x ((k + 1) * 3 + 1)) (shW x h k)), .float .f32 (mixW (x (k * 3 + 2)) (x ((k + 1) * 3 + 2)) (shW x h k))], 32)] : List (Nat × Array Value × TypeId)), y.1 ≠ w.heap.size := by intro y hy; simp at hy; subst hy; exact fun e => hn4 (w.heap.size, #[.float .f32 0, .float .f32 0], 32) (by simp) e.symm
            go_wp2_with (refine store_kept (w0 := w) (l := [(g4, #[.float .f32 (mixW (x (k * 3 + 1)) (x ((k + 1) * 3 + 1)) (shW x h k)), .float .f32 (mixW (x (k * 3 + 2)) (x ((k + 1) * 3 + 2)) (shW x h k))], 32)]) rfl 32 _ _ rfl (w.heap.size) (#[.float .f32 0, .float .f32 0]) rfl rfl 32 (#[.float .f32 0, .float .f32 0]) (k5.out.swap) (Nat.le_refl _) hne5 info_air rfl (by simp [Value.oneCell']) (fun w7 k7 => ?_); replace k7 := hid k7)
            first | exact bodyPost_ret (results_row_tmp2 rfl _ _ (w.heap.size) 32 (#[.float .f32 0, .float .f32 0]) (0, 0) _ rfl (k7.out.at (x := (w.heap.size, #[.float .f32 0, .float .f32 0], 32)) (by simp)) Try.underlying32 rfl info_air) rfl ⟨_, rfl, k7.out.1⟩ | exact bodyPost_ret (results_row_tmp2 rfl _ _ (w.heap.size) 32 (#[.float .f32 0, .float .f32 0]) (0, 0) _ rfl (k7.out.at (x := (w.heap.size, #[.float .f32 0, .float .f32 0], 32)) (by simp)) Try.underlying32 rfl info_air) rfl ⟨⟨_, rfl⟩, k7.out.1⟩
          · rw [hQ, if_pos rfl] at hmid
            injection hmid with e1 e2
            injection e2 with e2 e3
            subst e1 e2 e3
            have HQ := hid hQ
            clear hQ
            go_wp2
            go_quiet (fail)
            clear c0 c1 c2 d0 r1 r2 r3 q1 l1
            replace kr := hid (kept_drewK kr.out nq)
            go_wp2_with fail
            refine region_kept (w0 := w) (l := [(w.heap.size, #[.float .f32 0, .float .f32 0], 32)]) 13 #[false, false, false, false, false, false, false, false, false, false, false, false, false] (by kernel_rfl) rfl rfl ?_
            have kd := kr.out.drew
            generalize World.drew _ = wd at kd ⊢
            refine take_val 0 _ _ (.slice (some ⟨b, o, none⟩) n cap) rfl (by rfl) (by kernel_rfl) (by kernel_rfl) (by kernel_rfl) (fun w => by rfl) rfl rfl kd ?_
            simp only [Act.put, List.setIfInBounds_toArray, List.set_cons_zero, List.set_cons_succ]
            refine take_val 1 _ _ (.int .i64 (k : Int)) rfl (by rfl) (by kernel_rfl) (by kernel_rfl) (by kernel_rfl) (fun w => by rfl) rfl rfl kd ?_
            simp only [Act.put, List.setIfInBounds_toArray, List.set_cons_zero, List.set_cons_succ]
            refine take_val 2 _ _ (.pointer (some ⟨b, o + k * 3, none⟩)) rfl (by rfl) (by kernel_rfl) (by kernel_rfl) (by kernel_rfl) (fun w => run_index_op _ _ rfl rfl (i1 w)) rfl rfl kd ?_
            simp only [Act.put, List.setIfInBounds_toArray, List.set_cons_zero, List.set_cons_succ]
            refine take_val 3 _ _ (.pointer (some ⟨b, o + k * 3 + 1, none⟩)) rfl (by rfl) (by kernel_rfl) (by kernel_rfl) (by kernel_rfl) (fun w => by unfold execOp; go_simp) rfl rfl kd ?_
            simp only [Act.put, List.setIfInBounds_toArray, List.set_cons_zero, List.set_cons_succ]
            refine take_val 4 _ _ (.slice (some ⟨b, o, none⟩) n cap) rfl (by rfl) (by kernel_rfl) (by kernel_rfl) (by kernel_rfl) (fun w => by rfl) rfl rfl kd ?_
            simp only [Act.put, List.setIfInBounds_toArray, List.set_cons_zero, List.set_cons_succ]
            refine take_val 5 _ _ (.int .i64 (k : Int)) rfl (by rfl) (by kernel_rfl) (by kernel_rfl) (by kernel_rfl) (fun w => by rfl) rfl rfl kd ?_
            simp only [Act.put, List.setIfInBounds_toArray, List.set_cons_zero, List.set_cons_succ]
            refine take_val 6 _ _ (.int .i64 ((k : Int) + 1)) rfl (by rfl) (by kernel_rfl) (by kernel_rfl) (by kernel_rfl) (fun w => run_binop_val _ _ _ _ (by rfl) (by rfl) (by simp [eqGuard]) (run_succ HKN.out w)) rfl rfl kd ?_
            simp only [Act.put, List.setIfInBounds_toArray, List.set_cons_zero, List.set_cons_succ]
            refine take_val 7 _ _ (.pointer (some ⟨b, o + (k + 1) * 3, none⟩)) rfl (by rfl) (by kernel_rfl) (by kernel_rfl) (by kernel_rfl) (fun w => run_index_op _ _ rfl rfl (i2 w)) rfl rfl kd ?_
            simp only [Act.put, List.setIfInBounds_toArray, List.set_cons_zero, List.set_cons_succ]
            refine take_val 8 _ _ (.pointer (some ⟨b, o + (k + 1) * 3 + 1, none⟩)) rfl (by rfl) (by kernel_rfl) (by kernel_rfl) (by kernel_rfl) (fun w => by unfold execOp; go_simp) rfl rfl kd ?_
            simp only [Act.put, List.setIfInBounds_toArray, List.set_cons_zero, List.set_cons_succ]
            refine take_val 9 _ _ (.float .f32 (shW x h k)) rfl (by rfl) (by kernel_rfl) (by kernel_rfl) (by kernel_rfl) (fun w => by rfl) rfl rfl kd ?_
            simp only [Act.put, List.setIfInBounds_toArray, List.set_cons_zero, List.set_cons_succ]
            refine wpAnyH_ready (rs := [10, 11]) (by kernel_rfl) (by simp) ?_
            refine callK 10 _ _ (.agg #[.float .f32 (mixW (x (k * 3 + 1)) (x ((k + 1) * 3 + 1)) (shW x h k)), .float .f32 (mixW (x (k * 3 + 2)) (x ((k + 1) * 3 + 2)) (shW x h k))]) kd rfl (by rfl) 112 #[.pointer (some ⟨b, o + k * 3 + 1, none⟩), .pointer (some ⟨b, o + (k + 1) * 3 + 1, none⟩), .float .f32 (shW x h k)] (fun w => by unfold execOp; go_simp) rfl rfl ?hc1 (fun w1 k1 => ?_) ?_
            case hc1 => exact sMixAt _ _ _ _ _ HAt.out.m1 HAt.out.m2 _ _ _ _ _ (fun w9 hb => HCC.out w9 (kd.1.trans (hb.mono kd.1.size)))
            · refine ⟨k1, ?_⟩
              simp only [Act.put, List.setIfInBounds_toArray, List.set_cons_zero, List.set_cons_succ]
              refine wpAnyH_ready (rs := [11]) (by kernel_rfl) (by simp) ?_
              refine allocK 11 (fun g => _) _ k1 rfl (by rfl) (#[.float .f32 0, .float .f32 0]) 32 (by unfold execOp; go_simp) (fun g => rfl) rfl (fun w2 g2 k2 hB2 hn2 => ?_) AllReadyH.nil
              refine ⟨k2.tail, ?_⟩
              simp only [Act.put, List.setIfInBounds_toArray, List.set_cons_zero, List.set_cons_succ]
              refine wpAnyH_ready (rs := [12]) (by kernel_rfl) (by simp) ?_
              refine storeK 12 _ _ k2 hB2 hn2 rfl (by rfl) 32 _ _ rfl (#[.float .f32 (mixW (x (k * 3 + 1)) (x ((k + 1) * 3 + 1)) (shW x h k)), .float .f32 (mixW (x (k * 3 + 2)) (x ((k + 1) * 3 + 2)) (shW x h k))]) rfl rfl (info_air) (by simp) (by simp [Value.oneCell']) rfl rfl (fun w3 k3 => ?_) AllReadyH.nil
              refine ⟨k3.tail, ?_⟩
              refine wpAnyH_done (by kernel_rfl) (NoPanic.normal ?_) _
              have kz := hid k3
              have A1 := kz.out.at (x := (g2, #[.float .f32 (mixW (x (k * 3 + 1)) (x ((k + 1) * 3 + 1)) (shW x h k)), .float .f32 (mixW (x (k * 3 + 2)) (x ((k + 1) * 3 + 2)) (shW x h k))], 32)) (by simp)
              go_wp2_with fail
              refine (sAirAtQ (mixW (x (k * 3 + 1)) (x ((k + 1) * 3 + 1)) (shW x h k)) (mixW (x (k * 3 + 2)) (x ((k + 1) * 3 + 2)) (shW x h k)) HAt.out.m2.lt true HQ.out _ g2 0 ((cell_of_row _ g2 0 _ _ _ A1).trans rfl) ((cell_of_row _ g2 1 _ _ _ A1).trans rfl)).mono ?_
              rintro e w5 ⟨rfl, m5, rfl⟩
              have k5 := hid (kept_drewK kz.out m5)
              have hne5 : ∀ y ∈ ([(g2, #[.float .f32 (mixW (x (k * 3 + 1)) (x ((k + 1) * 3 + 1)) (shW x h k)), .float .f32 (mixW (x (k * 3 + 2)) (x ((k + 1) * 3 + 2)) (shW x h k))], 32)] : List (Nat × Array Value × TypeId)), y.1 ≠ w.heap.size := by intro y hy; simp at hy; subst hy; exact fun e => hn2 (w.heap.size, #[.float .f32 0, .float .f32 0], 32) (by simp) e.symm
              go_wp2_with (first | (refine store_kept (w0 := w) (l := [(g2, #[.float .f32 (mixW (x (k * 3 + 1)) (x ((k + 1) * 3 + 1)) (shW x h k)), .float .f32 (mixW (x (k * 3 + 2)) (x ((k + 1) * 3 + 2)) (shW x h k))], 32)]) rfl 32 _ _ rfl (w.heap.size) (#[.float .f32 (mixW (x (k * 3 + 1)) (x ((k + 1) * 3 + 1)) (shW x h k)), .float .f32 (mixW (x (k * 3 + 2)) (x ((k + 1) * 3 + 2)) (shW x h k))]) rfl rfl 32 (#[.float .f32 0, .float .f32 0]) (k5.out.swap) (Nat.le_refl _) hne5 info_air rfl (by simp [Value.oneCell']) (fun w7 k7 => ?_); replace k7 := hid k7) | (refine wpList_load_row rfl 32 _ rfl (g2) rfl 32 (#[.float .f32 (mixW (x (k * 3 + 1)) (x ((k + 1) * 3 + 1)) (shW x h k)), .float .f32 (mixW (x (k * 3 + 2)) (x ((k + 1) * 3 + 2)) (shW x h k))]) (0, 0) _ (k5.out.at (x := (g2, #[.float .f32 (mixW (x (k * 3 + 1)) (x ((k + 1) * 3 + 1)) (shW x h k)), .float .f32 (mixW (x (k * 3 + 2)) (x ((k + 1) * 3 + 2)) (shW x h k))], 32)) (by simp)) Try.underlying32 rfl info_air ?_))
              first | exact bodyPost_ret (results_row_tmp2 rfl _ _ (w.heap.size) 32 (#[.float .f32 (mixW (x (k * 3 + 1)) (x ((k + 1) * 3 + 1)) (shW x h k)), .float .f32 (mixW (x (k * 3 + 2)) (x ((k + 1) * 3 + 2)) (shW x h k))]) (0, 0) _ rfl (k7.out.at (x := (w.heap.size, #[.float .f32 (mixW (x (k * 3 + 1)) (x ((k + 1) * 3 + 1)) (shW x h k)), .float .f32 (mixW (x (k * 3 + 2)) (x ((k + 1) * 3 + 2)) (shW x h k))], 32)) (by simp)) Try.underlying32 rfl info_air) rfl ⟨_, rfl, k7.out.1⟩ | exact bodyPost_ret (results_row_tmp2 rfl _ _ (w.heap.size) 32 (#[.float .f32 (mixW (x (k * 3 + 1)) (x ((k + 1) * 3 + 1)) (shW x h k)), .float .f32 (mixW (x (k * 3 + 2)) (x ((k + 1) * 3 + 2)) (shW x h k))]) (0, 0) _ rfl (k7.out.at (x := (w.heap.size, #[.float .f32 (mixW (x (k * 3 + 1)) (x ((k + 1) * 3 + 1)) (shW x h k)), .float .f32 (mixW (x (k * 3 + 2)) (x ((k + 1) * 3 + 2)) (shW x h k))], 32)) (by simp)) Try.underlying32 rfl info_air) rfl ⟨⟨_, rfl⟩, k7.out.1⟩
            refine allocK 11 (fun g => _) _ kd rfl (by rfl) (#[.float .f32 0, .float .f32 0]) 32 (by unfold execOp; go_simp) (fun g => rfl) rfl (fun w4 g4 k4 hB4 hn4 => ?_) AllReadyH.nil
            refine ⟨k4.tail, ?_⟩
            simp only [Act.put, List.setIfInBounds_toArray, List.set_cons_zero, List.set_cons_succ]
            refine wpAnyH_ready (rs := [10]) (by kernel_rfl) (by simp) ?_
            refine callK 10 _ _ (.agg #[.float .f32 (mixW (x (k * 3 + 1)) (x ((k + 1) * 3 + 1)) (shW x h k)), .float .f32 (mixW (x (k * 3 + 2)) (x ((k + 1) * 3 + 2)) (shW x h k))]) k4 rfl (by rfl) 112 #[.pointer (some ⟨b, o + k * 3 + 1, none⟩), .pointer (some ⟨b, o + (k + 1) * 3 + 1, none⟩), .float .f32 (shW x h k)] (fun w => by unfold execOp; go_simp) rfl rfl ?hc5 (fun w5 k5 => ?_) AllReadyH.nil
            case hc5 => exact sMixAt _ _ _ _ _ HAt.out.m1 HAt.out.m2 _ _ _ _ _ (fun w9 hb => HCC.out w9 (k4.1.trans (hb.mono k4.1.size)))
            refine ⟨k5.tail, ?_⟩
            simp only [Act.put, List.setIfInBounds_toArray, List.set_cons_zero, List.set_cons_succ]
            refine wpAnyH_ready (rs := [12]) (by kernel_rfl) (by simp) ?_
            refine storeK 12 _ _ k5 hB4 hn4 rfl (by rfl) 32 _ _ rfl (#[.float .f32 (mixW (x (k * 3 + 1)) (x ((k + 1) * 3 + 1)) (shW x h k)), .float .f32 (mixW (x (k * 3 + 2)) (x ((k + 1) * 3 + 2)) (shW x h k))]) rfl rfl (info_air) (by simp) (by simp [Value.oneCell']) rfl rfl (fun w6 k6 => ?_) AllReadyH.nil
            refine ⟨k6.tail, ?_⟩
            refine wpAnyH_done (by kernel_rfl) (NoPanic.normal ?_) _
            have kz := hid k6
            have A1 := kz.out.at (x := (g4, #[.float .f32 (mixW (x (k * 3 + 1)) (x ((k + 1) * 3 + 1)) (shW x h k)), .float .f32 (mixW (x (k * 3 + 2)) (x ((k + 1) * 3 + 2)) (shW x h k))], 32)) (by simp)
            go_wp2_with fail
            refine (sAirAtQ (mixW (x (k * 3 + 1)) (x ((k + 1) * 3 + 1)) (shW x h k)) (mixW (x (k * 3 + 2)) (x ((k + 1) * 3 + 2)) (shW x h k)) HAt.out.m2.lt true HQ.out _ g4 0 ((cell_of_row _ g4 0 _ _ _ A1).trans rfl) ((cell_of_row _ g4 1 _ _ _ A1).trans rfl)).mono ?_
            rintro e w5 ⟨rfl, m5, rfl⟩
            have k5 := hid (kept_drewK kz.out m5)
            have hne5 : ∀ y ∈ ([(g4, #[.float .f32 (mixW (x (k * 3 + 1)) (x ((k + 1) * 3 + 1)) (shW x h k)), .float .f32 (mixW (x (k * 3 + 2)) (x ((k + 1) * 3 + 2)) (shW x h k))], 32)] : List (Nat × Array Value × TypeId)), y.1 ≠ w.heap.size := by intro y hy; simp at hy; subst hy; exact fun e => hn4 (w.heap.size, #[.float .f32 0, .float .f32 0], 32) (by simp) e.symm
            go_wp2_with (first | (refine store_kept (w0 := w) (l := [(g4, #[.float .f32 (mixW (x (k * 3 + 1)) (x ((k + 1) * 3 + 1)) (shW x h k)), .float .f32 (mixW (x (k * 3 + 2)) (x ((k + 1) * 3 + 2)) (shW x h k))], 32)]) rfl 32 _ _ rfl (w.heap.size) (#[.float .f32 (mixW (x (k * 3 + 1)) (x ((k + 1) * 3 + 1)) (shW x h k)), .float .f32 (mixW (x (k * 3 + 2)) (x ((k + 1) * 3 + 2)) (shW x h k))]) rfl rfl 32 (#[.float .f32 0, .float .f32 0]) (k5.out.swap) (Nat.le_refl _) hne5 info_air rfl (by simp [Value.oneCell']) (fun w7 k7 => ?_); replace k7 := hid k7) | (refine wpList_load_row rfl 32 _ rfl (g4) rfl 32 (#[.float .f32 (mixW (x (k * 3 + 1)) (x ((k + 1) * 3 + 1)) (shW x h k)), .float .f32 (mixW (x (k * 3 + 2)) (x ((k + 1) * 3 + 2)) (shW x h k))]) (0, 0) _ (k5.out.at (x := (g4, #[.float .f32 (mixW (x (k * 3 + 1)) (x ((k + 1) * 3 + 1)) (shW x h k)), .float .f32 (mixW (x (k * 3 + 2)) (x ((k + 1) * 3 + 2)) (shW x h k))], 32)) (by simp)) Try.underlying32 rfl info_air ?_))
            first | exact bodyPost_ret (results_row_tmp2 rfl _ _ (w.heap.size) 32 (#[.float .f32 (mixW (x (k * 3 + 1)) (x ((k + 1) * 3 + 1)) (shW x h k)), .float .f32 (mixW (x (k * 3 + 2)) (x ((k + 1) * 3 + 2)) (shW x h k))]) (0, 0) _ rfl (k7.out.at (x := (w.heap.size, #[.float .f32 (mixW (x (k * 3 + 1)) (x ((k + 1) * 3 + 1)) (shW x h k)), .float .f32 (mixW (x (k * 3 + 2)) (x ((k + 1) * 3 + 2)) (shW x h k))], 32)) (by simp)) Try.underlying32 rfl info_air) rfl ⟨_, rfl, k7.out.1⟩ | exact bodyPost_ret (results_row_tmp2 rfl _ _ (w.heap.size) 32 (#[.float .f32 (mixW (x (k * 3 + 1)) (x ((k + 1) * 3 + 1)) (shW x h k)), .float .f32 (mixW (x (k * 3 + 2)) (x ((k + 1) * 3 + 2)) (shW x h k))]) (0, 0) _ rfl (k7.out.at (x := (w.heap.size, #[.float .f32 (mixW (x (k * 3 + 1)) (x ((k + 1) * 3 + 1)) (shW x h k)), .float .f32 (mixW (x (k * 3 + 2)) (x ((k + 1) * 3 + 2)) (shW x h k))], 32)) (by simp)) Try.underlying32 rfl info_air) rfl ⟨⟨_, rfl⟩, k7.out.1⟩
    · obtain rfl : n = k + 1 := by omega
      have hk3 : ¬ (k : Int) + 1 < ((k + 1 : Nat) : Int) := by omega
      have he : sv (x (k * 3)) = sv h := by
        have h1 := HY9.out
        rw [Nat.add_sub_cancel] at h1
        have := HK0.out
        omega
      obtain ⟨rfl, rfl, rfl⟩ := heq he
      rw [decide_eq_true he] at q1
      clear he heq
      go_wp2_with (first | (refine store_kept (w0 := w) (l := []) rfl 32 _ _ rfl (w.heap.size) (#[.float .f32 (x (k * 3 + 1)), .float .f32 (x (k * 3 + 2))]) rfl rfl 32 (#[.float .f32 0, .float .f32 0]) (kr.out) (Nat.le_refl _) (by simp) info_air rfl (by simp [Value.oneCell']) (fun w7 k7 => ?_); replace k7 := hid k7) | (refine wpList_load_mid rfl 32 _ rfl b (o + k * 3 + 1) rfl [.float .f32 (x (k * 3 + 1)), .float .f32 (x (k * 3 + 2))] _ (range2 c1 c2) Try.underlying32 rfl info_air ?_))
      first | exact bodyPost_ret (results_row_tmp2 rfl _ _ (w.heap.size) 32 (#[.float .f32 (x (k * 3 + 1)), .float .f32 (x (k * 3 + 2))]) (0, 0) _ rfl (k7.out.at (x := (w.heap.size, #[.float .f32 (x (k * 3 + 1)), .float .f32 (x (k * 3 + 2))], 32)) (by simp)) Try.underlying32 rfl info_air) rfl ⟨_, rfl, k7.out.1⟩ | exact bodyPost_ret (results_row_tmp2 rfl _ _ (w.heap.size) 32 (#[.float .f32 (x (k * 3 + 1)), .float .f32 (x (k * 3 + 2))]) (0, 0) _ rfl (k7.out.at (x := (w.heap.size, #[.float .f32 (x (k * 3 + 1)), .float .f32 (x (k * 3 + 2))], 32)) (by simp)) Try.underlying32 rfl info_air) rfl ⟨⟨_, rfl⟩, k7.out.1⟩

theorem iMixR (x : Nat → Nat) (h k : Nat) (hx : W32 x) (A : AtF x h k) (l0 : lvB x k = true) (l1 : lvB x (k + 1) = true) (w : World) :
    Calls Try.prog 120 #[.agg #[.float .f32 (x (k * 3 + 1)), .float .f32 (x (k * 3 + 2))], .agg #[.float .f32 (x ((k + 1) * 3 + 1)), .float .f32 (x ((k + 1) * 3 + 2))], .float .f32 (shW x h k)] w fun e w' => e = .returned (.tuple #[.agg #[.float .f32 (mixR x h k).1, .float .f32 (mixR x h k).2.1], .int .i64 (mixR x h k).2.2]) ∧ Below w.heap.size w w' := by
  have a0 := (parB_iff.1 l0).2
  have a1 := (parB_iff.1 l1).2
  unfold mixR
  rcases hr : airB (mixW (x (k * 3 + 1)) (x ((k + 1) * 3 + 1)) (shW x h k)) (mixW (x (k * 3 + 2)) (x ((k + 1) * 3 + 2)) (shW x h k)) with _ | _
  · exact iMixAir_state _ _ _ _ _ (hx _) a0 (hx _) a1 A.sh A.m1 A.m2 hr w
  · exact iMixAir_ok _ _ _ _ _ (hx _) a0 (hx _) a1 A.sh A.m1 A.m2 hr w

set_option maxRecDepth 100000 in
set_option maxHeartbeats 8000000 in
theorem iAirAt (n : Nat) (x : Nat → Nat) (hx : W32 x) (hq : souB n x = true) (h : Nat) (rh rv : Nat) (c' : Int) (hr : atR n x h = (rh, rv, c'))
    (hM : ∀ k, k + 1 < n → gtH x h k = true → ltH x h (k + 1) = true → AtF x h k) (w : World) (s : Value) (hs : Rd w s n x) (hn : n ≤ 1048576) :
    Calls Try.prog 179 #[s, .float .f32 h] w fun e w' => e = .returned (.tuple #[.agg #[.float .f32 rh, .float .f32 rv], .int .i64 c']) ∧ Below w.heap.size w w' := by
  obtain ⟨p, cap, rfl, hc⟩ := id hs
  have HV := hid (fun u (hu : Below w.heap.size w u) => iValidSounding _ n x hn hx u (hs.stay hu) true hq)
  have HC := hid hc
  have HM := hid hM
  have HR := hid hr
  have HX := hid hx
  have HL := hid (fun k (hk : k < n) => (souB_iff.1 hq).lv k hk)
  clear hr hM
  clear hc hx hq hs
  have kA : Hid (Kept w [(w.heap.size + 1 + 1, #[.int .i64 0], 2), (w.heap.size + 1, #[.float .f32 0, .float .f32 0], 32), (w.heap.size, #[.float .f32 h], 22)] (((w.alloc (.cells #[.float .f32 h] 22)).alloc (.cells #[.float .f32 0, .float .f32 0] 32)).alloc (.cells #[.int .i64 0] 2))) := hid (by have := (((Kept.nil w).push #[.float .f32 h] 22).push #[.float .f32 0, .float .f32 0] 32).push #[.int .i64 0] 2; simp only [World.size_alloc] at this; exact this)
  refine (callsIn_wide (n := 9)).1 ?_
  refine callsIn_of_wp_marks Try.func179 rfl trivial ?_ rfl
  simp only [Try.ntmps179, List.size_toArray, List.length_cons, List.length_nil, Nat.reduceAdd, Nat.reduceSub, Array.replicate_succ, Array.replicate_zero, List.push_toArray, List.append_toArray, List.nil_append, List.cons_append]
  gi_wp2_with (first | (refine ⟨trivial, ?_⟩; gi_at_call 93; refine (callsIn_wide.2 (HV.out _ kA.out.1)).mono ?_; rintro e w1 ⟨rfl, hb1⟩; have k1 := hid (kA.out.stay hb1); have hA : w1.heap[w.heap.size + 1]? = some (.cells #[.float .f32 0, .float .f32 0] 32 (0, 0)) := k1.out.at (x := (w.heap.size + 1, #[.float .f32 0, .float .f32 0], 32)) (by simp); have hI : w1.heap[w.heap.size + 1 + 1]? = some (.cells #[.int .i64 0] 2 (0, 0)) := k1.out.at (x := (w.heap.size + 1 + 1, #[.int .i64 0], 2)) (by simp); have hH : w1.heap[w.heap.size]? = some (.cells #[.float .f32 h] 22 (0, 0)) := k1.out.at (x := (w.heap.size, #[.float .f32 h], 22)) (by simp); have eA0 : w1.cell? ⟨w.heap.size + 1, 0, none⟩ = some (.float .f32 0) := (cell_of_row _ _ 0 _ _ _ hA).trans rfl; have eA1 : w1.cell? ⟨w.heap.size + 1, 1, none⟩ = some (.float .f32 0) := (cell_of_row _ _ 1 _ _ _ hA).trans rfl; have eI : w1.cell? ⟨w.heap.size + 1 + 1, 0, none⟩ = some (.int .i64 0) := (cell_of_row _ _ 0 _ _ _ hI).trans rfl; have eH : w1.cell? ⟨w.heap.size, 0, none⟩ = some (.float .f32 h) := (cell_of_row _ _ 0 _ _ _ hH).trans rfl; have fA0 := frozen_of_row w1 (w.heap.size + 1) 0 _ _ hA; have fA1 := frozen_of_row w1 (w.heap.size + 1) 1 _ _ hA; have fI := frozen_of_row w1 (w.heap.size + 1 + 1) 0 _ _ hI) | (refine ⟨trivial, ?_⟩; gi_at_call 140; refine (callsIn_wide.2 (iNeighbours _ _ _ _)).mono ?_; rintro e w' ⟨rfl, rfl⟩))
  have hge := k1.out.1.size
  have hs1 := k1.out.lt (x := (w.heap.size + 1 + 1, #[.int .i64 0], 2)) (by simp)
  have hs2 : w.heap.size + 1 + 1 < w1.heap.size := hs1
  clear eA0 eA1 eI eH fA0 fA1 fI hA hI hH hs1
  have bC := Boxed.new w1 78 (.slice p n cap)
  have kB : Hid (Kept w [(w.heap.size + 1 + 1, #[.int .i64 0], 2), (w.heap.size + 1, #[.float .f32 0, .float .f32 0], 32), (w.heap.size, #[.float .f32 h], 22)] (w1.alloc (.cells #[.slice p n cap] 78))) := hid (k1.out.alloc _)
  have hsz : (w1.alloc (.cells #[.slice p n cap] 78)).heap.size = w1.heap.size + 1 := by simp
  clear hb1
  obtain ⟨W0, hW0⟩ : ∃ W0, w1.alloc (.cells #[.slice p n cap] 78) = W0 := ⟨_, rfl⟩
  rw [hW0] at bC kB hsz ⊢
  clear hW0
  refine wpIn_rangeFunc_ownH (α := Fin (n - 1)) rfl (by decide) (gf := 170) (lb := #[.pointer (some ⟨w1.heap.size, 0, none⟩)]) rfl trivial (Go.Proofs.enters_of Try.func170 (by kernel_rfl) rfl)
    (neighbours_stops 8 w1.heap.size W0.heap.size p n cap x hn W0 (by omega) (Nat.le_refl _) bC.cell (fun hp => by
      obtain ⟨b, o, e, hk⟩ := HC.out hp
      have hb := block_lt_of_cell (hk 0 (by omega))
      exact ⟨b, o, e, by simp at hb; omega, fun j hj => (kB.out.1.cell (p := ⟨b, o + j, none⟩) hb).trans (hk j hj)⟩)) belowK_t (belowK_b (Nat.le_refl _)) (Below.refl _ _) (fun _ => rfl)
    (fun pre W => (∀ i ∈ pre, stopH x h i.1 = false) ∧ Below W0.heap.size W0 W)
    (fun c pre W => (∃ z : List (Fin (n - 1)) × Fin (n - 1), ((c = .ret ∧ pre = z.1 ++ [z.2] ∧ (∀ i ∈ z.1, stopH x h i.1 = false) ∧ stopH x h z.2.1 = true) ∧ W.heap[w.heap.size + 1]? = some (.cells #[.float .f32 (layR x h z.2.1).1, .float .f32 (layR x h z.2.1).2.1] 32 (0, 0))) ∧ Boxed W (w.heap.size + 1 + 1) 2 (.int .i64 (layR x h z.2.1).2.2)) ∧ Below w.heap.size w W)
    (OwnFrom.and (ownFrom_pure _ _) (ownFrom_below (Nat.le_refl _) (Nat.le_refl _)))
    (fun c => OwnFrom.and (fun s X Y row hs hg hr => by
      obtain ⟨z, ⟨h1, h2⟩, h3⟩ := hs
      exact ⟨z, ⟨h1, row_own (w.heap.size + 1) 32 (fun (_ : Unit) => _) () X Y row h2 hg (fun r e => (hr r e).2)⟩, boxed_own _ _ (fun (_ : Unit) => _) () X Y row h3 hg (fun r e => (hr r e).2)⟩) (ownFrom_below (Nat.le_refl _) (by omega)))
    ⟨by simp, Below.refl _ _⟩
    (fun j a' W => ∃ Bx, W0.heap.size ≤ Bx ∧ W.heap[Bx]? = some (.cells #[.float .f32 (x (j.1 * 3)), .float .f32 (x (j.1 * 3 + 1)), .float .f32 (x (j.1 * 3 + 2)), .float .f32 (x ((j.1 + 1) * 3)), .float .f32 (x ((j.1 + 1) * 3 + 1)), .float .f32 (x ((j.1 + 1) * 3 + 2))] 214 (0, 0)) ∧ a' = { tmps := #[.slice p n cap, .float .f32 h, undef, .pointer (some ⟨w.heap.size, 0, none⟩), .pointer (some ⟨w.heap.size + 1, 0, none⟩), .pointer (some ⟨w.heap.size + 1 + 1, 0, none⟩), undef, .pointer (some ⟨Bx, 0, none⟩), .slice p n cap, .bool true, .bool false, undef, .slice p n cap, .func (.func 170) #[] #[.pointer (some ⟨w1.heap.size, 0, none⟩)], .int .i64 (j.1 : Int), .agg #[.float .f32 (x (j.1 * 3)), .float .f32 (x (j.1 * 3 + 1)), .float .f32 (x (j.1 * 3 + 2)), .float .f32 (x ((j.1 + 1) * 3)), .float .f32 (x ((j.1 + 1) * 3 + 1)), .float .f32 (x ((j.1 + 1) * 3 + 2))], undef, undef, undef, undef, undef, undef, undef, undef, undef, undef, undef, undef, undef, undef, undef, undef, undef, undef, undef, undef, undef, undef, undef, undef, undef, undef, undef, undef, undef, undef, undef, undef, undef, undef, undef, undef, undef, undef, undef, undef, undef, undef, undef, undef, undef, undef, undef, undef, undef], defers := [] })
    (fun j a' _ X Y row hs hg hr => by obtain ⟨Bx, e1, e2, e3⟩ := hs; exact ⟨Bx, e1, row_own Bx 214 (fun (_ : Unit) => _) () X Y row e2 hg (fun r e => (hr r e).2), e3⟩)
    ?assign ?body ?done ?stop
  case assign =>
    rintro l pre j W K ⟨hp, hB⟩ hK
    have hS := hB.size
    unfold encL
    gi_wp2
    exact hK _ _ ((KeepsOthers.alloc _ _).from _) ((Below.refl _ W).alloc (by omega) _) ⟨hp, hB.alloc (by omega) _⟩ ⟨W.heap.size, by omega, heap_alloc_new _ _, rfl⟩
  case body =>
    rintro l pre j a' W hl ⟨r', hr⟩ ⟨hp, hB⟩ ⟨Bx, hBx, bX, rfl⟩ hlt
    have hS := hB.size
    have kW := hid (kB.out.stay hB)
    have hBW : Below w.heap.size w W := kW.out.1
    clear hr
    have hA : W.heap[w.heap.size + 1]? = some (.cells #[.float .f32 0, .float .f32 0] 32 (0, 0)) := kW.out.at (x := (w.heap.size + 1, #[.float .f32 0, .float .f32 0], 32)) (by simp)
    have hI : W.heap[w.heap.size + 1 + 1]? = some (.cells #[.int .i64 0] 2 (0, 0)) := kW.out.at (x := (w.heap.size + 1 + 1, #[.int .i64 0], 2)) (by simp)
    have hH : W.heap[w.heap.size]? = some (.cells #[.float .f32 h] 22 (0, 0)) := kW.out.at (x := (w.heap.size, #[.float .f32 h], 22)) (by simp)
    have eA0 : W.cell? ⟨w.heap.size + 1, 0, none⟩ = some (.float .f32 0) := (cell_of_row _ _ 0 _ _ _ hA).trans rfl
    have eA1 : W.cell? ⟨w.heap.size + 1, 1, none⟩ = some (.float .f32 0) := (cell_of_row _ _ 1 _ _ _ hA).trans rfl
    have eI : W.cell? ⟨w.heap.size + 1 + 1, 0, none⟩ = some (.int .i64 0) := (cell_of_row _ _ 0 _ _ _ hI).trans rfl
    have eH : W.cell? ⟨w.heap.size, 0, none⟩ = some (.float .f32 h) := (cell_of_row _ _ 0 _ _ _ hH).trans rfl
    have fA0 := frozen_of_row W (w.heap.size + 1) 0 _ _ hA
    have fA1 := frozen_of_row W (w.heap.size + 1) 1 _ _ hA
    have fI := frozen_of_row W (w.heap.size + 1 + 1) 0 _ _ hI
    have g0 : W.cell? ⟨Bx, 0, none⟩ = some (.float .f32 (x (j.1 * 3))) := (cell_of_row W Bx 0 _ _ _ bX).trans rfl
    have g1 : W.cell? ⟨Bx, 1, none⟩ = some (.float .f32 (x (j.1 * 3 + 1))) := (cell_of_row W Bx 1 _ _ _ bX).trans rfl
    have g2 : W.cell? ⟨Bx, 2, none⟩ = some (.float .f32 (x (j.1 * 3 + 2))) := (cell_of_row W Bx 2 _ _ _ bX).trans rfl
    have g3 : W.cell? ⟨Bx, 3, none⟩ = some (.float .f32 (x ((j.1 + 1) * 3))) := (cell_of_row W Bx 3 _ _ _ bX).trans rfl
    have g4 : W.cell? ⟨Bx, 4, none⟩ = some (.float .f32 (x ((j.1 + 1) * 3 + 1))) := (cell_of_row W Bx 4 _ _ _ bX).trans rfl
    have g5 : W.cell? ⟨Bx, 5, none⟩ = some (.float .f32 (x ((j.1 + 1) * 3 + 2))) := (cell_of_row W Bx 5 _ _ _ bX).trans rfl
    have hC1 : (FloatKind.f32.format.order h (x (j.1 * 3)) == some .eq) = eqH x h j.1 := rfl
    have hC2 : (FloatKind.f32.format.order h (x ((j.1 + 1) * 3)) == some .eq) = eqH x h (j.1 + 1) := rfl
    have hC3 : (FloatKind.f32.format.order h (x (j.1 * 3)) == some .gt) = gtH x h j.1 := rfl
    have hC4 : (FloatKind.f32.format.order h (x ((j.1 + 1) * 3)) == some .lt) = ltH x h (j.1 + 1) := rfl
    rcases q1 : eqH x h j.1 with _ | _
    · rcases q2 : eqH x h (j.1 + 1) with _ | _
      · rcases q3 : gtH x h j.1 with _ | _
        · have hstop : stopH x h j.1 = false := by unfold stopH; rw [q1, q2, q3]; rfl
          rw [q1] at hC1; rw [q2] at hC2; rw [q3] at hC3
          clear q1 q2 q3 hC4
          gi_wp2
          exact ⟨KeepsFrom.refl _ _, Below.refl _ _, fun i hi => (List.mem_append.1 hi).elim (hp i) (fun e => by simp at e; rw [e]; exact hstop), hB⟩
        · rcases q4 : ltH x h (j.1 + 1) with _ | _
          · have hstop : stopH x h j.1 = false := by unfold stopH; rw [q1, q2, q3, q4]; rfl
            rw [q1] at hC1; rw [q2] at hC2; rw [q3] at hC3; rw [q4] at hC4
            clear q1 q2 q3 q4
            gi_wp2
            exact ⟨KeepsFrom.refl _ _, Below.refl _ _, fun i hi => (List.mem_append.1 hi).elim (hp i) (fun e => by simp at e; rw [e]; exact hstop), hB⟩
          · have hstop : stopH x h j.1 = true := by unfold stopH; rw [q1, q2, q3, q4]; rfl
            have HAt := hid (HM.out j.1 (by have := j.2; omega) q3 q4)
            have hL : layR x h j.1 = mixR x h j.1 := by unfold layR; rw [if_neg (by rw [q1]; decide), if_neg (by rw [q2]; decide)]
            rw [q1] at hC1; rw [q2] at hC2; rw [q3] at hC3; rw [q4] at hC4
            clear q1 q2 q3 q4
            have r1 := fun w => run_float_arith (P := Try.prog) w .sub 22 .f32 _ _ _ HAt.out.d1
            have r3 := fun w => run_float_arith (P := Try.prog) w .quo 22 .f32 _ _ _ HAt.out.q
            have HMx := fun w => iMixR x h j.1 HX.out HAt.out (HL.out j.1 (by have := j.2; omega)) (HL.out (j.1 + 1) (by have := j.2; omega)) w
            generalize mixR x h j.1 = mm at hL HMx
            obtain ⟨mh, mv, mc⟩ := mm
            gi_wp2_with fail

            refine regionIn_round l 19 #[false, false, false, false, false, false, false, false, false, false, false, false, false, false, false, false, false, false, false] (by kernel_rfl) rfl (by kernel_rfl) rfl rfl ?_
            refine with_name fun G hG => ?_
            have s2569bc : ∀ Wd, Below W.heap.size W Wd → G 5 #[true, true, true, true, true, true, true, true, true, true, true, true, true, true, false, false, false, false, false] ({ tmps := #[.slice p n cap, .float .f32 h, undef, .pointer (some ⟨w.heap.size, 0, none⟩), .pointer (some ⟨w.heap.size + 1, 0, none⟩), .pointer (some ⟨w.heap.size + 1 + 1, 0, none⟩), undef, .pointer (some ⟨Bx, 0, none⟩), .slice p n cap, .bool true, .bool false, undef, .slice p n cap, .func (.func 170) #[] #[.pointer (some ⟨w1.heap.size, 0, none⟩)], .int .i64 (j.1 : Int), .agg #[.float .f32 (x (j.1 * 3)), .float .f32 (x (j.1 * 3 + 1)), .float .f32 (x (j.1 * 3 + 2)), .float .f32 (x ((j.1 + 1) * 3)), .float .f32 (x ((j.1 + 1) * 3 + 1)), .float .f32 (x ((j.1 + 1) * 3 + 2))], .bool false, .float .f32 h, .pointer (some ⟨Bx, 0, none⟩), .pointer (some ⟨Bx, 0, none⟩), .float .f32 (x (j.1 * 3)), .bool false, undef, undef, undef, .bool false, .float .f32 h, .pointer (some ⟨Bx, 3, none⟩), .pointer (some ⟨Bx, 3, none⟩), .float .f32 (x ((j.1 + 1) * 3)), .bool false, undef, undef, undef, .bool true, .float .f32 h, .pointer (some ⟨Bx, 0, none⟩), .pointer (some ⟨Bx, 0, none⟩), .float .f32 (x (j.1 * 3)), .bool true, .bool true, .float .f32 h, .pointer (some ⟨Bx, 3, none⟩), .pointer (some ⟨Bx, 3, none⟩), .float .f32 (x ((j.1 + 1) * 3)), .bool true, .bool true, .pointer (some ⟨Bx, 0, none⟩), .pointer (some ⟨Bx, 1, none⟩), .agg #[.float .f32 (x (j.1 * 3 + 1)), .float .f32 (x (j.1 * 3 + 2))], .pointer (some ⟨Bx, 3, none⟩), .pointer (some ⟨Bx, 4, none⟩), .agg #[.float .f32 (x ((j.1 + 1) * 3 + 1)), .float .f32 (x ((j.1 + 1) * 3 + 2))], .float .f32 h, .pointer (some ⟨Bx, 0, none⟩), .pointer (some ⟨Bx, 0, none⟩), .float .f32 (x (j.1 * 3)), .float .f32 (fsub h (x (j.1 * 3))), .agg #[.float .f32 (x (j.1 * 3)), .float .f32 (x (j.1 * 3 + 1)), .float .f32 (x (j.1 * 3 + 2)), .float .f32 (x ((j.1 + 1) * 3)), .float .f32 (x ((j.1 + 1) * 3 + 1)), .float .f32 (x ((j.1 + 1) * 3 + 2))], .float .f32 (dpW x j.1), .float .f32 (shW x h j.1), undef, undef, undef, undef], defers := [] }) Wd := fun Wd hb => by
              rw [← hG]
              have bXd := (hb.block _ (lt_of_block bX)).trans bX
              have kd := kW.out.stay hb
              have hHd := kd.at (x := (w.heap.size, #[.float .f32 h], 22)) (by simp)
              refine wpAnyIn_ready (rs := [14]) (by kernel_rfl) (by simp) ?_
              refine callIn 14 _ _ (.tuple #[.agg #[.float .f32 mh, .float .f32 mv], .int .i64 mc]) rfl rfl (by rfl) 120 #[.agg #[.float .f32 (x (j.1 * 3 + 1)), .float .f32 (x (j.1 * 3 + 2))], .agg #[.float .f32 (x ((j.1 + 1) * 3 + 1)), .float .f32 (x ((j.1 + 1) * 3 + 2))], .float .f32 (shW x h j.1)] (by unfold execOp; go_simp) (fun _ _ => trivial) (fun hh => by cases hh) (fun w2 => Below Wd.heap.size Wd w2) (callsIn_wide.2 (HMx Wd)) rfl rfl (fun w2 hb2 => ?_) AllReadyIn.nil
              simp only [Act.put, List.setIfInBounds_toArray, List.set_cons_zero, List.set_cons_succ]
              refine takeIn 15 _ _ (.agg #[.float .f32 mh, .float .f32 mv]) rfl rfl (by rfl) (by kernel_rfl) (by kernel_rfl) (by kernel_rfl) (fun w => by unfold execOp; go_simp) (fun _ => rfl) rfl rfl ?_
              simp only [Act.put, List.setIfInBounds_toArray, List.set_cons_zero, List.set_cons_succ]
              refine takeIn 16 _ _ (.int .i64 mc) rfl rfl (by rfl) (by kernel_rfl) (by kernel_rfl) (by kernel_rfl) (fun w => by unfold execOp; go_simp) (fun _ => rfl) rfl rfl ?_
              simp only [Act.put, List.setIfInBounds_toArray, List.set_cons_zero, List.set_cons_succ]
              have kE := kd.stay hb2
              have hAz : w2.heap[w.heap.size + 1]? = some (.cells #[.float .f32 0, .float .f32 0] 32 (0, 0)) := kE.at (x := (w.heap.size + 1, #[.float .f32 0, .float .f32 0], 32)) (by simp)
              have hIz : w2.heap[w.heap.size + 1 + 1]? = some (.cells #[.int .i64 0] 2 (0, 0)) := kE.at (x := (w.heap.size + 1 + 1, #[.int .i64 0], 2)) (by simp)
              have hHz : w2.heap[w.heap.size]? = some (.cells #[.float .f32 h] 22 (0, 0)) := kE.at (x := (w.heap.size, #[.float .f32 h], 22)) (by simp)
              have eA0z : w2.cell? ⟨w.heap.size + 1, 0, none⟩ = some (.float .f32 0) := (cell_of_row _ _ 0 _ _ _ hAz).trans rfl
              have eA1z : w2.cell? ⟨w.heap.size + 1, 1, none⟩ = some (.float .f32 0) := (cell_of_row _ _ 1 _ _ _ hAz).trans rfl
              have eIz : w2.cell? ⟨w.heap.size + 1 + 1, 0, none⟩ = some (.int .i64 0) := (cell_of_row _ _ 0 _ _ _ hIz).trans rfl
              have eHz : w2.cell? ⟨w.heap.size, 0, none⟩ = some (.float .f32 h) := (cell_of_row _ _ 0 _ _ _ hHz).trans rfl
              have fA0z := frozen_of_row w2 (w.heap.size + 1) 0 _ _ hAz
              have fA1z := frozen_of_row w2 (w.heap.size + 1) 1 _ _ hAz
              have fIz := frozen_of_row w2 (w.heap.size + 1 + 1) 0 _ _ hIz
              refine wpAnyIn_ready (rs := [17]) (by kernel_rfl) (by simp) ?_
              refine storeIn 17 _ ((w2.setCell ⟨w.heap.size + 1, 0, none⟩ (.float .f32 mh)).setCell ⟨w.heap.size + 1, 1, none⟩ (.float .f32 mv)) rfl rfl (by rfl) (by unfold execOp; go_simp) (fun _ _ => trivial) rfl ?_ AllReadyIn.nil
              refine wpAnyIn_ready (rs := [18]) (by kernel_rfl) (by simp) ?_
              refine storeIn 18 _ (((w2.setCell ⟨w.heap.size + 1, 0, none⟩ (.float .f32 mh)).setCell ⟨w.heap.size + 1, 1, none⟩ (.float .f32 mv)).setCell ⟨w.heap.size + 1 + 1, 0, none⟩ (.int .i64 mc)) rfl rfl (by rfl) (by unfold execOp; go_simp) (fun _ _ => trivial) rfl ?_ AllReadyIn.nil
              refine wpAnyIn_done (by kernel_rfl) (NoPanic.normal ?_) _
              have kf := air_done kE (Nat.le_refl _) (.float .f32 mh) (.float .f32 mv) (.int .i64 mc)
              have hbE := hb.trans (hb2.mono hb.size)
              gi_wp2
              exact ⟨((((⟨hbE.size, fun k o _ hk _ => (hbE.block k (lt_of_block hk)).trans hk⟩ : KeepsFrom (w1.heap.size + 1) W w2)).trans ((KeepsOthers.setCell _ _ _).from _)).trans ((KeepsOthers.setCell _ _ _).from _)).trans ((KeepsOthers.setCell _ _ _).from _), ⟨pre, j, ⟨⟨rfl, rfl, hp, hstop⟩, by rw [hL]; exact kf.at (x := (w.heap.size + 1, #[.float .f32 mh, .float .f32 mv], 32)) (by simp)⟩, by rw [hL]; exact kf.at (x := (w.heap.size + 1 + 1, #[.int .i64 mc], 2)) (by simp)⟩, kf.1⟩
            have s2569b : ∀ Wd, Below W.heap.size W Wd → G 7 #[true, true, true, true, true, true, true, true, true, true, true, true, false, false, false, false, false, false, false] ({ tmps := #[.slice p n cap, .float .f32 h, undef, .pointer (some ⟨w.heap.size, 0, none⟩), .pointer (some ⟨w.heap.size + 1, 0, none⟩), .pointer (some ⟨w.heap.size + 1 + 1, 0, none⟩), undef, .pointer (some ⟨Bx, 0, none⟩), .slice p n cap, .bool true, .bool false, undef, .slice p n cap, .func (.func 170) #[] #[.pointer (some ⟨w1.heap.size, 0, none⟩)], .int .i64 (j.1 : Int), .agg #[.float .f32 (x (j.1 * 3)), .float .f32 (x (j.1 * 3 + 1)), .float .f32 (x (j.1 * 3 + 2)), .float .f32 (x ((j.1 + 1) * 3)), .float .f32 (x ((j.1 + 1) * 3 + 1)), .float .f32 (x ((j.1 + 1) * 3 + 2))], .bool false, .float .f32 h, .pointer (some ⟨Bx, 0, none⟩), .pointer (some ⟨Bx, 0, none⟩), .float .f32 (x (j.1 * 3)), .bool false, undef, undef, undef, .bool false, .float .f32 h, .pointer (some ⟨Bx, 3, none⟩), .pointer (some ⟨Bx, 3, none⟩), .float .f32 (x ((j.1 + 1) * 3)), .bool false, undef, undef, undef, .bool true, .float .f32 h, .pointer (some ⟨Bx, 0, none⟩), .pointer (some ⟨Bx, 0, none⟩), .float .f32 (x (j.1 * 3)), .bool true, .bool true, .float .f32 h, .pointer (some ⟨Bx, 3, none⟩), .pointer (some ⟨Bx, 3, none⟩), .float .f32 (x ((j.1 + 1) * 3)), .bool true, .bool true, .pointer (some ⟨Bx, 0, none⟩), .pointer (some ⟨Bx, 1, none⟩), .agg #[.float .f32 (x (j.1 * 3 + 1)), .float .f32 (x (j.1 * 3 + 2))], .pointer (some ⟨Bx, 3, none⟩), .pointer (some ⟨Bx, 4, none⟩), .agg #[.float .f32 (x ((j.1 + 1) * 3 + 1)), .float .f32 (x ((j.1 + 1) * 3 + 2))], .float .f32 h, .pointer (some ⟨Bx, 0, none⟩), .pointer (some ⟨Bx, 0, none⟩), .float .f32 (x (j.1 * 3)), .float .f32 (fsub h (x (j.1 * 3))), .agg #[.float .f32 (x (j.1 * 3)), .float .f32 (x (j.1 * 3 + 1)), .float .f32 (x (j.1 * 3 + 2)), .float .f32 (x ((j.1 + 1) * 3)), .float .f32 (x ((j.1 + 1) * 3 + 1)), .float .f32 (x ((j.1 + 1) * 3 + 2))], undef, undef, undef, undef, undef, undef], defers := [] }) Wd := fun Wd hb => by
              rw [← hG]
              have bXd := (hb.block _ (lt_of_block bX)).trans bX
              have kd := kW.out.stay hb
              have hHd := kd.at (x := (w.heap.size, #[.float .f32 h], 22)) (by simp)
              refine wpAnyIn_ready (rs := [12]) (by kernel_rfl) (by simp) ?_
              refine callIn 12 _ _ (.float .f32 (dpW x j.1)) rfl rfl (by rfl) 172 #[.agg #[.float .f32 (x (j.1 * 3)), .float .f32 (x (j.1 * 3 + 1)), .float .f32 (x (j.1 * 3 + 2)), .float .f32 (x ((j.1 + 1) * 3)), .float .f32 (x ((j.1 + 1) * 3 + 1)), .float .f32 (x ((j.1 + 1) * 3 + 2))]] (by unfold execOp; go_simp) (fun _ _ => trivial) (fun hh => by cases hh) (fun w2 => Below Wd.heap.size Wd w2) (callsIn_wide.2 (iDepth x j.1 HAt.out.d2 Wd)) rfl rfl (fun w2 hb2 => ?_) AllReadyIn.nil
              simp only [Act.put, List.setIfInBounds_toArray, List.set_cons_zero, List.set_cons_succ]
              refine takeIn 13 _ _ (.float .f32 (shW x h j.1)) rfl rfl (by rfl) (by kernel_rfl) (by kernel_rfl) (by kernel_rfl) (fun w => run_binop_val _ _ _ _ (by rfl) (by rfl) (by simp [eqGuard]) (r3 w)) (fun _ => rfl) rfl rfl ?_
              simp only [Act.put, List.setIfInBounds_toArray, List.set_cons_zero, List.set_cons_succ]
              exact (hG _ _ _ _).mpr (s2569bc w2 (hb.trans (hb2.mono hb.size)))
            have s256bc : ∀ Wd, Below W.heap.size W Wd → G 8 #[true, true, true, true, true, true, true, true, true, false, false, true, true, false, false, false, false, false, false] ({ tmps := #[.slice p n cap, .float .f32 h, undef, .pointer (some ⟨w.heap.size, 0, none⟩), .pointer (some ⟨w.heap.size + 1, 0, none⟩), .pointer (some ⟨w.heap.size + 1 + 1, 0, none⟩), undef, .pointer (some ⟨Bx, 0, none⟩), .slice p n cap, .bool true, .bool false, undef, .slice p n cap, .func (.func 170) #[] #[.pointer (some ⟨w1.heap.size, 0, none⟩)], .int .i64 (j.1 : Int), .agg #[.float .f32 (x (j.1 * 3)), .float .f32 (x (j.1 * 3 + 1)), .float .f32 (x (j.1 * 3 + 2)), .float .f32 (x ((j.1 + 1) * 3)), .float .f32 (x ((j.1 + 1) * 3 + 1)), .float .f32 (x ((j.1 + 1) * 3 + 2))], .bool false, .float .f32 h, .pointer (some ⟨Bx, 0, none⟩), .pointer (some ⟨Bx, 0, none⟩), .float .f32 (x (j.1 * 3)), .bool false, undef, undef, undef, .bool false, .float .f32 h, .pointer (some ⟨Bx, 3, none⟩), .pointer (some ⟨Bx, 3, none⟩), .float .f32 (x ((j.1 + 1) * 3)), .bool false, undef, undef, undef, .bool true, .float .f32 h, .pointer (some ⟨Bx, 0, none⟩), .pointer (some ⟨Bx, 0, none⟩), .float .f32 (x (j.1 * 3)), .bool true, .bool true, .float .f32 h, .pointer (some ⟨Bx, 3, none⟩), .pointer (some ⟨Bx, 3, none⟩), .float .f32 (x ((j.1 + 1) * 3)), .bool true, .bool true, .pointer (some ⟨Bx, 0, none⟩), .pointer (some ⟨Bx, 1, none⟩), .agg #[.float .f32 (x (j.1 * 3 + 1)), .float .f32 (x (j.1 * 3 + 2))], .pointer (some ⟨Bx, 3, none⟩), .pointer (some ⟨Bx, 4, none⟩), .agg #[.float .f32 (x ((j.1 + 1) * 3 + 1)), .float .f32 (x ((j.1 + 1) * 3 + 2))], .float .f32 h, .pointer (some ⟨Bx, 0, none⟩), .pointer (some ⟨Bx, 0, none⟩), undef, undef, .agg #[.float .f32 (x (j.1 * 3)), .float .f32 (x (j.1 * 3 + 1)), .float .f32 (x (j.1 * 3 + 2)), .float .f32 (x ((j.1 + 1) * 3)), .float .f32 (x ((j.1 + 1) * 3 + 1)), .float .f32 (x ((j.1 + 1) * 3 + 2))], .float .f32 (dpW x j.1), undef, undef, undef, undef, undef], defers := [] }) Wd := fun Wd hb => by
              rw [← hG]
              have bXd := (hb.block _ (lt_of_block bX)).trans bX
              have kd := kW.out.stay hb
              have hHd := kd.at (x := (w.heap.size, #[.float .f32 h], 22)) (by simp)
              refine wpAnyIn_ready (rs := [9]) (by kernel_rfl) (by simp) ?_
              refine readIn 9 _ _ (.float .f32 (x (j.1 * 3))) rfl rfl (by rfl) (run_load_cell 22 _ ⟨Bx, 0, none⟩ _ rfl (run_loadVar_one Try.underlying22 rfl ((cell_of_row _ Bx 0 _ _ _ bXd).trans rfl))) rfl rfl rfl ?_ AllReadyIn.nil
              simp only [Act.put, List.setIfInBounds_toArray, List.set_cons_zero, List.set_cons_succ]
              refine takeIn 10 _ _ (.float .f32 (fsub h (x (j.1 * 3)))) rfl rfl (by rfl) (by kernel_rfl) (by kernel_rfl) (by kernel_rfl) (fun w => run_binop_val _ _ _ _ (by rfl) (by rfl) (by simp [eqGuard]) (r1 w)) (fun _ => rfl) rfl rfl ?_
              simp only [Act.put, List.setIfInBounds_toArray, List.set_cons_zero, List.set_cons_succ]
              refine takeIn 13 _ _ (.float .f32 (shW x h j.1)) rfl rfl (by rfl) (by kernel_rfl) (by kernel_rfl) (by kernel_rfl) (fun w => run_binop_val _ _ _ _ (by rfl) (by rfl) (by simp [eqGuard]) (r3 w)) (fun _ => rfl) rfl rfl ?_
              simp only [Act.put, List.setIfInBounds_toArray, List.set_cons_zero, List.set_cons_succ]
              exact (hG _ _ _ _).mpr (s2569bc Wd hb)
            have s259bc : ∀ Wd, Below W.heap.size W Wd → G 8 #[true, true, true, true, true, true, false, true, true, true, false, true, true, false, false, false, false, false, false] ({ tmps := #[.slice p n cap, .float .f32 h, undef, .pointer (some ⟨w.heap.size, 0, none⟩), .pointer (some ⟨w.heap.size + 1, 0, none⟩), .pointer (some ⟨w.heap.size + 1 + 1, 0, none⟩), undef, .pointer (some ⟨Bx, 0, none⟩), .slice p n cap, .bool true, .bool false, undef, .slice p n cap, .func (.func 170) #[] #[.pointer (some ⟨w1.heap.size, 0, none⟩)], .int .i64 (j.1 : Int), .agg #[.float .f32 (x (j.1 * 3)), .float .f32 (x (j.1 * 3 + 1)), .float .f32 (x (j.1 * 3 + 2)), .float .f32 (x ((j.1 + 1) * 3)), .float .f32 (x ((j.1 + 1) * 3 + 1)), .float .f32 (x ((j.1 + 1) * 3 + 2))], .bool false, .float .f32 h, .pointer (some ⟨Bx, 0, none⟩), .pointer (some ⟨Bx, 0, none⟩), .float .f32 (x (j.1 * 3)), .bool false, undef, undef, undef, .bool false, .float .f32 h, .pointer (some ⟨Bx, 3, none⟩), .pointer (some ⟨Bx, 3, none⟩), .float .f32 (x ((j.1 + 1) * 3)), .bool false, undef, undef, undef, .bool true, .float .f32 h, .pointer (some ⟨Bx, 0, none⟩), .pointer (some ⟨Bx, 0, none⟩), .float .f32 (x (j.1 * 3)), .bool true, .bool true, .float .f32 h, .pointer (some ⟨Bx, 3, none⟩), .pointer (some ⟨Bx, 3, none⟩), .float .f32 (x ((j.1 + 1) * 3)), .bool true, .bool true, .pointer (some ⟨Bx, 0, none⟩), .pointer (some ⟨Bx, 1, none⟩), .agg #[.float .f32 (x (j.1 * 3 + 1)), .float .f32 (x (j.1 * 3 + 2))], .pointer (some ⟨Bx, 3, none⟩), .pointer (some ⟨Bx, 4, none⟩), .agg #[.float .f32 (x ((j.1 + 1) * 3 + 1)), .float .f32 (x ((j.1 + 1) * 3 + 2))], undef, .pointer (some ⟨Bx, 0, none⟩), .pointer (some ⟨Bx, 0, none⟩), .float .f32 (x (j.1 * 3)), undef, .agg #[.float .f32 (x (j.1 * 3)), .float .f32 (x (j.1 * 3 + 1)), .float .f32 (x (j.1 * 3 + 2)), .float .f32 (x ((j.1 + 1) * 3)), .float .f32 (x ((j.1 + 1) * 3 + 1)), .float .f32 (x ((j.1 + 1) * 3 + 2))], .float .f32 (dpW x j.1), undef, undef, undef, undef, undef], defers := [] }) Wd := fun Wd hb => by
              rw [← hG]
              have bXd := (hb.block _ (lt_of_block bX)).trans bX
              have kd := kW.out.stay hb
              have hHd := kd.at (x := (w.heap.size, #[.float .f32 h], 22)) (by simp)
              refine wpAnyIn_ready (rs := [6]) (by kernel_rfl) (by simp) ?_
              refine readIn 6 _ _ (.float .f32 h) rfl rfl (by rfl) (run_load_cell 22 _ ⟨w.heap.size, 0, none⟩ _ rfl (run_loadVar_one Try.underlying22 rfl ((cell_of_row _ _ 0 _ _ _ hHd).trans rfl))) rfl rfl rfl ?_ AllReadyIn.nil
              simp only [Act.put, List.setIfInBounds_toArray, List.set_cons_zero, List.set_cons_succ]
              refine takeIn 10 _ _ (.float .f32 (fsub h (x (j.1 * 3)))) rfl rfl (by rfl) (by kernel_rfl) (by kernel_rfl) (by kernel_rfl) (fun w => run_binop_val _ _ _ _ (by rfl) (by rfl) (by simp [eqGuard]) (r1 w)) (fun _ => rfl) rfl rfl ?_
              simp only [Act.put, List.setIfInBounds_toArray, List.set_cons_zero, List.set_cons_succ]
              refine takeIn 13 _ _ (.float .f32 (shW x h j.1)) rfl rfl (by rfl) (by kernel_rfl) (by kernel_rfl) (by kernel_rfl) (fun w => run_binop_val _ _ _ _ (by rfl) (by rfl) (by simp [eqGuard]) (r3 w)) (fun _ => rfl) rfl rfl ?_
              simp only [Act.put, List.setIfInBounds_toArray, List.set_cons_zero, List.set_cons_succ]
              exact (hG _ _ _ _).mpr (s2569bc Wd hb)
            have s269bc : ∀ Wd, Below W.heap.size W Wd → G 6 #[true, true, true, true, true, false, true, true, true, true, true, true, true, true, false, false, false, false, false] ({ tmps := #[.slice p n cap, .float .f32 h, undef, .pointer (some ⟨w.heap.size, 0, none⟩), .pointer (some ⟨w.heap.size + 1, 0, none⟩), .pointer (some ⟨w.heap.size + 1 + 1, 0, none⟩), undef, .pointer (some ⟨Bx, 0, none⟩), .slice p n cap, .bool true, .bool false, undef, .slice p n cap, .func (.func 170) #[] #[.pointer (some ⟨w1.heap.size, 0, none⟩)], .int .i64 (j.1 : Int), .agg #[.float .f32 (x (j.1 * 3)), .float .f32 (x (j.1 * 3 + 1)), .float .f32 (x (j.1 * 3 + 2)), .float .f32 (x ((j.1 + 1) * 3)), .float .f32 (x ((j.1 + 1) * 3 + 1)), .float .f32 (x ((j.1 + 1) * 3 + 2))], .bool false, .float .f32 h, .pointer (some ⟨Bx, 0, none⟩), .pointer (some ⟨Bx, 0, none⟩), .float .f32 (x (j.1 * 3)), .bool false, undef, undef, undef, .bool false, .float .f32 h, .pointer (some ⟨Bx, 3, none⟩), .pointer (some ⟨Bx, 3, none⟩), .float .f32 (x ((j.1 + 1) * 3)), .bool false, undef, undef, undef, .bool true, .float .f32 h, .pointer (some ⟨Bx, 0, none⟩), .pointer (some ⟨Bx, 0, none⟩), .float .f32 (x (j.1 * 3)), .bool true, .bool true, .float .f32 h, .pointer (some ⟨Bx, 3, none⟩), .pointer (some ⟨Bx, 3, none⟩), .float .f32 (x ((j.1 + 1) * 3)), .bool true, .bool true, .pointer (some ⟨Bx, 0, none⟩), .pointer (some ⟨Bx, 1, none⟩), .agg #[.float .f32 (x (j.1 * 3 + 1)), .float .f32 (x (j.1 * 3 + 2))], .pointer (some ⟨Bx, 3, none⟩), .pointer (some ⟨Bx, 4, none⟩), undef, .float .f32 h, .pointer (some ⟨Bx, 0, none⟩), .pointer (some ⟨Bx, 0, none⟩), .float .f32 (x (j.1 * 3)), .float .f32 (fsub h (x (j.1 * 3))), .agg #[.float .f32 (x (j.1 * 3)), .float .f32 (x (j.1 * 3 + 1)), .float .f32 (x (j.1 * 3 + 2)), .float .f32 (x ((j.1 + 1) * 3)), .float .f32 (x ((j.1 + 1) * 3 + 1)), .float .f32 (x ((j.1 + 1) * 3 + 2))], .float .f32 (dpW x j.1), .float .f32 (shW x h j.1), undef, undef, undef, undef], defers := [] }) Wd := fun Wd hb => by
              rw [← hG]
              have bXd := (hb.block _ (lt_of_block bX)).trans bX
              have kd := kW.out.stay hb
              have hHd := kd.at (x := (w.heap.size, #[.float .f32 h], 22)) (by simp)
              refine wpAnyIn_ready (rs := [5]) (by kernel_rfl) (by simp) ?_
              refine readIn 5 _ _ (.agg #[.float .f32 (x ((j.1 + 1) * 3 + 1)), .float .f32 (x ((j.1 + 1) * 3 + 2))]) rfl rfl (by rfl) (run_load_mid 32 _ Bx 4 [.float .f32 (x ((j.1 + 1) * 3 + 1)), .float .f32 (x ((j.1 + 1) * 3 + 2))] rfl (range2 ((cell_of_row _ Bx 4 _ _ _ bXd).trans rfl) ((cell_of_row _ Bx 5 _ _ _ bXd).trans rfl)) _ Try.underlying32 rfl info_air) rfl rfl rfl ?_ AllReadyIn.nil
              simp only [Act.put, List.setIfInBounds_toArray, List.set_cons_zero, List.set_cons_succ]
              exact (hG _ _ _ _).mpr (s2569bc Wd hb)
            have s569bc : ∀ Wd, Below W.heap.size W Wd → G 6 #[true, true, false, true, true, true, true, true, true, true, true, true, true, true, false, false, false, false, false] ({ tmps := #[.slice p n cap, .float .f32 h, undef, .pointer (some ⟨w.heap.size, 0, none⟩), .pointer (some ⟨w.heap.size + 1, 0, none⟩), .pointer (some ⟨w.heap.size + 1 + 1, 0, none⟩), undef, .pointer (some ⟨Bx, 0, none⟩), .slice p n cap, .bool true, .bool false, undef, .slice p n cap, .func (.func 170) #[] #[.pointer (some ⟨w1.heap.size, 0, none⟩)], .int .i64 (j.1 : Int), .agg #[.float .f32 (x (j.1 * 3)), .float .f32 (x (j.1 * 3 + 1)), .float .f32 (x (j.1 * 3 + 2)), .float .f32 (x ((j.1 + 1) * 3)), .float .f32 (x ((j.1 + 1) * 3 + 1)), .float .f32 (x ((j.1 + 1) * 3 + 2))], .bool false, .float .f32 h, .pointer (some ⟨Bx, 0, none⟩), .pointer (some ⟨Bx, 0, none⟩), .float .f32 (x (j.1 * 3)), .bool false, undef, undef, undef, .bool false, .float .f32 h, .pointer (some ⟨Bx, 3, none⟩), .pointer (some ⟨Bx, 3, none⟩), .float .f32 (x ((j.1 + 1) * 3)), .bool false, undef, undef, undef, .bool true, .float .f32 h, .pointer (some ⟨Bx, 0, none⟩), .pointer (some ⟨Bx, 0, none⟩), .float .f32 (x (j.1 * 3)), .bool true, .bool true, .float .f32 h, .pointer (some ⟨Bx, 3, none⟩), .pointer (some ⟨Bx, 3, none⟩), .float .f32 (x ((j.1 + 1) * 3)), .bool true, .bool true, .pointer (some ⟨Bx, 0, none⟩), .pointer (some ⟨Bx, 1, none⟩), undef, .pointer (some ⟨Bx, 3, none⟩), .pointer (some ⟨Bx, 4, none⟩), .agg #[.float .f32 (x ((j.1 + 1) * 3 + 1)), .float .f32 (x ((j.1 + 1) * 3 + 2))], .float .f32 h, .pointer (some ⟨Bx, 0, none⟩), .pointer (some ⟨Bx, 0, none⟩), .float .f32 (x (j.1 * 3)), .float .f32 (fsub h (x (j.1 * 3))), .agg #[.float .f32 (x (j.1 * 3)), .float .f32 (x (j.1 * 3 + 1)), .float .f32 (x (j.1 * 3 + 2)), .float .f32 (x ((j.1 + 1) * 3)), .float .f32 (x ((j.1 + 1) * 3 + 1)), .float .f32 (x ((j.1 + 1) * 3 + 2))], .float .f32 (dpW x j.1), .float .f32 (shW x h j.1), undef, undef, undef, undef], defers := [] }) Wd := fun Wd hb => by
              rw [← hG]
              have bXd := (hb.block _ (lt_of_block bX)).trans bX
              have kd := kW.out.stay hb
              have hHd := kd.at (x := (w.heap.size, #[.float .f32 h], 22)) (by simp)
              refine wpAnyIn_ready (rs := [2]) (by kernel_rfl) (by simp) ?_
              refine readIn 2 _ _ (.agg #[.float .f32 (x (j.1 * 3 + 1)), .float .f32 (x (j.1 * 3 + 2))]) rfl rfl (by rfl) (run_load_mid 32 _ Bx 1 [.float .f32 (x (j.1 * 3 + 1)), .float .f32 (x (j.1 * 3 + 2))] rfl (range2 ((cell_of_row _ Bx 1 _ _ _ bXd).trans rfl) ((cell_of_row _ Bx 2 _ _ _ bXd).trans rfl)) _ Try.underlying32 rfl info_air) rfl rfl rfl ?_ AllReadyIn.nil
              simp only [Act.put, List.setIfInBounds_toArray, List.set_cons_zero, List.set_cons_succ]
              exact (hG _ _ _ _).mpr (s2569bc Wd hb)
            have s2569 : ∀ Wd, Below W.heap.size W Wd → G 8 #[true, true, true, true, true, true, true, true, true, true, true, false, false, false, false, false, false, false, false] ({ tmps := #[.slice p n cap, .float .f32 h, undef, .pointer (some ⟨w.heap.size, 0, none⟩), .pointer (some ⟨w.heap.size + 1, 0, none⟩), .pointer (some ⟨w.heap.size + 1 + 1, 0, none⟩), undef, .pointer (some ⟨Bx, 0, none⟩), .slice p n cap, .bool true, .bool false, undef, .slice p n cap, .func (.func 170) #[] #[.pointer (some ⟨w1.heap.size, 0, none⟩)], .int .i64 (j.1 : Int), .agg #[.float .f32 (x (j.1 * 3)), .float .f32 (x (j.1 * 3 + 1)), .float .f32 (x (j.1 * 3 + 2)), .float .f32 (x ((j.1 + 1) * 3)), .float .f32 (x ((j.1 + 1) * 3 + 1)), .float .f32 (x ((j.1 + 1) * 3 + 2))], .bool false, .float .f32 h, .pointer (some ⟨Bx, 0, none⟩), .pointer (some ⟨Bx, 0, none⟩), .float .f32 (x (j.1 * 3)), .bool false, undef, undef, undef, .bool false, .float .f32 h, .pointer (some ⟨Bx, 3, none⟩), .pointer (some ⟨Bx, 3, none⟩), .float .f32 (x ((j.1 + 1) * 3)), .bool false, undef, undef, undef, .bool true, .float .f32 h, .pointer (some ⟨Bx, 0, none⟩), .pointer (some ⟨Bx, 0, none⟩), .float .f32 (x (j.1 * 3)), .bool true, .bool true, .float .f32 h, .pointer (some ⟨Bx, 3, none⟩), .pointer (some ⟨Bx, 3, none⟩), .float .f32 (x ((j.1 + 1) * 3)), .bool true, .bool true, .pointer (some ⟨Bx, 0, none⟩), .pointer (some ⟨Bx, 1, none⟩), .agg #[.float .f32 (x (j.1 * 3 + 1)), .float .f32 (x (j.1 * 3 + 2))], .pointer (some ⟨Bx, 3, none⟩), .pointer (some ⟨Bx, 4, none⟩), .agg #[.float .f32 (x ((j.1 + 1) * 3 + 1)), .float .f32 (x ((j.1 + 1) * 3 + 2))], .float .f32 h, .pointer (some ⟨Bx, 0, none⟩), .pointer (some ⟨Bx, 0, none⟩), .float .f32 (x (j.1 * 3)), .float .f32 (fsub h (x (j.1 * 3))), undef, undef, undef, undef, undef, undef, undef], defers := [] }) Wd := fun Wd hb => by
              rw [← hG]
              have bXd := (hb.block _ (lt_of_block bX)).trans bX
              have kd := kW.out.stay hb
              have hHd := kd.at (x := (w.heap.size, #[.float .f32 h], 22)) (by simp)
              refine wpAnyIn_ready (rs := [11]) (by kernel_rfl) (by simp) ?_
              refine readIn 11 _ _ (.agg #[.float .f32 (x (j.1 * 3)), .float .f32 (x (j.1 * 3 + 1)), .float .f32 (x (j.1 * 3 + 2)), .float .f32 (x ((j.1 + 1) * 3)), .float .f32 (x ((j.1 + 1) * 3 + 1)), .float .f32 (x ((j.1 + 1) * 3 + 2))]) rfl rfl (by rfl) (run_load_mid 214 _ Bx 0 [.float .f32 (x (j.1 * 3)), .float .f32 (x (j.1 * 3 + 1)), .float .f32 (x (j.1 * 3 + 2)), .float .f32 (x ((j.1 + 1) * 3)), .float .f32 (x ((j.1 + 1) * 3 + 1)), .float .f32 (x ((j.1 + 1) * 3 + 2))] rfl (rowRange bXd) _ Try.underlying214 rfl info_lay) rfl rfl rfl ?_ AllReadyIn.nil
              simp only [Act.put, List.setIfInBounds_toArray, List.set_cons_zero, List.set_cons_succ]
              exact (hG _ _ _ _).mpr (s2569b Wd hb)
            have s256b : ∀ Wd, Below W.heap.size W Wd → G 9 #[true, true, true, true, true, true, true, true, true, false, false, true, false, false, false, false, false, false, false] ({ tmps := #[.slice p n cap, .float .f32 h, undef, .pointer (some ⟨w.heap.size, 0, none⟩), .pointer (some ⟨w.heap.size + 1, 0, none⟩), .pointer (some ⟨w.heap.size + 1 + 1, 0, none⟩), undef, .pointer (some ⟨Bx, 0, none⟩), .slice p n cap, .bool true, .bool false, undef, .slice p n cap, .func (.func 170) #[] #[.pointer (some ⟨w1.heap.size, 0, none⟩)], .int .i64 (j.1 : Int), .agg #[.float .f32 (x (j.1 * 3)), .float .f32 (x (j.1 * 3 + 1)), .float .f32 (x (j.1 * 3 + 2)), .float .f32 (x ((j.1 + 1) * 3)), .float .f32 (x ((j.1 + 1) * 3 + 1)), .float .f32 (x ((j.1 + 1) * 3 + 2))], .bool false, .float .f32 h, .pointer (some ⟨Bx, 0, none⟩), .pointer (some ⟨Bx, 0, none⟩), .float .f32 (x (j.1 * 3)), .bool false, undef, undef, undef, .bool false, .float .f32 h, .pointer (some ⟨Bx, 3, none⟩), .pointer (some ⟨Bx, 3, none⟩), .float .f32 (x ((j.1 + 1) * 3)), .bool false, undef, undef, undef, .bool true, .float .f32 h, .pointer (some ⟨Bx, 0, none⟩), .pointer (some ⟨Bx, 0, none⟩), .float .f32 (x (j.1 * 3)), .bool true, .bool true, .float .f32 h, .pointer (some ⟨Bx, 3, none⟩), .pointer (some ⟨Bx, 3, none⟩), .float .f32 (x ((j.1 + 1) * 3)), .bool true, .bool true, .pointer (some ⟨Bx, 0, none⟩), .pointer (some ⟨Bx, 1, none⟩), .agg #[.float .f32 (x (j.1 * 3 + 1)), .float .f32 (x (j.1 * 3 + 2))], .pointer (some ⟨Bx, 3, none⟩), .pointer (some ⟨Bx, 4, none⟩), .agg #[.float .f32 (x ((j.1 + 1) * 3 + 1)), .float .f32 (x ((j.1 + 1) * 3 + 2))], .float .f32 h, .pointer (some ⟨Bx, 0, none⟩), .pointer (some ⟨Bx, 0, none⟩), undef, undef, .agg #[.float .f32 (x (j.1 * 3)), .float .f32 (x (j.1 * 3 + 1)), .float .f32 (x (j.1 * 3 + 2)), .float .f32 (x ((j.1 + 1) * 3)), .float .f32 (x ((j.1 + 1) * 3 + 1)), .float .f32 (x ((j.1 + 1) * 3 + 2))], undef, undef, undef, undef, undef, undef], defers := [] }) Wd := fun Wd hb => by
              rw [← hG]
              have bXd := (hb.block _ (lt_of_block bX)).trans bX
              have kd := kW.out.stay hb
              have hHd := kd.at (x := (w.heap.size, #[.float .f32 h], 22)) (by simp)
              refine wpAnyIn_ready (rs := [9, 12]) (by kernel_rfl) (by simp) ?_
              refine readIn 9 _ _ (.float .f32 (x (j.1 * 3))) rfl rfl (by rfl) (run_load_cell 22 _ ⟨Bx, 0, none⟩ _ rfl (run_loadVar_one Try.underlying22 rfl ((cell_of_row _ Bx 0 _ _ _ bXd).trans rfl))) rfl rfl rfl ?_ ?_
              · simp only [Act.put, List.setIfInBounds_toArray, List.set_cons_zero, List.set_cons_succ]
                refine takeIn 10 _ _ (.float .f32 (fsub h (x (j.1 * 3)))) rfl rfl (by rfl) (by kernel_rfl) (by kernel_rfl) (by kernel_rfl) (fun w => run_binop_val _ _ _ _ (by rfl) (by rfl) (by simp [eqGuard]) (r1 w)) (fun _ => rfl) rfl rfl ?_
                simp only [Act.put, List.setIfInBounds_toArray, List.set_cons_zero, List.set_cons_succ]
                exact (hG _ _ _ _).mpr (s2569b Wd hb)
              refine callIn 12 _ _ (.float .f32 (dpW x j.1)) rfl rfl (by rfl) 172 #[.agg #[.float .f32 (x (j.1 * 3)), .float .f32 (x (j.1 * 3 + 1)), .float .f32 (x (j.1 * 3 + 2)), .float .f32 (x ((j.1 + 1) * 3)), .float .f32 (x ((j.1 + 1) * 3 + 1)), .float .f32 (x ((j.1 + 1) * 3 + 2))]] (by unfold execOp; go_simp) (fun _ _ => trivial) (fun hh => by cases hh) (fun w2 => Below Wd.heap.size Wd w2) (callsIn_wide.2 (iDepth x j.1 HAt.out.d2 Wd)) rfl rfl (fun w2 hb2 => ?_) AllReadyIn.nil
              simp only [Act.put, List.setIfInBounds_toArray, List.set_cons_zero, List.set_cons_succ]
              exact (hG _ _ _ _).mpr (s256bc w2 (hb.trans (hb2.mono hb.size)))
            have s259b : ∀ Wd, Below W.heap.size W Wd → G 9 #[true, true, true, true, true, true, false, true, true, true, false, true, false, false, false, false, false, false, false] ({ tmps := #[.slice p n cap, .float .f32 h, undef, .pointer (some ⟨w.heap.size, 0, none⟩), .pointer (some ⟨w.heap.size + 1, 0, none⟩), .pointer (some ⟨w.heap.size + 1 + 1, 0, none⟩), undef, .pointer (some ⟨Bx, 0, none⟩), .slice p n cap, .bool true, .bool false, undef, .slice p n cap, .func (.func 170) #[] #[.pointer (some ⟨w1.heap.size, 0, none⟩)], .int .i64 (j.1 : Int), .agg #[.float .f32 (x (j.1 * 3)), .float .f32 (x (j.1 * 3 + 1)), .float .f32 (x (j.1 * 3 + 2)), .float .f32 (x ((j.1 + 1) * 3)), .float .f32 (x ((j.1 + 1) * 3 + 1)), .float .f32 (x ((j.1 + 1) * 3 + 2))], .bool false, .float .f32 h, .pointer (some ⟨Bx, 0, none⟩), .pointer (some ⟨Bx, 0, none⟩), .float .f32 (x (j.1 * 3)), .bool false, undef, undef, undef, .bool false, .float .f32 h, .pointer (some ⟨Bx, 3, none⟩), .pointer (some ⟨Bx, 3, none⟩), .float .f32 (x ((j.1 + 1) * 3)), .bool false, undef, undef, undef, .bool true, .float .f32 h, .pointer (some ⟨Bx, 0, none⟩), .pointer (some ⟨Bx, 0, none⟩), .float .f32 (x (j.1 * 3)), .bool true, .bool true, .float .f32 h, .pointer (some ⟨Bx, 3, none⟩), .pointer (some ⟨Bx, 3, none⟩), .float .f32 (x ((j.1 + 1) * 3)), .bool true, .bool true, .pointer (some ⟨Bx, 0, none⟩), .pointer (some ⟨Bx, 1, none⟩), .agg #[.float .f32 (x (j.1 * 3 + 1)), .float .f32 (x (j.1 * 3 + 2))], .pointer (some ⟨Bx, 3, none⟩), .pointer (some ⟨Bx, 4, none⟩), .agg #[.float .f32 (x ((j.1 + 1) * 3 + 1)), .float .f32 (x ((j.1 + 1) * 3 + 2))], undef, .pointer (some ⟨Bx, 0, none⟩), .pointer (some ⟨Bx, 0, none⟩), .float .f32 (x (j.1 * 3)), undef, .agg #[.float .f32 (x (j.1 * 3)), .float .f32 (x (j.1 * 3 + 1)), .float .f32 (x (j.1 * 3 + 2)), .float .f32 (x ((j.1 + 1) * 3)), .float .f32 (x ((j.1 + 1) * 3 + 1)), .float .f32 (x ((j.1 + 1) * 3 + 2))], undef, undef, undef, undef, undef, undef], defers := [] }) Wd := fun Wd hb => by
              rw [← hG]
              have bXd := (hb.block _ (lt_of_block bX)).trans bX
              have kd := kW.out.stay hb
              have hHd := kd.at (x := (w.heap.size, #[.float .f32 h], 22)) (by simp)
              refine wpAnyIn_ready (rs := [6, 12]) (by kernel_rfl) (by simp) ?_
              refine readIn 6 _ _ (.float .f32 h) rfl rfl (by rfl) (run_load_cell 22 _ ⟨w.heap.size, 0, none⟩ _ rfl (run_loadVar_one Try.underlying22 rfl ((cell_of_row _ _ 0 _ _ _ hHd).trans rfl))) rfl rfl rfl ?_ ?_
              · simp only [Act.put, List.setIfInBounds_toArray, List.set_cons_zero, List.set_cons_succ]
                refine takeIn 10 _ _ (.float .f32 (fsub h (x (j.1 * 3)))) rfl rfl (by rfl) (by kernel_rfl) (by kernel_rfl) (by kernel_rfl) (fun w => run_binop_val _ _ _ _ (by rfl) (by rfl) (by simp [eqGuard]) (r1 w)) (fun _ => rfl) rfl rfl ?_
                simp only [Act.put, List.setIfInBounds_toArray, List.set_cons_zero, List.set_cons_succ]
                exact (hG _ _ _ _).mpr (s2569b Wd hb)
              refine callIn 12 _ _ (.float .f32 (dpW x j.1)) rfl rfl (by rfl) 172 #[.agg #[.float .f32 (x (j.1 * 3)), .float .f32 (x (j.1 * 3 + 1)), .float .f32 (x (j.1 * 3 + 2)), .float .f32 (x ((j.1 + 1) * 3)), .float .f32 (x ((j.1 + 1) * 3 + 1)), .float .f32 (x ((j.1 + 1) * 3 + 2))]] (by unfold execOp; go_simp) (fun _ _ => trivial) (fun hh => by cases hh) (fun w2 => Below Wd.heap.size Wd w2) (callsIn_wide.2 (iDepth x j.1 HAt.out.d2 Wd)) rfl rfl (fun w2 hb2 => ?_) AllReadyIn.nil
              simp only [Act.put, List.setIfInBounds_toArray, List.set_cons_zero, List.set_cons_succ]
              exact (hG _ _ _ _).mpr (s259bc w2 (hb.trans (hb2.mono hb.size)))
            have s25bc : ∀ Wd, Below W.heap.size W Wd → G 9 #[true, true, true, true, true, true, false, true, true, false, false, true, true, false, false, false, false, false, false] ({ tmps := #[.slice p n cap, .float .f32 h, undef, .pointer (some ⟨w.heap.size, 0, none⟩), .pointer (some ⟨w.heap.size + 1, 0, none⟩), .pointer (some ⟨w.heap.size + 1 + 1, 0, none⟩), undef, .pointer (some ⟨Bx, 0, none⟩), .slice p n cap, .bool true, .bool false, undef, .slice p n cap, .func (.func 170) #[] #[.pointer (some ⟨w1.heap.size, 0, none⟩)], .int .i64 (j.1 : Int), .agg #[.float .f32 (x (j.1 * 3)), .float .f32 (x (j.1 * 3 + 1)), .float .f32 (x (j.1 * 3 + 2)), .float .f32 (x ((j.1 + 1) * 3)), .float .f32 (x ((j.1 + 1) * 3 + 1)), .float .f32 (x ((j.1 + 1) * 3 + 2))], .bool false, .float .f32 h, .pointer (some ⟨Bx, 0, none⟩), .pointer (some ⟨Bx, 0, none⟩), .float .f32 (x (j.1 * 3)), .bool false, undef, undef, undef, .bool false, .float .f32 h, .pointer (some ⟨Bx, 3, none⟩), .pointer (some ⟨Bx, 3, none⟩), .float .f32 (x ((j.1 + 1) * 3)), .bool false, undef, undef, undef, .bool true, .float .f32 h, .pointer (some ⟨Bx, 0, none⟩), .pointer (some ⟨Bx, 0, none⟩), .float .f32 (x (j.1 * 3)), .bool true, .bool true, .float .f32 h, .pointer (some ⟨Bx, 3, none⟩), .pointer (some ⟨Bx, 3, none⟩), .float .f32 (x ((j.1 + 1) * 3)), .bool true, .bool true, .pointer (some ⟨Bx, 0, none⟩), .pointer (some ⟨Bx, 1, none⟩), .agg #[.float .f32 (x (j.1 * 3 + 1)), .float .f32 (x (j.1 * 3 + 2))], .pointer (some ⟨Bx, 3, none⟩), .pointer (some ⟨Bx, 4, none⟩), .agg #[.float .f32 (x ((j.1 + 1) * 3 + 1)), .float .f32 (x ((j.1 + 1) * 3 + 2))], undef, .pointer (some ⟨Bx, 0, none⟩), .pointer (some ⟨Bx, 0, none⟩), undef, undef, .agg #[.float .f32 (x (j.1 * 3)), .float .f32 (x (j.1 * 3 + 1)), .float .f32 (x (j.1 * 3 + 2)), .float .f32 (x ((j.1 + 1) * 3)), .float .f32 (x ((j.1 + 1) * 3 + 1)), .float .f32 (x ((j.1 + 1) * 3 + 2))], .float .f32 (dpW x j.1), undef, undef, undef, undef, undef], defers := [] }) Wd := fun Wd hb => by
              rw [← hG]
              have bXd := (hb.block _ (lt_of_block bX)).trans bX
              have kd := kW.out.stay hb
              have hHd := kd.at (x := (w.heap.size, #[.float .f32 h], 22)) (by simp)
              refine wpAnyIn_ready (rs := [6, 9]) (by kernel_rfl) (by simp) ?_
              refine readIn 6 _ _ (.float .f32 h) rfl rfl (by rfl) (run_load_cell 22 _ ⟨w.heap.size, 0, none⟩ _ rfl (run_loadVar_one Try.underlying22 rfl ((cell_of_row _ _ 0 _ _ _ hHd).trans rfl))) rfl rfl rfl ?_ ?_
              · simp only [Act.put, List.setIfInBounds_toArray, List.set_cons_zero, List.set_cons_succ]
                exact (hG _ _ _ _).mpr (s256bc Wd hb)
              refine readIn 9 _ _ (.float .f32 (x (j.1 * 3))) rfl rfl (by rfl) (run_load_cell 22 _ ⟨Bx, 0, none⟩ _ rfl (run_loadVar_one Try.underlying22 rfl ((cell_of_row _ Bx 0 _ _ _ bXd).trans rfl))) rfl rfl rfl ?_ AllReadyIn.nil
              simp only [Act.put, List.setIfInBounds_toArray, List.set_cons_zero, List.set_cons_succ]
              exact (hG _ _ _ _).mpr (s259bc Wd hb)
            have s269b : ∀ Wd, Below W.heap.size W Wd → G 8 #[true, true, true, true, true, false, true, true, true, true, true, true, false, false, false, false, false, false, false] ({ tmps := #[.slice p n cap, .float .f32 h, undef, .pointer (some ⟨w.heap.size, 0, none⟩), .pointer (some ⟨w.heap.size + 1, 0, none⟩), .pointer (some ⟨w.heap.size + 1 + 1, 0, none⟩), undef, .pointer (some ⟨Bx, 0, none⟩), .slice p n cap, .bool true, .bool false, undef, .slice p n cap, .func (.func 170) #[] #[.pointer (some ⟨w1.heap.size, 0, none⟩)], .int .i64 (j.1 : Int), .agg #[.float .f32 (x (j.1 * 3)), .float .f32 (x (j.1 * 3 + 1)), .float .f32 (x (j.1 * 3 + 2)), .float .f32 (x ((j.1 + 1) * 3)), .float .f32 (x ((j.1 + 1) * 3 + 1)), .float .f32 (x ((j.1 + 1) * 3 + 2))], .bool false, .float .f32 h, .pointer (some ⟨Bx, 0, none⟩), .pointer (some ⟨Bx, 0, none⟩), .float .f32 (x (j.1 * 3)), .bool false, undef, undef, undef, .bool false, .float .f32 h, .pointer (some ⟨Bx, 3, none⟩), .pointer (some ⟨Bx, 3, none⟩), .float .f32 (x ((j.1 + 1) * 3)), .bool false, undef, undef, undef, .bool true, .float .f32 h, .pointer (some ⟨Bx, 0, none⟩), .pointer (some ⟨Bx, 0, none⟩), .float .f32 (x (j.1 * 3)), .bool true, .bool true, .float .f32 h, .pointer (some ⟨Bx, 3, none⟩), .pointer (some ⟨Bx, 3, none⟩), .float .f32 (x ((j.1 + 1) * 3)), .bool true, .bool true, .pointer (some ⟨Bx, 0, none⟩), .pointer (some ⟨Bx, 1, none⟩), .agg #[.float .f32 (x (j.1 * 3 + 1)), .float .f32 (x (j.1 * 3 + 2))], .pointer (some ⟨Bx, 3, none⟩), .pointer (some ⟨Bx, 4, none⟩), undef, .float .f32 h, .pointer (some ⟨Bx, 0, none⟩), .pointer (some ⟨Bx, 0, none⟩), .float .f32 (x (j.1 * 3)), .float .f32 (fsub h (x (j.1 * 3))), .agg #[.float .f32 (x (j.1 * 3)), .float .f32 (x (j.1 * 3 + 1)), .float .f32 (x (j.1 * 3 + 2)), .float .f32 (x ((j.1 + 1) * 3)), .float .f32 (x ((j.1 + 1) * 3 + 1)), .float .f32 (x ((j.1 + 1) * 3 + 2))], undef, undef, undef, undef, undef, undef], defers := [] }) Wd := fun Wd hb => by
              rw [← hG]
              have bXd := (hb.block _ (lt_of_block bX)).trans bX
              have kd := kW.out.stay hb
              have hHd := kd.at (x := (w.heap.size, #[.float .f32 h], 22)) (by simp)
              refine wpAnyIn_ready (rs := [5, 12]) (by kernel_rfl) (by simp) ?_
              refine readIn 5 _ _ (.agg #[.float .f32 (x ((j.1 + 1) * 3 + 1)), .float .f32 (x ((j.1 + 1) * 3 + 2))]) rfl rfl (by rfl) (run_load_mid 32 _ Bx 4 [.float .f32 (x ((j.1 + 1) * 3 + 1)), .float .f32 (x ((j.1 + 1) * 3 + 2))] rfl (range2 ((cell_of_row _ Bx 4 _ _ _ bXd).trans rfl) ((cell_of_row _ Bx 5 _ _ _ bXd).trans rfl)) _ Try.underlying32 rfl info_air) rfl rfl rfl ?_ ?_
              · simp only [Act.put, List.setIfInBounds_toArray, List.set_cons_zero, List.set_cons_succ]
                exact (hG _ _ _ _).mpr (s2569b Wd hb)
              refine callIn 12 _ _ (.float .f32 (dpW x j.1)) rfl rfl (by rfl) 172 #[.agg #[.float .f32 (x (j.1 * 3)), .float .f32 (x (j.1 * 3 + 1)), .float .f32 (x (j.1 * 3 + 2)), .float .f32 (x ((j.1 + 1) * 3)), .float .f32 (x ((j.1 + 1) * 3 + 1)), .float .f32 (x ((j.1 + 1) * 3 + 2))]] (by unfold execOp; go_simp) (fun _ _ => trivial) (fun hh => by cases hh) (fun w2 => Below Wd.heap.size Wd w2) (callsIn_wide.2 (iDepth x j.1 HAt.out.d2 Wd)) rfl rfl (fun w2 hb2 => ?_) AllReadyIn.nil
              simp only [Act.put, List.setIfInBounds_toArray, List.set_cons_zero, List.set_cons_succ]
              refine takeIn 13 _ _ (.float .f32 (shW x h j.1)) rfl rfl (by rfl) (by kernel_rfl) (by kernel_rfl) (by kernel_rfl) (fun w => run_binop_val _ _ _ _ (by rfl) (by rfl) (by simp [eqGuard]) (r3 w)) (fun _ => rfl) rfl rfl ?_
              simp only [Act.put, List.setIfInBounds_toArray, List.set_cons_zero, List.set_cons_succ]
              exact (hG _ _ _ _).mpr (s269bc w2 (hb.trans (hb2.mono hb.size)))
            have s26bc : ∀ Wd, Below W.heap.size W Wd → G 9 #[true, true, true, true, true, false, true, true, true, false, false, true, true, false, false, false, false, false, false] ({ tmps := #[.slice p n cap, .float .f32 h, undef, .pointer (some ⟨w.heap.size, 0, none⟩), .pointer (some ⟨w.heap.size + 1, 0, none⟩), .pointer (some ⟨w.heap.size + 1 + 1, 0, none⟩), undef, .pointer (some ⟨Bx, 0, none⟩), .slice p n cap, .bool true, .bool false, undef, .slice p n cap, .func (.func 170) #[] #[.pointer (some ⟨w1.heap.size, 0, none⟩)], .int .i64 (j.1 : Int), .agg #[.float .f32 (x (j.1 * 3)), .float .f32 (x (j.1 * 3 + 1)), .float .f32 (x (j.1 * 3 + 2)), .float .f32 (x ((j.1 + 1) * 3)), .float .f32 (x ((j.1 + 1) * 3 + 1)), .float .f32 (x ((j.1 + 1) * 3 + 2))], .bool false, .float .f32 h, .pointer (some ⟨Bx, 0, none⟩), .pointer (some ⟨Bx, 0, none⟩), .float .f32 (x (j.1 * 3)), .bool false, undef, undef, undef, .bool false, .float .f32 h, .pointer (some ⟨Bx, 3, none⟩), .pointer (some ⟨Bx, 3, none⟩), .float .f32 (x ((j.1 + 1) * 3)), .bool false, undef, undef, undef, .bool true, .float .f32 h, .pointer (some ⟨Bx, 0, none⟩), .pointer (some ⟨Bx, 0, none⟩), .float .f32 (x (j.1 * 3)), .bool true, .bool true, .float .f32 h, .pointer (some ⟨Bx, 3, none⟩), .pointer (some ⟨Bx, 3, none⟩), .float .f32 (x ((j.1 + 1) * 3)), .bool true, .bool true, .pointer (some ⟨Bx, 0, none⟩), .pointer (some ⟨Bx, 1, none⟩), .agg #[.float .f32 (x (j.1 * 3 + 1)), .float .f32 (x (j.1 * 3 + 2))], .pointer (some ⟨Bx, 3, none⟩), .pointer (some ⟨Bx, 4, none⟩), undef, .float .f32 h, .pointer (some ⟨Bx, 0, none⟩), .pointer (some ⟨Bx, 0, none⟩), undef, undef, .agg #[.float .f32 (x (j.1 * 3)), .float .f32 (x (j.1 * 3 + 1)), .float .f32 (x (j.1 * 3 + 2)), .float .f32 (x ((j.1 + 1) * 3)), .float .f32 (x ((j.1 + 1) * 3 + 1)), .float .f32 (x ((j.1 + 1) * 3 + 2))], .float .f32 (dpW x j.1), undef, undef, undef, undef, undef], defers := [] }) Wd := fun Wd hb => by
              rw [← hG]
              have bXd := (hb.block _ (lt_of_block bX)).trans bX
              have kd := kW.out.stay hb
              have hHd := kd.at (x := (w.heap.size, #[.float .f32 h], 22)) (by simp)
              refine wpAnyIn_ready (rs := [5, 9]) (by kernel_rfl) (by simp) ?_
              refine readIn 5 _ _ (.agg #[.float .f32 (x ((j.1 + 1) * 3 + 1)), .float .f32 (x ((j.1 + 1) * 3 + 2))]) rfl rfl (by rfl) (run_load_mid 32 _ Bx 4 [.float .f32 (x ((j.1 + 1) * 3 + 1)), .float .f32 (x ((j.1 + 1) * 3 + 2))] rfl (range2 ((cell_of_row _ Bx 4 _ _ _ bXd).trans rfl) ((cell_of_row _ Bx 5 _ _ _ bXd).trans rfl)) _ Try.underlying32 rfl info_air) rfl rfl rfl ?_ ?_
              · simp only [Act.put, List.setIfInBounds_toArray, List.set_cons_zero, List.set_cons_succ]
                exact (hG _ _ _ _).mpr (s256bc Wd hb)
              refine readIn 9 _ _ (.float .f32 (x (j.1 * 3))) rfl rfl (by rfl) (run_load_cell 22 _ ⟨Bx, 0, none⟩ _ rfl (run_loadVar_one Try.underlying22 rfl ((cell_of_row _ Bx 0 _ _ _ bXd).trans rfl))) rfl rfl rfl ?_ AllReadyIn.nil
              simp only [Act.put, List.setIfInBounds_toArray, List.set_cons_zero, List.set_cons_succ]
              refine takeIn 10 _ _ (.float .f32 (fsub h (x (j.1 * 3)))) rfl rfl (by rfl) (by kernel_rfl) (by kernel_rfl) (by kernel_rfl) (fun w => run_binop_val _ _ _ _ (by rfl) (by rfl) (by simp [eqGuard]) (r1 w)) (fun _ => rfl) rfl rfl ?_
              simp only [Act.put, List.setIfInBounds_toArray, List.set_cons_zero, List.set_cons_succ]
              refine takeIn 13 _ _ (.float .f32 (shW x h j.1)) rfl rfl (by rfl) (by kernel_rfl) (by kernel_rfl) (by kernel_rfl) (fun w => run_binop_val _ _ _ _ (by rfl) (by rfl) (by simp [eqGuard]) (r3 w)) (fun _ => rfl) rfl rfl ?_
              simp only [Act.put, List.setIfInBounds_toArray, List.set_cons_zero, List.set_cons_succ]
              exact (hG _ _ _ _).mpr (s269bc Wd hb)
            have s29bc : ∀ Wd, Below W.heap.size W Wd → G 9 #[true, true, true, true, true, false, false, true, true, true, false, true, true, false, false, false, false, false, false] ({ tmps := #[.slice p n cap, .float .f32 h, undef, .pointer (some ⟨w.heap.size, 0, none⟩), .pointer (some ⟨w.heap.size + 1, 0, none⟩), .pointer (some ⟨w.heap.size + 1 + 1, 0, none⟩), undef, .pointer (some ⟨Bx, 0, none⟩), .slice p n cap, .bool true, .bool false, undef, .slice p n cap, .func (.func 170) #[] #[.pointer (some ⟨w1.heap.size, 0, none⟩)], .int .i64 (j.1 : Int), .agg #[.float .f32 (x (j.1 * 3)), .float .f32 (x (j.1 * 3 + 1)), .float .f32 (x (j.1 * 3 + 2)), .float .f32 (x ((j.1 + 1) * 3)), .float .f32 (x ((j.1 + 1) * 3 + 1)), .float .f32 (x ((j.1 + 1) * 3 + 2))], .bool false, .float .f32 h, .pointer (some ⟨Bx, 0, none⟩), .pointer (some ⟨Bx, 0, none⟩), .float .f32 (x (j.1 * 3)), .bool false, undef, undef, undef, .bool false, .float .f32 h, .pointer (some ⟨Bx, 3, none⟩), .pointer (some ⟨Bx, 3, none⟩), .float .f32 (x ((j.1 + 1) * 3)), .bool false, undef, undef, undef, .bool true, .float .f32 h, .pointer (some ⟨Bx, 0, none⟩), .pointer (some ⟨Bx, 0, none⟩), .float .f32 (x (j.1 * 3)), .bool true, .bool true, .float .f32 h, .pointer (some ⟨Bx, 3, none⟩), .pointer (some ⟨Bx, 3, none⟩), .float .f32 (x ((j.1 + 1) * 3)), .bool true, .bool true, .pointer (some ⟨Bx, 0, none⟩), .pointer (some ⟨Bx, 1, none⟩), .agg #[.float .f32 (x (j.1 * 3 + 1)), .float .f32 (x (j.1 * 3 + 2))], .pointer (some ⟨Bx, 3, none⟩), .pointer (some ⟨Bx, 4, none⟩), undef, undef, .pointer (some ⟨Bx, 0, none⟩), .pointer (some ⟨Bx, 0, none⟩), .float .f32 (x (j.1 * 3)), undef, .agg #[.float .f32 (x (j.1 * 3)), .float .f32 (x (j.1 * 3 + 1)), .float .f32 (x (j.1 * 3 + 2)), .float .f32 (x ((j.1 + 1) * 3)), .float .f32 (x ((j.1 + 1) * 3 + 1)), .float .f32 (x ((j.1 + 1) * 3 + 2))], .float .f32 (dpW x j.1), undef, undef, undef, undef, undef], defers := [] }) Wd := fun Wd hb => by
              rw [← hG]
              have bXd := (hb.block _ (lt_of_block bX)).trans bX
              have kd := kW.out.stay hb
              have hHd := kd.at (x := (w.heap.size, #[.float .f32 h], 22)) (by simp)
              refine wpAnyIn_ready (rs := [5, 6]) (by kernel_rfl) (by simp) ?_
              refine readIn 5 _ _ (.agg #[.float .f32 (x ((j.1 + 1) * 3 + 1)), .float .f32 (x ((j.1 + 1) * 3 + 2))]) rfl rfl (by rfl) (run_load_mid 32 _ Bx 4 [.float .f32 (x ((j.1 + 1) * 3 + 1)), .float .f32 (x ((j.1 + 1) * 3 + 2))] rfl (range2 ((cell_of_row _ Bx 4 _ _ _ bXd).trans rfl) ((cell_of_row _ Bx 5 _ _ _ bXd).trans rfl)) _ Try.underlying32 rfl info_air) rfl rfl rfl ?_ ?_
              · simp only [Act.put, List.setIfInBounds_toArray, List.set_cons_zero, List.set_cons_succ]
                exact (hG _ _ _ _).mpr (s259bc Wd hb)
              refine readIn 6 _ _ (.float .f32 h) rfl rfl (by rfl) (run_load_cell 22 _ ⟨w.heap.size, 0, none⟩ _ rfl (run_loadVar_one Try.underlying22 rfl ((cell_of_row _ _ 0 _ _ _ hHd).trans rfl))) rfl rfl rfl ?_ AllReadyIn.nil
              simp only [Act.put, List.setIfInBounds_toArray, List.set_cons_zero, List.set_cons_succ]
              refine takeIn 10 _ _ (.float .f32 (fsub h (x (j.1 * 3)))) rfl rfl (by rfl) (by kernel_rfl) (by kernel_rfl) (by kernel_rfl) (fun w => run_binop_val _ _ _ _ (by rfl) (by rfl) (by simp [eqGuard]) (r1 w)) (fun _ => rfl) rfl rfl ?_
              simp only [Act.put, List.setIfInBounds_toArray, List.set_cons_zero, List.set_cons_succ]
              refine takeIn 13 _ _ (.float .f32 (shW x h j.1)) rfl rfl (by rfl) (by kernel_rfl) (by kernel_rfl) (by kernel_rfl) (fun w => run_binop_val _ _ _ _ (by rfl) (by rfl) (by simp [eqGuard]) (r3 w)) (fun _ => rfl) rfl rfl ?_
              simp only [Act.put, List.setIfInBounds_toArray, List.set_cons_zero, List.set_cons_succ]
              exact (hG _ _ _ _).mpr (s269bc Wd hb)
            have s569b : ∀ Wd, Below W.heap.size W Wd → G 8 #[true, true, false, true, true, true, true, true, true, true, true, true, false, false, false, false, false, false, false] ({ tmps := #[.slice p n cap, .float .f32 h, undef, .pointer (some ⟨w.heap.size, 0, none⟩), .pointer (some ⟨w.heap.size + 1, 0, none⟩), .pointer (some ⟨w.heap.size + 1 + 1, 0, none⟩), undef, .pointer (some ⟨Bx, 0, none⟩), .slice p n cap, .bool true, .bool false, undef, .slice p n cap, .func (.func 170) #[] #[.pointer (some ⟨w1.heap.size, 0, none⟩)], .int .i64 (j.1 : Int), .agg #[.float .f32 (x (j.1 * 3)), .float .f32 (x (j.1 * 3 + 1)), .float .f32 (x (j.1 * 3 + 2)), .float .f32 (x ((j.1 + 1) * 3)), .float .f32 (x ((j.1 + 1) * 3 + 1)), .float .f32 (x ((j.1 + 1) * 3 + 2))], .bool false, .float .f32 h, .pointer (some ⟨Bx, 0, none⟩), .pointer (some ⟨Bx, 0, none⟩), .float .f32 (x (j.1 * 3)), .bool false, undef, undef, undef, .bool false, .float .f32 h, .pointer (some ⟨Bx, 3, none⟩), .pointer (some ⟨Bx, 3, none⟩), .float .f32 (x ((j.1 + 1) * 3)), .bool false, undef, undef, undef, .bool true, .float .f32 h, .pointer (some ⟨Bx, 0, none⟩), .pointer (some ⟨Bx, 0, none⟩), .float .f32 (x (j.1 * 3)), .bool true, .bool true, .float .f32 h, .pointer (some ⟨Bx, 3, none⟩), .pointer (some ⟨Bx, 3, none⟩), .float .f32 (x ((j.1 + 1) * 3)), .bool true, .bool true, .pointer (some ⟨Bx, 0, none⟩), .pointer (some ⟨Bx, 1, none⟩), undef, .pointer (some ⟨Bx, 3, none⟩), .pointer (some ⟨Bx, 4, none⟩), .agg #[.float .f32 (x ((j.1 + 1) * 3 + 1)), .float .f32 (x ((j.1 + 1) * 3 + 2))], .float .f32 h, .pointer (some ⟨Bx, 0, none⟩), .pointer (some ⟨Bx, 0, none⟩), .float .f32 (x (j.1 * 3)), .float .f32 (fsub h (x (j.1 * 3))), .agg #[.float .f32 (x (j.1 * 3)), .float .f32 (x (j.1 * 3 + 1)), .float .f32 (x (j.1 * 3 + 2)), .float .f32 (x ((j.1 + 1) * 3)), .float .f32 (x ((j.1 + 1) * 3 + 1)), .float .f32 (x ((j.1 + 1) * 3 + 2))], undef, undef, undef, undef, undef, undef], defers := [] }) Wd := fun Wd hb => by
              rw [← hG]
              have bXd := (hb.block _ (lt_of_block bX)).trans bX
              have kd := kW.out.stay hb
              have hHd := kd.at (x := (w.heap.size, #[.float .f32 h], 22)) (by simp)
              refine wpAnyIn_ready (rs := [2, 12]) (by kernel_rfl) (by simp) ?_
              refine readIn 2 _ _ (.agg #[.float .f32 (x (j.1 * 3 + 1)), .float .f32 (x (j.1 * 3 + 2))]) rfl rfl (by rfl) (run_load_mid 32 _ Bx 1 [.float .f32 (x (j.1 * 3 + 1)), .float .f32 (x (j.1 * 3 + 2))] rfl (range2 ((cell_of_row _ Bx 1 _ _ _ bXd).trans rfl) ((cell_of_row _ Bx 2 _ _ _ bXd).trans rfl)) _ Try.underlying32 rfl info_air) rfl rfl rfl ?_ ?_
              · simp only [Act.put, List.setIfInBounds_toArray, List.set_cons_zero, List.set_cons_succ]
                exact (hG _ _ _ _).mpr (s2569b Wd hb)
              refine callIn 12 _ _ (.float .f32 (dpW x j.1)) rfl rfl (by rfl) 172 #[.agg #[.float .f32 (x (j.1 * 3)), .float .f32 (x (j.1 * 3 + 1)), .float .f32 (x (j.1 * 3 + 2)), .float .f32 (x ((j.1 + 1) * 3)), .float .f32 (x ((j.1 + 1) * 3 + 1)), .float .f32 (x ((j.1 + 1) * 3 + 2))]] (by unfold execOp; go_simp) (fun _ _ => trivial) (fun hh => by cases hh) (fun w2 => Below Wd.heap.size Wd w2) (callsIn_wide.2 (iDepth x j.1 HAt.out.d2 Wd)) rfl rfl (fun w2 hb2 => ?_) AllReadyIn.nil
              simp only [Act.put, List.setIfInBounds_toArray, List.set_cons_zero, List.set_cons_succ]
              refine takeIn 13 _ _ (.float .f32 (shW x h j.1)) rfl rfl (by rfl) (by kernel_rfl) (by kernel_rfl) (by kernel_rfl) (fun w => run_binop_val _ _ _ _ (by rfl) (by rfl) (by simp [eqGuard]) (r3 w)) (fun _ => rfl) rfl rfl ?_
              simp only [Act.put, List.setIfInBounds_toArray, List.set_cons_zero, List.set_cons_succ]
              exact (hG _ _ _ _).mpr (s569bc w2 (hb.trans (hb2.mono hb.size)))
            have s56bc : ∀ Wd, Below W.heap.size W Wd → G 9 #[true, true, false, true, true, true, true, true, true, false, false, true, true, false, false, false, false, false, false] ({ tmps := #[.slice p n cap, .float .f32 h, undef, .pointer (some ⟨w.heap.size, 0, none⟩), .pointer (some ⟨w.heap.size + 1, 0, none⟩), .pointer (some ⟨w.heap.size + 1 + 1, 0, none⟩), undef, .pointer (some ⟨Bx, 0, none⟩), .slice p n cap, .bool true, .bool false, undef, .slice p n cap, .func (.func 170) #[] #[.pointer (some ⟨w1.heap.size, 0, none⟩)], .int .i64 (j.1 : Int), .agg #[.float .f32 (x (j.1 * 3)), .float .f32 (x (j.1 * 3 + 1)), .float .f32 (x (j.1 * 3 + 2)), .float .f32 (x ((j.1 + 1) * 3)), .float .f32 (x ((j.1 + 1) * 3 + 1)), .float .f32 (x ((j.1 + 1) * 3 + 2))], .bool false, .float .f32 h, .pointer (some ⟨Bx, 0, none⟩), .pointer (some ⟨Bx, 0, none⟩), .float .f32 (x (j.1 * 3)), .bool false, undef, undef, undef, .bool false, .float .f32 h, .pointer (some ⟨Bx, 3, none⟩), .pointer (some ⟨Bx, 3, none⟩), .float .f32 (x ((j.1 + 1) * 3)), .bool false, undef, undef, undef, .bool true, .float .f32 h, .pointer (some ⟨Bx, 0, none⟩), .pointer (some ⟨Bx, 0, none⟩), .float .f32 (x (j.1 * 3)), .bool true, .bool true, .float .f32 h, .pointer (some ⟨Bx, 3, none⟩), .pointer (some ⟨Bx, 3, none⟩), .float .f32 (x ((j.1 + 1) * 3)), .bool true, .bool true, .pointer (some ⟨Bx, 0, none⟩), .pointer (some ⟨Bx, 1, none⟩), undef, .pointer (some ⟨Bx, 3, none⟩), .pointer (some ⟨Bx, 4, none⟩), .agg #[.float .f32 (x ((j.1 + 1) * 3 + 1)), .float .f32 (x ((j.1 + 1) * 3 + 2))], .float .f32 h, .pointer (some ⟨Bx, 0, none⟩), .pointer (some ⟨Bx, 0, none⟩), undef, undef, .agg #[.float .f32 (x (j.1 * 3)), .float .f32 (x (j.1 * 3 + 1)), .float .f32 (x (j.1 * 3 + 2)), .float .f32 (x ((j.1 + 1) * 3)), .float .f32 (x ((j.1 + 1) * 3 + 1)), .float .f32 (x ((j.1 + 1) * 3 + 2))], .float .f32 (dpW x j.1), undef, undef, undef, undef, undef], defers := [] }) Wd := fun Wd hb => by
              rw [← hG]
              have bXd := (hb.block _ (lt_of_block bX)).trans bX
              have kd := kW.out.stay hb
              have hHd := kd.at (x := (w.heap.size, #[.float .f32 h], 22)) (by simp)
              refine wpAnyIn_ready (rs := [2, 9]) (by kernel_rfl) (by simp) ?_
              refine readIn 2 _ _ (.agg #[.float .f32 (x (j.1 * 3 + 1)), .float .f32 (x (j.1 * 3 + 2))]) rfl rfl (by rfl) (run_load_mid 32 _ Bx 1 [.float .f32 (x (j.1 * 3 + 1)), .float .f32 (x (j.1 * 3 + 2))] rfl (range2 ((cell_of_row _ Bx 1 _ _ _ bXd).trans rfl) ((cell_of_row _ Bx 2 _ _ _ bXd).trans rfl)) _ Try.underlying32 rfl info_air) rfl rfl rfl ?_ ?_
              · simp only [Act.put, List.setIfInBounds_toArray, List.set_cons_zero, List.set_cons_succ]
                exact (hG _ _ _ _).mpr (s256bc Wd hb)
              refine readIn 9 _ _ (.float .f32 (x (j.1 * 3))) rfl rfl (by rfl) (run_load_cell 22 _ ⟨Bx, 0, none⟩ _ rfl (run_loadVar_one Try.underlying22 rfl ((cell_of_row _ Bx 0 _ _ _ bXd).trans rfl))) rfl rfl rfl ?_ AllReadyIn.nil
              simp only [Act.put, List.setIfInBounds_toArray, List.set_cons_zero, List.set_cons_succ]
              refine takeIn 10 _ _ (.float .f32 (fsub h (x (j.1 * 3)))) rfl rfl (by rfl) (by kernel_rfl) (by kernel_rfl) (by kernel_rfl) (fun w => run_binop_val _ _ _ _ (by rfl) (by rfl) (by simp [eqGuard]) (r1 w)) (fun _ => rfl) rfl rfl ?_
              simp only [Act.put, List.setIfInBounds_toArray, List.set_cons_zero, List.set_cons_succ]
              refine takeIn 13 _ _ (.float .f32 (shW x h j.1)) rfl rfl (by rfl) (by kernel_rfl) (by kernel_rfl) (by kernel_rfl) (fun w => run_binop_val _ _ _ _ (by rfl) (by rfl) (by simp [eqGuard]) (r3 w)) (fun _ => rfl) rfl rfl ?_
              simp only [Act.put, List.setIfInBounds_toArray, List.set_cons_zero, List.set_cons_succ]
              exact (hG _ _ _ _).mpr (s569bc Wd hb)
            have s59bc : ∀ Wd, Below W.heap.size W Wd → G 9 #[true, true, false, true, true, true, false, true, true, true, false, true, true, false, false, false, false, false, false] ({ tmps := #[.slice p n cap, .float .f32 h, undef, .pointer (some ⟨w.heap.size, 0, none⟩), .pointer (some ⟨w.heap.size + 1, 0, none⟩), .pointer (some ⟨w.heap.size + 1 + 1, 0, none⟩), undef, .pointer (some ⟨Bx, 0, none⟩), .slice p n cap, .bool true, .bool false, undef, .slice p n cap, .func (.func 170) #[] #[.pointer (some ⟨w1.heap.size, 0, none⟩)], .int .i64 (j.1 : Int), .agg #[.float .f32 (x (j.1 * 3)), .float .f32 (x (j.1 * 3 + 1)), .float .f32 (x (j.1 * 3 + 2)), .float .f32 (x ((j.1 + 1) * 3)), .float .f32 (x ((j.1 + 1) * 3 + 1)), .float .f32 (x ((j.1 + 1) * 3 + 2))], .bool false, .float .f32 h, .pointer (some ⟨Bx, 0, none⟩), .pointer (some ⟨Bx, 0, none⟩), .float .f32 (x (j.1 * 3)), .bool false, undef, undef, undef, .bool false, .float .f32 h, .pointer (some ⟨Bx, 3, none⟩), .pointer (some ⟨Bx, 3, none⟩), .float .f32 (x ((j.1 + 1) * 3)), .bool false, undef, undef, undef, .bool true, .float .f32 h, .pointer (some ⟨Bx, 0, none⟩), .pointer (some ⟨Bx, 0, none⟩), .float .f32 (x (j.1 * 3)), .bool true, .bool true, .float .f32 h, .pointer (some ⟨Bx, 3, none⟩), .pointer (some ⟨Bx, 3, none⟩), .float .f32 (x ((j.1 + 1) * 3)), .bool true, .bool true, .pointer (some ⟨Bx, 0, none⟩), .pointer (some ⟨Bx, 1, none⟩), undef, .pointer (some ⟨Bx, 3, none⟩), .pointer (some ⟨Bx, 4, none⟩), .agg #[.float .f32 (x ((j.1 + 1) * 3 + 1)), .float .f32 (x ((j.1 + 1) * 3 + 2))], undef, .pointer (some ⟨Bx, 0, none⟩), .pointer (some ⟨Bx, 0, none⟩), .float .f32 (x (j.1 * 3)), undef, .agg #[.float .f32 (x (j.1 * 3)), .float .f32 (x (j.1 * 3 + 1)), .float .f32 (x (j.1 * 3 + 2)), .float .f32 (x ((j.1 + 1) * 3)), .float .f32 (x ((j.1 + 1) * 3 + 1)), .float .f32 (x ((j.1 + 1) * 3 + 2))], .float .f32 (dpW x j.1), undef, undef, undef, undef, undef], defers := [] }) Wd := fun Wd hb => by
              rw [← hG]
              have bXd := (hb.block _ (lt_of_block bX)).trans bX
              have kd := kW.out.stay hb
              have hHd := kd.at (x := (w.heap.size, #[.float .f32 h], 22)) (by simp)
              refine wpAnyIn_ready (rs := [2, 6]) (by kernel_rfl) (by simp) ?_
              refine readIn 2 _ _ (.agg #[.float .f32 (x (j.1 * 3 + 1)), .float .f32 (x (j.1 * 3 + 2))]) rfl rfl (by rfl) (run_load_mid 32 _ Bx 1 [.float .f32 (x (j.1 * 3 + 1)), .float .f32 (x (j.1 * 3 + 2))] rfl (range2 ((cell_of_row _ Bx 1 _ _ _ bXd).trans rfl) ((cell_of_row _ Bx 2 _ _ _ bXd).trans rfl)) _ Try.underlying32 rfl info_air) rfl rfl rfl ?_ ?_
              · simp only [Act.put, List.setIfInBounds_toArray, List.set_cons_zero, List.set_cons_succ]
                exact (hG _ _ _ _).mpr (s259bc Wd hb)
              refine readIn 6 _ _ (.float .f32 h) rfl rfl (by rfl) (run_load_cell 22 _ ⟨w.heap.size, 0, none⟩ _ rfl (run_loadVar_one Try.underlying22 rfl ((cell_of_row _ _ 0 _ _ _ hHd).trans rfl))) rfl rfl rfl ?_ AllReadyIn.nil
              simp only [Act.put, List.setIfInBounds_toArray, List.set_cons_zero, List.set_cons_succ]
              refine takeIn 10 _ _ (.float .f32 (fsub h (x (j.1 * 3)))) rfl rfl (by rfl) (by kernel_rfl) (by kernel_rfl) (by kernel_rfl) (fun w => run_binop_val _ _ _ _ (by rfl) (by rfl) (by simp [eqGuard]) (r1 w)) (fun _ => rfl) rfl rfl ?_
              simp only [Act.put, List.setIfInBounds_toArray, List.set_cons_zero, List.set_cons_succ]
              refine takeIn 13 _ _ (.float .f32 (shW x h j.1)) rfl rfl (by rfl) (by kernel_rfl) (by kernel_rfl) (by kernel_rfl) (fun w => run_binop_val _ _ _ _ (by rfl) (by rfl) (by simp [eqGuard]) (r3 w)) (fun _ => rfl) rfl rfl ?_
              simp only [Act.put, List.setIfInBounds_toArray, List.set_cons_zero, List.set_cons_succ]
              exact (hG _ _ _ _).mpr (s569bc Wd hb)
            have s69bc : ∀ Wd, Below W.heap.size W Wd → G 7 #[true, true, false, true, true, false, true, true, true, true, true, true, true, true, false, false, false, false, false] ({ tmps := #[.slice p n cap, .float .f32 h, undef, .pointer (some ⟨w.heap.size, 0, none⟩), .pointer (some ⟨w.heap.size + 1, 0, none⟩), .pointer (some ⟨w.heap.size + 1 + 1, 0, none⟩), undef, .pointer (some ⟨Bx, 0, none⟩), .slice p n cap, .bool true, .bool false, undef, .slice p n cap, .func (.func 170) #[] #[.pointer (some ⟨w1.heap.size, 0, none⟩)], .int .i64 (j.1 : Int), .agg #[.float .f32 (x (j.1 * 3)), .float .f32 (x (j.1 * 3 + 1)), .float .f32 (x (j.1 * 3 + 2)), .float .f32 (x ((j.1 + 1) * 3)), .float .f32 (x ((j.1 + 1) * 3 + 1)), .float .f32 (x ((j.1 + 1) * 3 + 2))], .bool false, .float .f32 h, .pointer (some ⟨Bx, 0, none⟩), .pointer (some ⟨Bx, 0, none⟩), .float .f32 (x (j.1 * 3)), .bool false, undef, undef, undef, .bool false, .float .f32 h, .pointer (some ⟨Bx, 3, none⟩), .pointer (some ⟨Bx, 3, none⟩), .float .f32 (x ((j.1 + 1) * 3)), .bool false, undef, undef, undef, .bool true, .float .f32 h, .pointer (some ⟨Bx, 0, none⟩), .pointer (some ⟨Bx, 0, none⟩), .float .f32 (x (j.1 * 3)), .bool true, .bool true, .float .f32 h, .pointer (some ⟨Bx, 3, none⟩), .pointer (some ⟨Bx, 3, none⟩), .float .f32 (x ((j.1 + 1) * 3)), .bool true, .bool true, .pointer (some ⟨Bx, 0, none⟩), .pointer (some ⟨Bx, 1, none⟩), undef, .pointer (some ⟨Bx, 3, none⟩), .pointer (some ⟨Bx, 4, none⟩), undef, .float .f32 h, .pointer (some ⟨Bx, 0, none⟩), .pointer (some ⟨Bx, 0, none⟩), .float .f32 (x (j.1 * 3)), .float .f32 (fsub h (x (j.1 * 3))), .agg #[.float .f32 (x (j.1 * 3)), .float .f32 (x (j.1 * 3 + 1)), .float .f32 (x (j.1 * 3 + 2)), .float .f32 (x ((j.1 + 1) * 3)), .float .f32 (x ((j.1 + 1) * 3 + 1)), .float .f32 (x ((j.1 + 1) * 3 + 2))], .float .f32 (dpW x j.1), .float .f32 (shW x h j.1), undef, undef, undef, undef], defers := [] }) Wd := fun Wd hb => by
              rw [← hG]
              have bXd := (hb.block _ (lt_of_block bX)).trans bX
              have kd := kW.out.stay hb
              have hHd := kd.at (x := (w.heap.size, #[.float .f32 h], 22)) (by simp)
              refine wpAnyIn_ready (rs := [2, 5]) (by kernel_rfl) (by simp) ?_
              refine readIn 2 _ _ (.agg #[.float .f32 (x (j.1 * 3 + 1)), .float .f32 (x (j.1 * 3 + 2))]) rfl rfl (by rfl) (run_load_mid 32 _ Bx 1 [.float .f32 (x (j.1 * 3 + 1)), .float .f32 (x (j.1 * 3 + 2))] rfl (range2 ((cell_of_row _ Bx 1 _ _ _ bXd).trans rfl) ((cell_of_row _ Bx 2 _ _ _ bXd).trans rfl)) _ Try.underlying32 rfl info_air) rfl rfl rfl ?_ ?_
              · simp only [Act.put, List.setIfInBounds_toArray, List.set_cons_zero, List.set_cons_succ]
                exact (hG _ _ _ _).mpr (s269bc Wd hb)
              refine readIn 5 _ _ (.agg #[.float .f32 (x ((j.1 + 1) * 3 + 1)), .float .f32 (x ((j.1 + 1) * 3 + 2))]) rfl rfl (by rfl) (run_load_mid 32 _ Bx 4 [.float .f32 (x ((j.1 + 1) * 3 + 1)), .float .f32 (x ((j.1 + 1) * 3 + 2))] rfl (range2 ((cell_of_row _ Bx 4 _ _ _ bXd).trans rfl) ((cell_of_row _ Bx 5 _ _ _ bXd).trans rfl)) _ Try.underlying32 rfl info_air) rfl rfl rfl ?_ AllReadyIn.nil
              simp only [Act.put, List.setIfInBounds_toArray, List.set_cons_zero, List.set_cons_succ]
              exact (hG _ _ _ _).mpr (s569bc Wd hb)
            have s256 : ∀ Wd, Below W.heap.size W Wd → G 10 #[true, true, true, true, true, true, true, true, true, false, false, false, false, false, false, false, false, false, false] ({ tmps := #[.slice p n cap, .float .f32 h, undef, .pointer (some ⟨w.heap.size, 0, none⟩), .pointer (some ⟨w.heap.size + 1, 0, none⟩), .pointer (some ⟨w.heap.size + 1 + 1, 0, none⟩), undef, .pointer (some ⟨Bx, 0, none⟩), .slice p n cap, .bool true, .bool false, undef, .slice p n cap, .func (.func 170) #[] #[.pointer (some ⟨w1.heap.size, 0, none⟩)], .int .i64 (j.1 : Int), .agg #[.float .f32 (x (j.1 * 3)), .float .f32 (x (j.1 * 3 + 1)), .float .f32 (x (j.1 * 3 + 2)), .float .f32 (x ((j.1 + 1) * 3)), .float .f32 (x ((j.1 + 1) * 3 + 1)), .float .f32 (x ((j.1 + 1) * 3 + 2))], .bool false, .float .f32 h, .pointer (some ⟨Bx, 0, none⟩), .pointer (some ⟨Bx, 0, none⟩), .float .f32 (x (j.1 * 3)), .bool false, undef, undef, undef, .bool false, .float .f32 h, .pointer (some ⟨Bx, 3, none⟩), .pointer (some ⟨Bx, 3, none⟩), .float .f32 (x ((j.1 + 1) * 3)), .bool false, undef, undef, undef, .bool true, .float .f32 h, .pointer (some ⟨Bx, 0, none⟩), .pointer (some ⟨Bx, 0, none⟩), .float .f32 (x (j.1 * 3)), .bool true, .bool true, .float .f32 h, .pointer (some ⟨Bx, 3, none⟩), .pointer (some ⟨Bx, 3, none⟩), .float .f32 (x ((j.1 + 1) * 3)), .bool true, .bool true, .pointer (some ⟨Bx, 0, none⟩), .pointer (some ⟨Bx, 1, none⟩), .agg #[.float .f32 (x (j.1 * 3 + 1)), .float .f32 (x (j.1 * 3 + 2))], .pointer (some ⟨Bx, 3, none⟩), .pointer (some ⟨Bx, 4, none⟩), .agg #[.float .f32 (x ((j.1 + 1) * 3 + 1)), .float .f32 (x ((j.1 + 1) * 3 + 2))], .float .f32 h, .pointer (some ⟨Bx, 0, none⟩), .pointer (some ⟨Bx, 0, none⟩), undef, undef, undef, undef, undef, undef, undef, undef, undef], defers := [] }) Wd := fun Wd hb => by
              rw [← hG]
              have bXd := (hb.block _ (lt_of_block bX)).trans bX
              have kd := kW.out.stay hb
              have hHd := kd.at (x := (w.heap.size, #[.float .f32 h], 22)) (by simp)
              refine wpAnyIn_ready (rs := [9, 11]) (by kernel_rfl) (by simp) ?_
              refine readIn 9 _ _ (.float .f32 (x (j.1 * 3))) rfl rfl (by rfl) (run_load_cell 22 _ ⟨Bx, 0, none⟩ _ rfl (run_loadVar_one Try.underlying22 rfl ((cell_of_row _ Bx 0 _ _ _ bXd).trans rfl))) rfl rfl rfl ?_ ?_
              · simp only [Act.put, List.setIfInBounds_toArray, List.set_cons_zero, List.set_cons_succ]
                refine takeIn 10 _ _ (.float .f32 (fsub h (x (j.1 * 3)))) rfl rfl (by rfl) (by kernel_rfl) (by kernel_rfl) (by kernel_rfl) (fun w => run_binop_val _ _ _ _ (by rfl) (by rfl) (by simp [eqGuard]) (r1 w)) (fun _ => rfl) rfl rfl ?_
                simp only [Act.put, List.setIfInBounds_toArray, List.set_cons_zero, List.set_cons_succ]
                exact (hG _ _ _ _).mpr (s2569 Wd hb)
              refine readIn 11 _ _ (.agg #[.float .f32 (x (j.1 * 3)), .float .f32 (x (j.1 * 3 + 1)), .float .f32 (x (j.1 * 3 + 2)), .float .f32 (x ((j.1 + 1) * 3)), .float .f32 (x ((j.1 + 1) * 3 + 1)), .float .f32 (x ((j.1 + 1) * 3 + 2))]) rfl rfl (by rfl) (run_load_mid 214 _ Bx 0 [.float .f32 (x (j.1 * 3)), .float .f32 (x (j.1 * 3 + 1)), .float .f32 (x (j.1 * 3 + 2)), .float .f32 (x ((j.1 + 1) * 3)), .float .f32 (x ((j.1 + 1) * 3 + 1)), .float .f32 (x ((j.1 + 1) * 3 + 2))] rfl (rowRange bXd) _ Try.underlying214 rfl info_lay) rfl rfl rfl ?_ AllReadyIn.nil
              simp only [Act.put, List.setIfInBounds_toArray, List.set_cons_zero, List.set_cons_succ]
              exact (hG _ _ _ _).mpr (s256b Wd hb)
            have s259 : ∀ Wd, Below W.heap.size W Wd → G 10 #[true, true, true, true, true, true, false, true, true, true, false, false, false, false, false, false, false, false, false] ({ tmps := #[.slice p n cap, .float .f32 h, undef, .pointer (some ⟨w.heap.size, 0, none⟩), .pointer (some ⟨w.heap.size + 1, 0, none⟩), .pointer (some ⟨w.heap.size + 1 + 1, 0, none⟩), undef, .pointer (some ⟨Bx, 0, none⟩), .slice p n cap, .bool true, .bool false, undef, .slice p n cap, .func (.func 170) #[] #[.pointer (some ⟨w1.heap.size, 0, none⟩)], .int .i64 (j.1 : Int), .agg #[.float .f32 (x (j.1 * 3)), .float .f32 (x (j.1 * 3 + 1)), .float .f32 (x (j.1 * 3 + 2)), .float .f32 (x ((j.1 + 1) * 3)), .float .f32 (x ((j.1 + 1) * 3 + 1)), .float .f32 (x ((j.1 + 1) * 3 + 2))], .bool false, .float .f32 h, .pointer (some ⟨Bx, 0, none⟩), .pointer (some ⟨Bx, 0, none⟩), .float .f32 (x (j.1 * 3)), .bool false, undef, undef, undef, .bool false, .float .f32 h, .pointer (some ⟨Bx, 3, none⟩), .pointer (some ⟨Bx, 3, none⟩), .float .f32 (x ((j.1 + 1) * 3)), .bool false, undef, undef, undef, .bool true, .float .f32 h, .pointer (some ⟨Bx, 0, none⟩), .pointer (some ⟨Bx, 0, none⟩), .float .f32 (x (j.1 * 3)), .bool true, .bool true, .float .f32 h, .pointer (some ⟨Bx, 3, none⟩), .pointer (some ⟨Bx, 3, none⟩), .float .f32 (x ((j.1 + 1) * 3)), .bool true, .bool true, .pointer (some ⟨Bx, 0, none⟩), .pointer (some ⟨Bx, 1, none⟩), .agg #[.float .f32 (x (j.1 * 3 + 1)), .float .f32 (x (j.1 * 3 + 2))], .pointer (some ⟨Bx, 3, none⟩), .pointer (some ⟨Bx, 4, none⟩), .agg #[.float .f32 (x ((j.1 + 1) * 3 + 1)), .float .f32 (x ((j.1 + 1) * 3 + 2))], undef, .pointer (some ⟨Bx, 0, none⟩), .pointer (some ⟨Bx, 0, none⟩), .float .f32 (x (j.1 * 3)), undef, undef, undef, undef, undef, undef, undef, undef], defers := [] }) Wd := fun Wd hb => by
              rw [← hG]
              have bXd := (hb.block _ (lt_of_block bX)).trans bX
              have kd := kW.out.stay hb
              have hHd := kd.at (x := (w.heap.size, #[.float .f32 h], 22)) (by simp)
              refine wpAnyIn_ready (rs := [6, 11]) (by kernel_rfl) (by simp) ?_
              refine readIn 6 _ _ (.float .f32 h) rfl rfl (by rfl) (run_load_cell 22 _ ⟨w.heap.size, 0, none⟩ _ rfl (run_loadVar_one Try.underlying22 rfl ((cell_of_row _ _ 0 _ _ _ hHd).trans rfl))) rfl rfl rfl ?_ ?_
              · simp only [Act.put, List.setIfInBounds_toArray, List.set_cons_zero, List.set_cons_succ]
                refine takeIn 10 _ _ (.float .f32 (fsub h (x (j.1 * 3)))) rfl rfl (by rfl) (by kernel_rfl) (by kernel_rfl) (by kernel_rfl) (fun w => run_binop_val _ _ _ _ (by rfl) (by rfl) (by simp [eqGuard]) (r1 w)) (fun _ => rfl) rfl rfl ?_
                simp only [Act.put, List.setIfInBounds_toArray, List.set_cons_zero, List.set_cons_succ]
                exact (hG _ _ _ _).mpr (s2569 Wd hb)
              refine readIn 11 _ _ (.agg #[.float .f32 (x (j.1 * 3)), .float .f32 (x (j.1 * 3 + 1)), .float .f32 (x (j.1 * 3 + 2)), .float .f32 (x ((j.1 + 1) * 3)), .float .f32 (x ((j.1 + 1) * 3 + 1)), .float .f32 (x ((j.1 + 1) * 3 + 2))]) rfl rfl (by rfl) (run_load_mid 214 _ Bx 0 [.float .f32 (x (j.1 * 3)), .float .f32 (x (j.1 * 3 + 1)), .float .f32 (x (j.1 * 3 + 2)), .float .f32 (x ((j.1 + 1) * 3)), .float .f32 (x ((j.1 + 1) * 3 + 1)), .float .f32 (x ((j.1 + 1) * 3 + 2))] rfl (rowRange bXd) _ Try.underlying214 rfl info_lay) rfl rfl rfl ?_ AllReadyIn.nil
              simp only [Act.put, List.setIfInBounds_toArray, List.set_cons_zero, List.set_cons_succ]
              exact (hG _ _ _ _).mpr (s259b Wd hb)
            have s25b : ∀ Wd, Below W.heap.size W Wd → G 10 #[true, true, true, true, true, true, false, true, true, false, false, true, false, false, false, false, false, false, false] ({ tmps := #[.slice p n cap, .float .f32 h, undef, .pointer (some ⟨w.heap.size, 0, none⟩), .pointer (some ⟨w.heap.size + 1, 0, none⟩), .pointer (some ⟨w.heap.size + 1 + 1, 0, none⟩), undef, .pointer (some ⟨Bx, 0, none⟩), .slice p n cap, .bool true, .bool false, undef, .slice p n cap, .func (.func 170) #[] #[.pointer (some ⟨w1.heap.size, 0, none⟩)], .int .i64 (j.1 : Int), .agg #[.float .f32 (x (j.1 * 3)), .float .f32 (x (j.1 * 3 + 1)), .float .f32 (x (j.1 * 3 + 2)), .float .f32 (x ((j.1 + 1) * 3)), .float .f32 (x ((j.1 + 1) * 3 + 1)), .float .f32 (x ((j.1 + 1) * 3 + 2))], .bool false, .float .f32 h, .pointer (some ⟨Bx, 0, none⟩), .pointer (some ⟨Bx, 0, none⟩), .float .f32 (x (j.1 * 3)), .bool false, undef, undef, undef, .bool false, .float .f32 h, .pointer (some ⟨Bx, 3, none⟩), .pointer (some ⟨Bx, 3, none⟩), .float .f32 (x ((j.1 + 1) * 3)), .bool false, undef, undef, undef, .bool true, .float .f32 h, .pointer (some ⟨Bx, 0, none⟩), .pointer (some ⟨Bx, 0, none⟩), .float .f32 (x (j.1 * 3)), .bool true, .bool true, .float .f32 h, .pointer (some ⟨Bx, 3, none⟩), .pointer (some ⟨Bx, 3, none⟩), .float .f32 (x ((j.1 + 1) * 3)), .bool true, .bool true, .pointer (some ⟨Bx, 0, none⟩), .pointer (some ⟨Bx, 1, none⟩), .agg #[.float .f32 (x (j.1 * 3 + 1)), .float .f32 (x (j.1 * 3 + 2))], .pointer (some ⟨Bx, 3, none⟩), .pointer (some ⟨Bx, 4, none⟩), .agg #[.float .f32 (x ((j.1 + 1) * 3 + 1)), .float .f32 (x ((j.1 + 1) * 3 + 2))], undef, .pointer (some ⟨Bx, 0, none⟩), .pointer (some ⟨Bx, 0, none⟩), undef, undef, .agg #[.float .f32 (x (j.1 * 3)), .float .f32 (x (j.1 * 3 + 1)), .float .f32 (x (j.1 * 3 + 2)), .float .f32 (x ((j.1 + 1) * 3)), .float .f32 (x ((j.1 + 1) * 3 + 1)), .float .f32 (x ((j.1 + 1) * 3 + 2))], undef, undef, undef, undef, undef, undef], defers := [] }) Wd := fun Wd hb => by
              rw [← hG]
              have bXd := (hb.block _ (lt_of_block bX)).trans bX
              have kd := kW.out.stay hb
              have hHd := kd.at (x := (w.heap.size, #[.float .f32 h], 22)) (by simp)
              refine wpAnyIn_ready (rs := [6, 9, 12]) (by kernel_rfl) (by simp) ?_
              refine readIn 6 _ _ (.float .f32 h) rfl rfl (by rfl) (run_load_cell 22 _ ⟨w.heap.size, 0, none⟩ _ rfl (run_loadVar_one Try.underlying22 rfl ((cell_of_row _ _ 0 _ _ _ hHd).trans rfl))) rfl rfl rfl ?_ ?_
              · simp only [Act.put, List.setIfInBounds_toArray, List.set_cons_zero, List.set_cons_succ]
                exact (hG _ _ _ _).mpr (s256b Wd hb)
              refine readIn 9 _ _ (.float .f32 (x (j.1 * 3))) rfl rfl (by rfl) (run_load_cell 22 _ ⟨Bx, 0, none⟩ _ rfl (run_loadVar_one Try.underlying22 rfl ((cell_of_row _ Bx 0 _ _ _ bXd).trans rfl))) rfl rfl rfl ?_ ?_
              · simp only [Act.put, List.setIfInBounds_toArray, List.set_cons_zero, List.set_cons_succ]
                exact (hG _ _ _ _).mpr (s259b Wd hb)
              refine callIn 12 _ _ (.float .f32 (dpW x j.1)) rfl rfl (by rfl) 172 #[.agg #[.float .f32 (x (j.1 * 3)), .float .f32 (x (j.1 * 3 + 1)), .float .f32 (x (j.1 * 3 + 2)), .float .f32 (x ((j.1 + 1) * 3)), .float .f32 (x ((j.1 + 1) * 3 + 1)), .float .f32 (x ((j.1 + 1) * 3 + 2))]] (by unfold execOp; go_simp) (fun _ _ => trivial) (fun hh => by cases hh) (fun w2 => Below Wd.heap.size Wd w2) (callsIn_wide.2 (iDepth x j.1 HAt.out.d2 Wd)) rfl rfl (fun w2 hb2 => ?_) AllReadyIn.nil
              simp only [Act.put, List.setIfInBounds_toArray, List.set_cons_zero, List.set_cons_succ]
              exact (hG _ _ _ _).mpr (s25bc w2 (hb.trans (hb2.mono hb.size)))
            have s269 : ∀ Wd, Below W.heap.size W Wd → G 9 #[true, true, true, true, true, false, true, true, true, true, true, false, false, false, false, false, false, false, false] ({ tmps := #[.slice p n cap, .float .f32 h, undef, .pointer (some ⟨w.heap.size, 0, none⟩), .pointer (some ⟨w.heap.size + 1, 0, none⟩), .pointer (some ⟨w.heap.size + 1 + 1, 0, none⟩), undef, .pointer (some ⟨Bx, 0, none⟩), .slice p n cap, .bool true, .bool false, undef, .slice p n cap, .func (.func 170) #[] #[.pointer (some ⟨w1.heap.size, 0, none⟩)], .int .i64 (j.1 : Int), .agg #[.float .f32 (x (j.1 * 3)), .float .f32 (x (j.1 * 3 + 1)), .float .f32 (x (j.1 * 3 + 2)), .float .f32 (x ((j.1 + 1) * 3)), .float .f32 (x ((j.1 + 1) * 3 + 1)), .float .f32 (x ((j.1 + 1) * 3 + 2))], .bool false, .float .f32 h, .pointer (some ⟨Bx, 0, none⟩), .pointer (some ⟨Bx, 0, none⟩), .float .f32 (x (j.1 * 3)), .bool false, undef, undef, undef, .bool false, .float .f32 h, .pointer (some ⟨Bx, 3, none⟩), .pointer (some ⟨Bx, 3, none⟩), .float .f32 (x ((j.1 + 1) * 3)), .bool false, undef, undef, undef, .bool true, .float .f32 h, .pointer (some ⟨Bx, 0, none⟩), .pointer (some ⟨Bx, 0, none⟩), .float .f32 (x (j.1 * 3)), .bool true, .bool true, .float .f32 h, .pointer (some ⟨Bx, 3, none⟩), .pointer (some ⟨Bx, 3, none⟩), .float .f32 (x ((j.1 + 1) * 3)), .bool true, .bool true, .pointer (some ⟨Bx, 0, none⟩), .pointer (some ⟨Bx, 1, none⟩), .agg #[.float .f32 (x (j.1 * 3 + 1)), .float .f32 (x (j.1 * 3 + 2))], .pointer (some ⟨Bx, 3, none⟩), .pointer (some ⟨Bx, 4, none⟩), undef, .float .f32 h, .pointer (some ⟨Bx, 0, none⟩), .pointer (some ⟨Bx, 0, none⟩), .float .f32 (x (j.1 * 3)), .float .f32 (fsub h (x (j.1 * 3))), undef, undef, undef, undef, undef, undef, undef], defers := [] }) Wd := fun Wd hb => by
              rw [← hG]
              have bXd := (hb.block _ (lt_of_block bX)).trans bX
              have kd := kW.out.stay hb
              have hHd := kd.at (x := (w.heap.size, #[.float .f32 h], 22)) (by simp)
              refine wpAnyIn_ready (rs := [5, 11]) (by kernel_rfl) (by simp) ?_
              refine readIn 5 _ _ (.agg #[.float .f32 (x ((j.1 + 1) * 3 + 1)), .float .f32 (x ((j.1 + 1) * 3 + 2))]) rfl rfl (by rfl) (run_load_mid 32 _ Bx 4 [.float .f32 (x ((j.1 + 1) * 3 + 1)), .float .f32 (x ((j.1 + 1) * 3 + 2))] rfl (range2 ((cell_of_row _ Bx 4 _ _ _ bXd).trans rfl) ((cell_of_row _ Bx 5 _ _ _ bXd).trans rfl)) _ Try.underlying32 rfl info_air) rfl rfl rfl ?_ ?_
              · simp only [Act.put, List.setIfInBounds_toArray, List.set_cons_zero, List.set_cons_succ]
                exact (hG _ _ _ _).mpr (s2569 Wd hb)
              refine readIn 11 _ _ (.agg #[.float .f32 (x (j.1 * 3)), .float .f32 (x (j.1 * 3 + 1)), .float .f32 (x (j.1 * 3 + 2)), .float .f32 (x ((j.1 + 1) * 3)), .float .f32 (x ((j.1 + 1) * 3 + 1)), .float .f32 (x ((j.1 + 1) * 3 + 2))]) rfl rfl (by rfl) (run_load_mid 214 _ Bx 0 [.float .f32 (x (j.1 * 3)), .float .f32 (x (j.1 * 3 + 1)), .float .f32 (x (j.1 * 3 + 2)), .float .f32 (x ((j.1 + 1) * 3)), .float .f32 (x ((j.1 + 1) * 3 + 1)), .float .f32 (x ((j.1 + 1) * 3 + 2))] rfl (rowRange bXd) _ Try.underlying214 rfl info_lay) rfl rfl rfl ?_ AllReadyIn.nil
              simp only [Act.put, List.setIfInBounds_toArray, List.set_cons_zero, List.set_cons_succ]
              exact (hG _ _ _ _).mpr (s269b Wd hb)
            have s26b : ∀ Wd, Below W.heap.size W Wd → G 10 #[true, true, true, true, true, false, true, true, true, false, false, true, false, false, false, false, false, false, false] ({ tmps := #[.slice p n cap, .float .f32 h, undef, .pointer (some ⟨w.heap.size, 0, none⟩), .pointer (some ⟨w.heap.size + 1, 0, none⟩), .pointer (some ⟨w.heap.size + 1 + 1, 0, none⟩), undef, .pointer (some ⟨Bx, 0, none⟩), .slice p n cap, .bool true, .bool false, undef, .slice p n cap, .func (.func 170) #[] #[.pointer (some ⟨w1.heap.size, 0, none⟩)], .int .i64 (j.1 : Int), .agg #[.float .f32 (x (j.1 * 3)), .float .f32 (x (j.1 * 3 + 1)), .float .f32 (x (j.1 * 3 + 2)), .float .f32 (x ((j.1 + 1) * 3)), .float .f32 (x ((j.1 + 1) * 3 + 1)), .float .f32 (x ((j.1 + 1) * 3 + 2))], .bool false, .float .f32 h, .pointer (some ⟨Bx, 0, none⟩), .pointer (some ⟨Bx, 0, none⟩), .float .f32 (x (j.1 * 3)), .bool false, undef, undef, undef, .bool false, .float .f32 h, .pointer (some ⟨Bx, 3, none⟩), .pointer (some ⟨Bx, 3, none⟩), .float .f32 (x ((j.1 + 1) * 3)), .bool false, undef, undef, undef, .bool true, .float .f32 h, .pointer (some ⟨Bx, 0, none⟩), .pointer (some ⟨Bx, 0, none⟩), .float .f32 (x (j.1 * 3)), .bool true, .bool true, .float .f32 h, .pointer (some ⟨Bx, 3, none⟩), .pointer (some ⟨Bx, 3, none⟩), .float .f32 (x ((j.1 + 1) * 3)), .bool true, .bool true, .pointer (some ⟨Bx, 0, none⟩), .pointer (some ⟨Bx, 1, none⟩), .agg #[.float .f32 (x (j.1 * 3 + 1)), .float .f32 (x (j.1 * 3 + 2))], .pointer (some ⟨Bx, 3, none⟩), .pointer (some ⟨Bx, 4, none⟩), undef, .float .f32 h, .pointer (some ⟨Bx, 0, none⟩), .pointer (some ⟨Bx, 0, none⟩), undef, undef, .agg #[.float .f32 (x (j.1 * 3)), .float .f32 (x (j.1 * 3 + 1)), .float .f32 (x (j.1 * 3 + 2)), .float .f32 (x ((j.1 + 1) * 3)), .float .f32 (x ((j.1 + 1) * 3 + 1)), .float .f32 (x ((j.1 + 1) * 3 + 2))], undef, undef, undef, undef, undef, undef], defers := [] }) Wd := fun Wd hb => by
              rw [← hG]
              have bXd := (hb.block _ (lt_of_block bX)).trans bX
              have kd := kW.out.stay hb
              have hHd := kd.at (x := (w.heap.size, #[.float .f32 h], 22)) (by simp)
              refine wpAnyIn_ready (rs := [5, 9, 12]) (by kernel_rfl) (by simp) ?_
              refine readIn 5 _ _ (.agg #[.float .f32 (x ((j.1 + 1) * 3 + 1)), .float .f32 (x ((j.1 + 1) * 3 + 2))]) rfl rfl (by rfl) (run_load_mid 32 _ Bx 4 [.float .f32 (x ((j.1 + 1) * 3 + 1)), .float .f32 (x ((j.1 + 1) * 3 + 2))] rfl (range2 ((cell_of_row _ Bx 4 _ _ _ bXd).trans rfl) ((cell_of_row _ Bx 5 _ _ _ bXd).trans rfl)) _ Try.underlying32 rfl info_air) rfl rfl rfl ?_ ?_
              · simp only [Act.put, List.setIfInBounds_toArray, List.set_cons_zero, List.set_cons_succ]
                exact (hG _ _ _ _).mpr (s256b Wd hb)
              refine readIn 9 _ _ (.float .f32 (x (j.1 * 3))) rfl rfl (by rfl) (run_load_cell 22 _ ⟨Bx, 0, none⟩ _ rfl (run_loadVar_one Try.underlying22 rfl ((cell_of_row _ Bx 0 _ _ _ bXd).trans rfl))) rfl rfl rfl ?_ ?_
              · simp only [Act.put, List.setIfInBounds_toArray, List.set_cons_zero, List.set_cons_succ]
                refine takeIn 10 _ _ (.float .f32 (fsub h (x (j.1 * 3)))) rfl rfl (by rfl) (by kernel_rfl) (by kernel_rfl) (by kernel_rfl) (fun w => run_binop_val _ _ _ _ (by rfl) (by rfl) (by simp [eqGuard]) (r1 w)) (fun _ => rfl) rfl rfl ?_
                simp only [Act.put, List.setIfInBounds_toArray, List.set_cons_zero, List.set_cons_succ]
                exact (hG _ _ _ _).mpr (s269b Wd hb)
              refine callIn 12 _ _ (.float .f32 (dpW x j.1)) rfl rfl (by rfl) 172 #[.agg #[.float .f32 (x (j.1 * 3)), .float .f32 (x (j.1 * 3 + 1)), .float .f32 (x (j.1 * 3 + 2)), .float .f32 (x ((j.1 + 1) * 3)), .float .f32 (x ((j.1 + 1) * 3 + 1)), .float .f32 (x ((j.1 + 1) * 3 + 2))]] (by unfold execOp; go_simp) (fun _ _ => trivial) (fun hh => by cases hh) (fun w2 => Below Wd.heap.size Wd w2) (callsIn_wide.2 (iDepth x j.1 HAt.out.d2 Wd)) rfl rfl (fun w2 hb2 => ?_) AllReadyIn.nil
              simp only [Act.put, List.setIfInBounds_toArray, List.set_cons_zero, List.set_cons_succ]
              exact (hG _ _ _ _).mpr (s26bc w2 (hb.trans (hb2.mono hb.size)))
            have s29b : ∀ Wd, Below W.heap.size W Wd → G 10 #[true, true, true, true, true, false, false, true, true, true, false, true, false, false, false, false, false, false, false] ({ tmps := #[.slice p n cap, .float .f32 h, undef, .pointer (some ⟨w.heap.size, 0, none⟩), .pointer (some ⟨w.heap.size + 1, 0, none⟩), .pointer (some ⟨w.heap.size + 1 + 1, 0, none⟩), undef, .pointer (some ⟨Bx, 0, none⟩), .slice p n cap, .bool true, .bool false, undef, .slice p n cap, .func (.func 170) #[] #[.pointer (some ⟨w1.heap.size, 0, none⟩)], .int .i64 (j.1 : Int), .agg #[.float .f32 (x (j.1 * 3)), .float .f32 (x (j.1 * 3 + 1)), .float .f32 (x (j.1 * 3 + 2)), .float .f32 (x ((j.1 + 1) * 3)), .float .f32 (x ((j.1 + 1) * 3 + 1)), .float .f32 (x ((j.1 + 1) * 3 + 2))], .bool false, .float .f32 h, .pointer (some ⟨Bx, 0, none⟩), .pointer (some ⟨Bx, 0, none⟩), .float .f32 (x (j.1 * 3)), .bool false, undef, undef, undef, .bool false, .float .f32 h, .pointer (some ⟨Bx, 3, none⟩), .pointer (some ⟨Bx, 3, none⟩), .float .f32 (x ((j.1 + 1) * 3)), .bool false, undef, undef, undef, .bool true, .float .f32 h, .pointer (some ⟨Bx, 0, none⟩), .pointer (some ⟨Bx, 0, none⟩), .float .f32 (x (j.1 * 3)), .bool true, .bool true, .float .f32 h, .pointer (some ⟨Bx, 3, none⟩), .pointer (some ⟨Bx, 3, none⟩), .float .f32 (x ((j.1 + 1) * 3)), .bool true, .bool true, .pointer (some ⟨Bx, 0, none⟩), .pointer (some ⟨Bx, 1, none⟩), .agg #[.float .f32 (x (j.1 * 3 + 1)), .float .f32 (x (j.1 * 3 + 2))], .pointer (some ⟨Bx, 3, none⟩), .pointer (some ⟨Bx, 4, none⟩), undef, undef, .pointer (some ⟨Bx, 0, none⟩), .pointer (some ⟨Bx, 0, none⟩), .float .f32 (x (j.1 * 3)), undef, .agg #[.float .f32 (x (j.1 * 3)), .float .f32 (x (j.1 * 3 + 1)), .float .f32 (x (j.1 * 3 + 2)), .float .f32 (x ((j.1 + 1) * 3)), .float .f32 (x ((j.1 + 1) * 3 + 1)), .float .f32 (x ((j.1 + 1) * 3 + 2))], undef, undef, undef, undef, undef, undef], defers := [] }) Wd := fun Wd hb => by
              rw [← hG]
              have bXd := (hb.block _ (lt_of_block bX)).trans bX
              have kd := kW.out.stay hb
              have hHd := kd.at (x := (w.heap.size, #[.float .f32 h], 22)) (by simp)
              refine wpAnyIn_ready (rs := [5, 6, 12]) (by kernel_rfl) (by simp) ?_
              refine readIn 5 _ _ (.agg #[.float .f32 (x ((j.1 + 1) * 3 + 1)), .float .f32 (x ((j.1 + 1) * 3 + 2))]) rfl rfl (by rfl) (run_load_mid 32 _ Bx 4 [.float .f32 (x ((j.1 + 1) * 3 + 1)), .float .f32 (x ((j.1 + 1) * 3 + 2))] rfl (range2 ((cell_of_row _ Bx 4 _ _ _ bXd).trans rfl) ((cell_of_row _ Bx 5 _ _ _ bXd).trans rfl)) _ Try.underlying32 rfl info_air) rfl rfl rfl ?_ ?_
              · simp only [Act.put, List.setIfInBounds_toArray, List.set_cons_zero, List.set_cons_succ]
                exact (hG _ _ _ _).mpr (s259b Wd hb)
              refine readIn 6 _ _ (.float .f32 h) rfl rfl (by rfl) (run_load_cell 22 _ ⟨w.heap.size, 0, none⟩ _ rfl (run_loadVar_one Try.underlying22 rfl ((cell_of_row _ _ 0 _ _ _ hHd).trans rfl))) rfl rfl rfl ?_ ?_
              · simp only [Act.put, List.setIfInBounds_toArray, List.set_cons_zero, List.set_cons_succ]
                refine takeIn 10 _ _ (.float .f32 (fsub h (x (j.1 * 3)))) rfl rfl (by rfl) (by kernel_rfl) (by kernel_rfl) (by kernel_rfl) (fun w => run_binop_val _ _ _ _ (by rfl) (by rfl) (by simp [eqGuard]) (r1 w)) (fun _ => rfl) rfl rfl ?_
                simp only [Act.put, List.setIfInBounds_toArray, List.set_cons_zero, List.set_cons_succ]
                exact (hG _ _ _ _).mpr (s269b Wd hb)
              refine callIn 12 _ _ (.float .f32 (dpW x j.1)) rfl rfl (by rfl) 172 #[.agg #[.float .f32 (x (j.1 * 3)), .float .f32 (x (j.1 * 3 + 1)), .float .f32 (x (j.1 * 3 + 2)), .float .f32 (x ((j.1 + 1) * 3)), .float .f32 (x ((j.1 + 1) * 3 + 1)), .float .f32 (x ((j.1 + 1) * 3 + 2))]] (by unfold execOp; go_simp) (fun _ _ => trivial) (fun hh => by cases hh) (fun w2 => Below Wd.heap.size Wd w2) (callsIn_wide.2 (iDepth x j.1 HAt.out.d2 Wd)) rfl rfl (fun w2 hb2 => ?_) AllReadyIn.nil
              simp only [Act.put, List.setIfInBounds_toArray, List.set_cons_zero, List.set_cons_succ]
              exact (hG _ _ _ _).mpr (s29bc w2 (hb.trans (hb2.mono hb.size)))
            have s2bc : ∀ Wd, Below W.heap.size W Wd → G 10 #[true, true, true, true, true, false, false, true, true, false, false, true, true, false, false, false, false, false, false] ({ tmps := #[.slice p n cap, .float .f32 h, undef, .pointer (some ⟨w.heap.size, 0, none⟩), .pointer (some ⟨w.heap.size + 1, 0, none⟩), .pointer (some ⟨w.heap.size + 1 + 1, 0, none⟩), undef, .pointer (some ⟨Bx, 0, none⟩), .slice p n cap, .bool true, .bool false, undef, .slice p n cap, .func (.func 170) #[] #[.pointer (some ⟨w1.heap.size, 0, none⟩)], .int .i64 (j.1 : Int), .agg #[.float .f32 (x (j.1 * 3)), .float .f32 (x (j.1 * 3 + 1)), .float .f32 (x (j.1 * 3 + 2)), .float .f32 (x ((j.1 + 1) * 3)), .float .f32 (x ((j.1 + 1) * 3 + 1)), .float .f32 (x ((j.1 + 1) * 3 + 2))], .bool false, .float .f32 h, .pointer (some ⟨Bx, 0, none⟩), .pointer (some ⟨Bx, 0, none⟩), .float .f32 (x (j.1 * 3)), .bool false, undef, undef, undef, .bool false, .float .f32 h, .pointer (some ⟨Bx, 3, none⟩), .pointer (some ⟨Bx, 3, none⟩), .float .f32 (x ((j.1 + 1) * 3)), .bool false, undef, undef, undef, .bool true, .float .f32 h, .pointer (some ⟨Bx, 0, none⟩), .pointer (some ⟨Bx, 0, none⟩), .float .f32 (x (j.1 * 3)), .bool true, .bool true, .float .f32 h, .pointer (some ⟨Bx, 3, none⟩), .pointer (some ⟨Bx, 3, none⟩), .float .f32 (x ((j.1 + 1) * 3)), .bool true, .bool true, .pointer (some ⟨Bx, 0, none⟩), .pointer (some ⟨Bx, 1, none⟩), .agg #[.float .f32 (x (j.1 * 3 + 1)), .float .f32 (x (j.1 * 3 + 2))], .pointer (some ⟨Bx, 3, none⟩), .pointer (some ⟨Bx, 4, none⟩), undef, undef, .pointer (some ⟨Bx, 0, none⟩), .pointer (some ⟨Bx, 0, none⟩), undef, undef, .agg #[.float .f32 (x (j.1 * 3)), .float .f32 (x (j.1 * 3 + 1)), .float .f32 (x (j.1 * 3 + 2)), .float .f32 (x ((j.1 + 1) * 3)), .float .f32 (x ((j.1 + 1) * 3 + 1)), .float .f32 (x ((j.1 + 1) * 3 + 2))], .float .f32 (dpW x j.1), undef, undef, undef, undef, undef], defers := [] }) Wd := fun Wd hb => by
              rw [← hG]
              have bXd := (hb.block _ (lt_of_block bX)).trans bX
              have kd := kW.out.stay hb
              have hHd := kd.at (x := (w.heap.size, #[.float .f32 h], 22)) (by simp)
              refine wpAnyIn_ready (rs := [5, 6, 9]) (by kernel_rfl) (by simp) ?_
              refine readIn 5 _ _ (.agg #[.float .f32 (x ((j.1 + 1) * 3 + 1)), .float .f32 (x ((j.1 + 1) * 3 + 2))]) rfl rfl (by rfl) (run_load_mid 32 _ Bx 4 [.float .f32 (x ((j.1 + 1) * 3 + 1)), .float .f32 (x ((j.1 + 1) * 3 + 2))] rfl (range2 ((cell_of_row _ Bx 4 _ _ _ bXd).trans rfl) ((cell_of_row _ Bx 5 _ _ _ bXd).trans rfl)) _ Try.underlying32 rfl info_air) rfl rfl rfl ?_ ?_
              · simp only [Act.put, List.setIfInBounds_toArray, List.set_cons_zero, List.set_cons_succ]
                exact (hG _ _ _ _).mpr (s25bc Wd hb)
              refine readIn 6 _ _ (.float .f32 h) rfl rfl (by rfl) (run_load_cell 22 _ ⟨w.heap.size, 0, none⟩ _ rfl (run_loadVar_one Try.underlying22 rfl ((cell_of_row _ _ 0 _ _ _ hHd).trans rfl))) rfl rfl rfl ?_ ?_
              · simp only [Act.put, List.setIfInBounds_toArray, List.set_cons_zero, List.set_cons_succ]
                exact (hG _ _ _ _).mpr (s26bc Wd hb)
              refine readIn 9 _ _ (.float .f32 (x (j.1 * 3))) rfl rfl (by rfl) (run_load_cell 22 _ ⟨Bx, 0, none⟩ _ rfl (run_loadVar_one Try.underlying22 rfl ((cell_of_row _ Bx 0 _ _ _ bXd).trans rfl))) rfl rfl rfl ?_ AllReadyIn.nil
              simp only [Act.put, List.setIfInBounds_toArray, List.set_cons_zero, List.set_cons_succ]
              exact (hG _ _ _ _).mpr (s29bc Wd hb)
            have s569 : ∀ Wd, Below W.heap.size W Wd → G 9 #[true, true, false, true, true, true, true, true, true, true, true, false, false, false, false, false, false, false, false] ({ tmps := #[.slice p n cap, .float .f32 h, undef, .pointer (some ⟨w.heap.size, 0, none⟩), .pointer (some ⟨w.heap.size + 1, 0, none⟩), .pointer (some ⟨w.heap.size + 1 + 1, 0, none⟩), undef, .pointer (some ⟨Bx, 0, none⟩), .slice p n cap, .bool true, .bool false, undef, .slice p n cap, .func (.func 170) #[] #[.pointer (some ⟨w1.heap.size, 0, none⟩)], .int .i64 (j.1 : Int), .agg #[.float .f32 (x (j.1 * 3)), .float .f32 (x (j.1 * 3 + 1)), .float .f32 (x (j.1 * 3 + 2)), .float .f32 (x ((j.1 + 1) * 3)), .float .f32 (x ((j.1 + 1) * 3 + 1)), .float .f32 (x ((j.1 + 1) * 3 + 2))], .bool false, .float .f32 h, .pointer (some ⟨Bx, 0, none⟩), .pointer (some ⟨Bx, 0, none⟩), .float .f32 (x (j.1 * 3)), .bool false, undef, undef, undef, .bool false, .float .f32 h, .pointer (some ⟨Bx, 3, none⟩), .pointer (some ⟨Bx, 3, none⟩), .float .f32 (x ((j.1 + 1) * 3)), .bool false, undef, undef, undef, .bool true, .float .f32 h, .pointer (some ⟨Bx, 0, none⟩), .pointer (some ⟨Bx, 0, none⟩), .float .f32 (x (j.1 * 3)), .bool true, .bool true, .float .f32 h, .pointer (some ⟨Bx, 3, none⟩), .pointer (some ⟨Bx, 3, none⟩), .float .f32 (x ((j.1 + 1) * 3)), .bool true, .bool true, .pointer (some ⟨Bx, 0, none⟩), .pointer (some ⟨Bx, 1, none⟩), undef, .pointer (some ⟨Bx, 3, none⟩), .pointer (some ⟨Bx, 4, none⟩), .agg #[.float .f32 (x ((j.1 + 1) * 3 + 1)), .float .f32 (x ((j.1 + 1) * 3 + 2))], .float .f32 h, .pointer (some ⟨Bx, 0, none⟩), .pointer (some ⟨Bx, 0, none⟩), .float .f32 (x (j.1 * 3)), .float .f32 (fsub h (x (j.1 * 3))), undef, undef, undef, undef, undef, undef, undef], defers := [] }) Wd := fun Wd hb => by
              rw [← hG]
              have bXd := (hb.block _ (lt_of_block bX)).trans bX
              have kd := kW.out.stay hb
              have hHd := kd.at (x := (w.heap.size, #[.float .f32 h], 22)) (by simp)
              refine wpAnyIn_ready (rs := [2, 11]) (by kernel_rfl) (by simp) ?_
              refine readIn 2 _ _ (.agg #[.float .f32 (x (j.1 * 3 + 1)), .float .f32 (x (j.1 * 3 + 2))]) rfl rfl (by rfl) (run_load_mid 32 _ Bx 1 [.float .f32 (x (j.1 * 3 + 1)), .float .f32 (x (j.1 * 3 + 2))] rfl (range2 ((cell_of_row _ Bx 1 _ _ _ bXd).trans rfl) ((cell_of_row _ Bx 2 _ _ _ bXd).trans rfl)) _ Try.underlying32 rfl info_air) rfl rfl rfl ?_ ?_
              · simp only [Act.put, List.setIfInBounds_toArray, List.set_cons_zero, List.set_cons_succ]
                exact (hG _ _ _ _).mpr (s2569 Wd hb)
              refine readIn 11 _ _ (.agg #[.float .f32 (x (j.1 * 3)), .float .f32 (x (j.1 * 3 + 1)), .float .f32 (x (j.1 * 3 + 2)), .float .f32 (x ((j.1 + 1) * 3)), .float .f32 (x ((j.1 + 1) * 3 + 1)), .float .f32 (x ((j.1 + 1) * 3 + 2))]) rfl rfl (by rfl) (run_load_mid 214 _ Bx 0 [.float .f32 (x (j.1 * 3)), .float .f32 (x (j.1 * 3 + 1)), .float .f32 (x (j.1 * 3 + 2)), .float .f32 (x ((j.1 + 1) * 3)), .float .f32 (x ((j.1 + 1) * 3 + 1)), .float .f32 (x ((j.1 + 1) * 3 + 2))] rfl (rowRange bXd) _ Try.underlying214 rfl info_lay) rfl rfl rfl ?_ AllReadyIn.nil
              simp only [Act.put, List.setIfInBounds_toArray, List.set_cons_zero, List.set_cons_succ]
              exact (hG _ _ _ _).mpr (s569b Wd hb)
            have s56b : ∀ Wd, Below W.heap.size W Wd → G 10 #[true, true, false, true, true, true, true, true, true, false, false, true, false, false, false, false, false, false, false] ({ tmps := #[.slice p n cap, .float .f32 h, undef, .pointer (some ⟨w.heap.size, 0, none⟩), .pointer (some ⟨w.heap.size + 1, 0, none⟩), .pointer (some ⟨w.heap.size + 1 + 1, 0, none⟩), undef, .pointer (some ⟨Bx, 0, none⟩), .slice p n cap, .bool true, .bool false, undef, .slice p n cap, .func (.func 170) #[] #[.pointer (some ⟨w1.heap.size, 0, none⟩)], .int .i64 (j.1 : Int), .agg #[.float .f32 (x (j.1 * 3)), .float .f32 (x (j.1 * 3 + 1)), .float .f32 (x (j.1 * 3 + 2)), .float .f32 (x ((j.1 + 1) * 3)), .float .f32 (x ((j.1 + 1) * 3 + 1)), .float .f32 (x ((j.1 + 1) * 3 + 2))], .bool false, .float .f32 h, .pointer (some ⟨Bx, 0, none⟩), .pointer (some ⟨Bx, 0, none⟩), .float .f32 (x (j.1 * 3)), .bool false, undef, undef, undef, .bool false, .float .f32 h, .pointer (some ⟨Bx, 3, none⟩), .pointer (some ⟨Bx, 3, none⟩), .float .f32 (x ((j.1 + 1) * 3)), .bool false, undef, undef, undef, .bool true, .float .f32 h, .pointer (some ⟨Bx, 0, none⟩), .pointer (some ⟨Bx, 0, none⟩), .float .f32 (x (j.1 * 3)), .bool true, .bool true, .float .f32 h, .pointer (some ⟨Bx, 3, none⟩), .pointer (some ⟨Bx, 3, none⟩), .float .f32 (x ((j.1 + 1) * 3)), .bool true, .bool true, .pointer (some ⟨Bx, 0, none⟩), .pointer (some ⟨Bx, 1, none⟩), undef, .pointer (some ⟨Bx, 3, none⟩), .pointer (some ⟨Bx, 4, none⟩), .agg #[.float .f32 (x ((j.1 + 1) * 3 + 1)), .float .f32 (x ((j.1 + 1) * 3 + 2))], .float .f32 h, .pointer (some ⟨Bx, 0, none⟩), .pointer (some ⟨Bx, 0, none⟩), undef, undef, .agg #[.float .f32 (x (j.1 * 3)), .float .f32 (x (j.1 * 3 + 1)), .float .f32 (x (j.1 * 3 + 2)), .float .f32 (x ((j.1 + 1) * 3)), .float .f32 (x ((j.1 + 1) * 3 + 1)), .float .f32 (x ((j.1 + 1) * 3 + 2))], undef, undef, undef, undef, undef, undef], defers := [] }) Wd := fun Wd hb => by
              rw [← hG]
              have bXd := (hb.block _ (lt_of_block bX)).trans bX
              have kd := kW.out.stay hb
              have hHd := kd.at (x := (w.heap.size, #[.float .f32 h], 22)) (by simp)
              refine wpAnyIn_ready (rs := [2, 9, 12]) (by kernel_rfl) (by simp) ?_
              refine readIn 2 _ _ (.agg #[.float .f32 (x (j.1 * 3 + 1)), .float .f32 (x (j.1 * 3 + 2))]) rfl rfl (by rfl) (run_load_mid 32 _ Bx 1 [.float .f32 (x (j.1 * 3 + 1)), .float .f32 (x (j.1 * 3 + 2))] rfl (range2 ((cell_of_row _ Bx 1 _ _ _ bXd).trans rfl) ((cell_of_row _ Bx 2 _ _ _ bXd).trans rfl)) _ Try.underlying32 rfl info_air) rfl rfl rfl ?_ ?_
              · simp only [Act.put, List.setIfInBounds_toArray, List.set_cons_zero, List.set_cons_succ]
                exact (hG _ _ _ _).mpr (s256b Wd hb)
              refine readIn 9 _ _ (.float .f32 (x (j.1 * 3))) rfl rfl (by rfl) (run_load_cell 22 _ ⟨Bx, 0, none⟩ _ rfl (run_loadVar_one Try.underlying22 rfl ((cell_of_row _ Bx 0 _ _ _ bXd).trans rfl))) rfl rfl rfl ?_ ?_
              · simp only [Act.put, List.setIfInBounds_toArray, List.set_cons_zero, List.set_cons_succ]
                refine takeIn 10 _ _ (.float .f32 (fsub h (x (j.1 * 3)))) rfl rfl (by rfl) (by kernel_rfl) (by kernel_rfl) (by kernel_rfl) (fun w => run_binop_val _ _ _ _ (by rfl) (by rfl) (by simp [eqGuard]) (r1 w)) (fun _ => rfl) rfl rfl ?_
                simp only [Act.put, List.setIfInBounds_toArray, List.set_cons_zero, List.set_cons_succ]
                exact (hG _ _ _ _).mpr (s569b Wd hb)
              refine callIn 12 _ _ (.float .f32 (dpW x j.1)) rfl rfl (by rfl) 172 #[.agg #[.float .f32 (x (j.1 * 3)), .float .f32 (x (j.1 * 3 + 1)), .float .f32 (x (j.1 * 3 + 2)), .float .f32 (x ((j.1 + 1) * 3)), .float .f32 (x ((j.1 + 1) * 3 + 1)), .float .f32 (x ((j.1 + 1) * 3 + 2))]] (by unfold execOp; go_simp) (fun _ _ => trivial) (fun hh => by cases hh) (fun w2 => Below Wd.heap.size Wd w2) (callsIn_wide.2 (iDepth x j.1 HAt.out.d2 Wd)) rfl rfl (fun w2 hb2 => ?_) AllReadyIn.nil
              simp only [Act.put, List.setIfInBounds_toArray, List.set_cons_zero, List.set_cons_succ]
              exact (hG _ _ _ _).mpr (s56bc w2 (hb.trans (hb2.mono hb.size)))
            have s59b : ∀ Wd, Below W.heap.size W Wd → G 10 #[true, true, false, true, true, true, false, true, true, true, false, true, false, false, false, false, false, false, false] ({ tmps := #[.slice p n cap, .float .f32 h, undef, .pointer (some ⟨w.heap.size, 0, none⟩), .pointer (some ⟨w.heap.size + 1, 0, none⟩), .pointer (some ⟨w.heap.size + 1 + 1, 0, none⟩), undef, .pointer (some ⟨Bx, 0, none⟩), .slice p n cap, .bool true, .bool false, undef, .slice p n cap, .func (.func 170) #[] #[.pointer (some ⟨w1.heap.size, 0, none⟩)], .int .i64 (j.1 : Int), .agg #[.float .f32 (x (j.1 * 3)), .float .f32 (x (j.1 * 3 + 1)), .float .f32 (x (j.1 * 3 + 2)), .float .f32 (x ((j.1 + 1) * 3)), .float .f32 (x ((j.1 + 1) * 3 + 1)), .float .f32 (x ((j.1 + 1) * 3 + 2))], .bool false, .float .f32 h, .pointer (some ⟨Bx, 0, none⟩), .pointer (some ⟨Bx, 0, none⟩), .float .f32 (x (j.1 * 3)), .bool false, undef, undef, undef, .bool false, .float .f32 h, .pointer (some ⟨Bx, 3, none⟩), .pointer (some ⟨Bx, 3, none⟩), .float .f32 (x ((j.1 + 1) * 3)), .bool false, undef, undef, undef, .bool true, .float .f32 h, .pointer (some ⟨Bx, 0, none⟩), .pointer (some ⟨Bx, 0, none⟩), .float .f32 (x (j.1 * 3)), .bool true, .bool true, .float .f32 h, .pointer (some ⟨Bx, 3, none⟩), .pointer (some ⟨Bx, 3, none⟩), .float .f32 (x ((j.1 + 1) * 3)), .bool true, .bool true, .pointer (some ⟨Bx, 0, none⟩), .pointer (some ⟨Bx, 1, none⟩), undef, .pointer (some ⟨Bx, 3, none⟩), .pointer (some ⟨Bx, 4, none⟩), .agg #[.float .f32 (x ((j.1 + 1) * 3 + 1)), .float .f32 (x ((j.1 + 1) * 3 + 2))], undef, .pointer (some ⟨Bx, 0, none⟩), .pointer (some ⟨Bx, 0, none⟩), .float .f32 (x (j.1 * 3)), undef, .agg #[.float .f32 (x (j.1 * 3)), .float .f32 (x (j.1 * 3 + 1)), .float .f32 (x (j.1 * 3 + 2)), .float .f32 (x ((j.1 + 1) * 3)), .float .f32 (x ((j.1 + 1) * 3 + 1)), .float .f32 (x ((j.1 + 1) * 3 + 2))], undef, undef, undef, undef, undef, undef], defers := [] }) Wd := fun Wd hb => by
              rw [← hG]
              have bXd := (hb.block _ (lt_of_block bX)).trans bX
              have kd := kW.out.stay hb
              have hHd := kd.at (x := (w.heap.size, #[.float .f32 h], 22)) (by simp)
              refine wpAnyIn_ready (rs := [2, 6, 12]) (by kernel_rfl) (by simp) ?_
              refine readIn 2 _ _ (.agg #[.float .f32 (x (j.1 * 3 + 1)), .float .f32 (x (j.1 * 3 + 2))]) rfl rfl (by rfl) (run_load_mid 32 _ Bx 1 [.float .f32 (x (j.1 * 3 + 1)), .float .f32 (x (j.1 * 3 + 2))] rfl (range2 ((cell_of_row _ Bx 1 _ _ _ bXd).trans rfl) ((cell_of_row _ Bx 2 _ _ _ bXd).trans rfl)) _ Try.underlying32 rfl info_air) rfl rfl rfl ?_ ?_
              · simp only [Act.put, List.setIfInBounds_toArray, List.set_cons_zero, List.set_cons_succ]
                exact (hG _ _ _ _).mpr (s259b Wd hb)
              refine readIn 6 _ _ (.float .f32 h) rfl rfl (by rfl) (run_load_cell 22 _ ⟨w.heap.size, 0, none⟩ _ rfl (run_loadVar_one Try.underlying22 rfl ((cell_of_row _ _ 0 _ _ _ hHd).trans rfl))) rfl rfl rfl ?_ ?_
              · simp only [Act.put, List.setIfInBounds_toArray, List.set_cons_zero, List.set_cons_succ]
                refine takeIn 10 _ _ (.float .f32 (fsub h (x (j.1 * 3)))) rfl rfl (by rfl) (by kernel_rfl) (by kernel_rfl) (by kernel_rfl) (fun w => run_binop_val _ _ _ _ (by rfl) (by rfl) (by simp [eqGuard]) (r1 w)) (fun _ => rfl) rfl rfl ?_
                simp only [Act.put, List.setIfInBounds_toArray, List.set_cons_zero, List.set_cons_succ]
                exact (hG _ _ _ _).mpr (s569b Wd hb)
              refine callIn 12 _ _ (.float .f32 (dpW x j.1)) rfl rfl (by rfl) 172 #[.agg #[.float .f32 (x (j.1 * 3)), .float .f32 (x (j.1 * 3 + 1)), .float .f32 (x (j.1 * 3 + 2)), .float .f32 (x ((j.1 + 1) * 3)), .float .f32 (x ((j.1 + 1) * 3 + 1)), .float .f32 (x ((j.1 + 1) * 3 + 2))]] (by unfold execOp; go_simp) (fun _ _ => trivial) (fun hh => by cases hh) (fun w2 => Below Wd.heap.size Wd w2) (callsIn_wide.2 (iDepth x j.1 HAt.out.d2 Wd)) rfl rfl (fun w2 hb2 => ?_) AllReadyIn.nil
              simp only [Act.put, List.setIfInBounds_toArray, List.set_cons_zero, List.set_cons_succ]
              exact (hG _ _ _ _).mpr (s59bc w2 (hb.trans (hb2.mono hb.size)))
            have s5bc : ∀ Wd, Below W.heap.size W Wd → G 10 #[true, true, false, true, true, true, false, true, true, false, false, true, true, false, false, false, false, false, false] ({ tmps := #[.slice p n cap, .float .f32 h, undef, .pointer (some ⟨w.heap.size, 0, none⟩), .pointer (some ⟨w.heap.size + 1, 0, none⟩), .pointer (some ⟨w.heap.size + 1 + 1, 0, none⟩), undef, .pointer (some ⟨Bx, 0, none⟩), .slice p n cap, .bool true, .bool false, undef, .slice p n cap, .func (.func 170) #[] #[.pointer (some ⟨w1.heap.size, 0, none⟩)], .int .i64 (j.1 : Int), .agg #[.float .f32 (x (j.1 * 3)), .float .f32 (x (j.1 * 3 + 1)), .float .f32 (x (j.1 * 3 + 2)), .float .f32 (x ((j.1 + 1) * 3)), .float .f32 (x ((j.1 + 1) * 3 + 1)), .float .f32 (x ((j.1 + 1) * 3 + 2))], .bool false, .float .f32 h, .pointer (some ⟨Bx, 0, none⟩), .pointer (some ⟨Bx, 0, none⟩), .float .f32 (x (j.1 * 3)), .bool false, undef, undef, undef, .bool false, .float .f32 h, .pointer (some ⟨Bx, 3, none⟩), .pointer (some ⟨Bx, 3, none⟩), .float .f32 (x ((j.1 + 1) * 3)), .bool false, undef, undef, undef, .bool true, .float .f32 h, .pointer (some ⟨Bx, 0, none⟩), .pointer (some ⟨Bx, 0, none⟩), .float .f32 (x (j.1 * 3)), .bool true, .bool true, .float .f32 h, .pointer (some ⟨Bx, 3, none⟩), .pointer (some ⟨Bx, 3, none⟩), .float .f32 (x ((j.1 + 1) * 3)), .bool true, .bool true, .pointer (some ⟨Bx, 0, none⟩), .pointer (some ⟨Bx, 1, none⟩), undef, .pointer (some ⟨Bx, 3, none⟩), .pointer (some ⟨Bx, 4, none⟩), .agg #[.float .f32 (x ((j.1 + 1) * 3 + 1)), .float .f32 (x ((j.1 + 1) * 3 + 2))], undef, .pointer (some ⟨Bx, 0, none⟩), .pointer (some ⟨Bx, 0, none⟩), undef, undef, .agg #[.float .f32 (x (j.1 * 3)), .float .f32 (x (j.1 * 3 + 1)), .float .f32 (x (j.1 * 3 + 2)), .float .f32 (x ((j.1 + 1) * 3)), .float .f32 (x ((j.1 + 1) * 3 + 1)), .float .f32 (x ((j.1 + 1) * 3 + 2))], .float .f32 (dpW x j.1), undef, undef, undef, undef, undef], defers := [] }) Wd := fun Wd hb => by
              rw [← hG]
              have bXd := (hb.block _ (lt_of_block bX)).trans bX
              have kd := kW.out.stay hb
              have hHd := kd.at (x := (w.heap.size, #[.float .f32 h], 22)) (by simp)
              refine wpAnyIn_ready (rs := [2, 6, 9]) (by kernel_rfl) (by simp) ?_
              refine readIn 2 _ _ (.agg #[.float .f32 (x (j.1 * 3 + 1)), .float .f32 (x (j.1 * 3 + 2))]) rfl rfl (by rfl) (run_load_mid 32 _ Bx 1 [.float .f32 (x (j.1 * 3 + 1)), .float .f32 (x (j.1 * 3 + 2))] rfl (range2 ((cell_of_row _ Bx 1 _ _ _ bXd).trans rfl) ((cell_of_row _ Bx 2 _ _ _ bXd).trans rfl)) _ Try.underlying32 rfl info_air) rfl rfl rfl ?_ ?_
              · simp only [Act.put, List.setIfInBounds_toArray, List.set_cons_zero, List.set_cons_succ]
                exact (hG _ _ _ _).mpr (s25bc Wd hb)
              refine readIn 6 _ _ (.float .f32 h) rfl rfl (by rfl) (run_load_cell 22 _ ⟨w.heap.size, 0, none⟩ _ rfl (run_loadVar_one Try.underlying22 rfl ((cell_of_row _ _ 0 _ _ _ hHd).trans rfl))) rfl rfl rfl ?_ ?_
              · simp only [Act.put, List.setIfInBounds_toArray, List.set_cons_zero, List.set_cons_succ]
                exact (hG _ _ _ _).mpr (s56bc Wd hb)
              refine readIn 9 _ _ (.float .f32 (x (j.1 * 3))) rfl rfl (by rfl) (run_load_cell 22 _ ⟨Bx, 0, none⟩ _ rfl (run_loadVar_one Try.underlying22 rfl ((cell_of_row _ Bx 0 _ _ _ bXd).trans rfl))) rfl rfl rfl ?_ AllReadyIn.nil
              simp only [Act.put, List.setIfInBounds_toArray, List.set_cons_zero, List.set_cons_succ]
              exact (hG _ _ _ _).mpr (s59bc Wd hb)
            have s69b : ∀ Wd, Below W.heap.size W Wd → G 9 #[true, true, false, true, true, false, true, true, true, true, true, true, false, false, false, false, false, false, false] ({ tmps := #[.slice p n cap, .float .f32 h, undef, .pointer (some ⟨w.heap.size, 0, none⟩), .pointer (some ⟨w.heap.size + 1, 0, none⟩), .pointer (some ⟨w.heap.size + 1 + 1, 0, none⟩), undef, .pointer (some ⟨Bx, 0, none⟩), .slice p n cap, .bool true, .bool false, undef, .slice p n cap, .func (.func 170) #[] #[.pointer (some ⟨w1.heap.size, 0, none⟩)], .int .i64 (j.1 : Int), .agg #[.float .f32 (x (j.1 * 3)), .float .f32 (x (j.1 * 3 + 1)), .float .f32 (x (j.1 * 3 + 2)), .float .f32 (x ((j.1 + 1) * 3)), .float .f32 (x ((j.1 + 1) * 3 + 1)), .float .f32 (x ((j.1 + 1) * 3 + 2))], .bool false, .float .f32 h, .pointer (some ⟨Bx, 0, none⟩), .pointer (some ⟨Bx, 0, none⟩), .float .f32 (x (j.1 * 3)), .bool false, undef, undef, undef, .bool false, .float .f32 h, .pointer (some ⟨Bx, 3, none⟩), .pointer (some ⟨Bx, 3, none⟩), .float .f32 (x ((j.1 + 1) * 3)), .bool false, undef, undef, undef, .bool true, .float .f32 h, .pointer (some ⟨Bx, 0, none⟩), .pointer (some ⟨Bx, 0, none⟩), .float .f32 (x (j.1 * 3)), .bool true, .bool true, .float .f32 h, .pointer (some ⟨Bx, 3, none⟩), .pointer (some ⟨Bx, 3, none⟩), .float .f32 (x ((j.1 + 1) * 3)), .bool true, .bool true, .pointer (some ⟨Bx, 0, none⟩), .pointer (some ⟨Bx, 1, none⟩), undef, .pointer (some ⟨Bx, 3, none⟩), .pointer (some ⟨Bx, 4, none⟩), undef, .float .f32 h, .pointer (some ⟨Bx, 0, none⟩), .pointer (some ⟨Bx, 0, none⟩), .float .f32 (x (j.1 * 3)), .float .f32 (fsub h (x (j.1 * 3))), .agg #[.float .f32 (x (j.1 * 3)), .float .f32 (x (j.1 * 3 + 1)), .float .f32 (x (j.1 * 3 + 2)), .float .f32 (x ((j.1 + 1) * 3)), .float .f32 (x ((j.1 + 1) * 3 + 1)), .float .f32 (x ((j.1 + 1) * 3 + 2))], undef, undef, undef, undef, undef, undef], defers := [] }) Wd := fun Wd hb => by
              rw [← hG]
              have bXd := (hb.block _ (lt_of_block bX)).trans bX
              have kd := kW.out.stay hb
              have hHd := kd.at (x := (w.heap.size, #[.float .f32 h], 22)) (by simp)
              refine wpAnyIn_ready (rs := [2, 5, 12]) (by kernel_rfl) (by simp) ?_
              refine readIn 2 _ _ (.agg #[.float .f32 (x (j.1 * 3 + 1)), .float .f32 (x (j.1 * 3 + 2))]) rfl rfl (by rfl) (run_load_mid 32 _ Bx 1 [.float .f32 (x (j.1 * 3 + 1)), .float .f32 (x (j.1 * 3 + 2))] rfl (range2 ((cell_of_row _ Bx 1 _ _ _ bXd).trans rfl) ((cell_of_row _ Bx 2 _ _ _ bXd).trans rfl)) _ Try.underlying32 rfl info_air) rfl rfl rfl ?_ ?_
              · simp only [Act.put, List.setIfInBounds_toArray, List.set_cons_zero, List.set_cons_succ]
                exact (hG _ _ _ _).mpr (s269b Wd hb)
              refine readIn 5 _ _ (.agg #[.float .f32 (x ((j.1 + 1) * 3 + 1)), .float .f32 (x ((j.1 + 1) * 3 + 2))]) rfl rfl (by rfl) (run_load_mid 32 _ Bx 4 [.float .f32 (x ((j.1 + 1) * 3 + 1)), .float .f32 (x ((j.1 + 1) * 3 + 2))] rfl (range2 ((cell_of_row _ Bx 4 _ _ _ bXd).trans rfl) ((cell_of_row _ Bx 5 _ _ _ bXd).trans rfl)) _ Try.underlying32 rfl info_air) rfl rfl rfl ?_ ?_
              · simp only [Act.put, List.setIfInBounds_toArray, List.set_cons_zero, List.set_cons_succ]
                exact (hG _ _ _ _).mpr (s569b Wd hb)
              refine callIn 12 _ _ (.float .f32 (dpW x j.1)) rfl rfl (by rfl) 172 #[.agg #[.float .f32 (x (j.1 * 3)), .float .f32 (x (j.1 * 3 + 1)), .float .f32 (x (j.1 * 3 + 2)), .float .f32 (x ((j.1 + 1) * 3)), .float .f32 (x ((j.1 + 1) * 3 + 1)), .float .f32 (x ((j.1 + 1) * 3 + 2))]] (by unfold execOp; go_simp) (fun _ _ => trivial) (fun hh => by cases hh) (fun w2 => Below Wd.heap.size Wd w2) (callsIn_wide.2 (iDepth x j.1 HAt.out.d2 Wd)) rfl rfl (fun w2 hb2 => ?_) AllReadyIn.nil
              simp only [Act.put, List.setIfInBounds_toArray, List.set_cons_zero, List.set_cons_succ]
              refine takeIn 13 _ _ (.float .f32 (shW x h j.1)) rfl rfl (by rfl) (by kernel_rfl) (by kernel_rfl) (by kernel_rfl) (fun w => run_binop_val _ _ _ _ (by rfl) (by rfl) (by simp [eqGuard]) (r3 w)) (fun _ => rfl) rfl rfl ?_
              simp only [Act.put, List.setIfInBounds_toArray, List.set_cons_zero, List.set_cons_succ]
              exact (hG _ _ _ _).mpr (s69bc w2 (hb.trans (hb2.mono hb.size)))
            have s6bc : ∀ Wd, Below W.heap.size W Wd → G 10 #[true, true, false, true, true, false, true, true, true, false, false, true, true, false, false, false, false, false, false] ({ tmps := #[.slice p n cap, .float .f32 h, undef, .pointer (some ⟨w.heap.size, 0, none⟩), .pointer (some ⟨w.heap.size + 1, 0, none⟩), .pointer (some ⟨w.heap.size + 1 + 1, 0, none⟩), undef, .pointer (some ⟨Bx, 0, none⟩), .slice p n cap, .bool true, .bool false, undef, .slice p n cap, .func (.func 170) #[] #[.pointer (some ⟨w1.heap.size, 0, none⟩)], .int .i64 (j.1 : Int), .agg #[.float .f32 (x (j.1 * 3)), .float .f32 (x (j.1 * 3 + 1)), .float .f32 (x (j.1 * 3 + 2)), .float .f32 (x ((j.1 + 1) * 3)), .float .f32 (x ((j.1 + 1) * 3 + 1)), .float .f32 (x ((j.1 + 1) * 3 + 2))], .bool false, .float .f32 h, .pointer (some ⟨Bx, 0, none⟩), .pointer (some ⟨Bx, 0, none⟩), .float .f32 (x (j.1 * 3)), .bool false, undef, undef, undef, .bool false, .float .f32 h, .pointer (some ⟨Bx, 3, none⟩), .pointer (some ⟨Bx, 3, none⟩), .float .f32 (x ((j.1 + 1) * 3)), .bool false, undef, undef, undef, .bool true, .float .f32 h, .pointer (some ⟨Bx, 0, none⟩), .pointer (some ⟨Bx, 0, none⟩), .float .f32 (x (j.1 * 3)), .bool true, .bool true, .float .f32 h, .pointer (some ⟨Bx, 3, none⟩), .pointer (some ⟨Bx, 3, none⟩), .float .f32 (x ((j.1 + 1) * 3)), .bool true, .bool true, .pointer (some ⟨Bx, 0, none⟩), .pointer (some ⟨Bx, 1, none⟩), undef, .pointer (some ⟨Bx, 3, none⟩), .pointer (some ⟨Bx, 4, none⟩), undef, .float .f32 h, .pointer (some ⟨Bx, 0, none⟩), .pointer (some ⟨Bx, 0, none⟩), undef, undef, .agg #[.float .f32 (x (j.1 * 3)), .float .f32 (x (j.1 * 3 + 1)), .float .f32 (x (j.1 * 3 + 2)), .float .f32 (x ((j.1 + 1) * 3)), .float .f32 (x ((j.1 + 1) * 3 + 1)), .float .f32 (x ((j.1 + 1) * 3 + 2))], .float .f32 (dpW x j.1), undef, undef, undef, undef, undef], defers := [] }) Wd := fun Wd hb => by
              rw [← hG]
              have bXd := (hb.block _ (lt_of_block bX)).trans bX
              have kd := kW.out.stay hb
              have hHd := kd.at (x := (w.heap.size, #[.float .f32 h], 22)) (by simp)
              refine wpAnyIn_ready (rs := [2, 5, 9]) (by kernel_rfl) (by simp) ?_
              refine readIn 2 _ _ (.agg #[.float .f32 (x (j.1 * 3 + 1)), .float .f32 (x (j.1 * 3 + 2))]) rfl rfl (by rfl) (run_load_mid 32 _ Bx 1 [.float .f32 (x (j.1 * 3 + 1)), .float .f32 (x (j.1 * 3 + 2))] rfl (range2 ((cell_of_row _ Bx 1 _ _ _ bXd).trans rfl) ((cell_of_row _ Bx 2 _ _ _ bXd).trans rfl)) _ Try.underlying32 rfl info_air) rfl rfl rfl ?_ ?_
              · simp only [Act.put, List.setIfInBounds_toArray, List.set_cons_zero, List.set_cons_succ]
                exact (hG _ _ _ _).mpr (s26bc Wd hb)
              refine readIn 5 _ _ (.agg #[.float .f32 (x ((j.1 + 1) * 3 + 1)), .float .f32 (x ((j.1 + 1) * 3 + 2))]) rfl rfl (by rfl) (run_load_mid 32 _ Bx 4 [.float .f32 (x ((j.1 + 1) * 3 + 1)), .float .f32 (x ((j.1 + 1) * 3 + 2))] rfl (range2 ((cell_of_row _ Bx 4 _ _ _ bXd).trans rfl) ((cell_of_row _ Bx 5 _ _ _ bXd).trans rfl)) _ Try.underlying32 rfl info_air) rfl rfl rfl ?_ ?_
              · simp only [Act.put, List.setIfInBounds_toArray, List.set_cons_zero, List.set_cons_succ]
                exact (hG _ _ _ _).mpr (s56bc Wd hb)
              refine readIn 9 _ _ (.float .f32 (x (j.1 * 3))) rfl rfl (by rfl) (run_load_cell 22 _ ⟨Bx, 0, none⟩ _ rfl (run_loadVar_one Try.underlying22 rfl ((cell_of_row _ Bx 0 _ _ _ bXd).trans rfl))) rfl rfl rfl ?_ AllReadyIn.nil
              simp only [Act.put, List.setIfInBounds_toArray, List.set_cons_zero, List.set_cons_succ]
              refine takeIn 10 _ _ (.float .f32 (fsub h (x (j.1 * 3)))) rfl rfl (by rfl) (by kernel_rfl) (by kernel_rfl) (by kernel_rfl) (fun w => run_binop_val _ _ _ _ (by rfl) (by rfl) (by simp [eqGuard]) (r1 w)) (fun _ => rfl) rfl rfl ?_
              simp only [Act.put, List.setIfInBounds_toArray, List.set_cons_zero, List.set_cons_succ]
              refine takeIn 13 _ _ (.float .f32 (shW x h j.1)) rfl rfl (by rfl) (by kernel_rfl) (by kernel_rfl) (by kernel_rfl) (fun w => run_binop_val _ _ _ _ (by rfl) (by rfl) (by simp [eqGuard]) (r3 w)) (fun _ => rfl) rfl rfl ?_
              simp only [Act.put, List.setIfInBounds_toArray, List.set_cons_zero, List.set_cons_succ]
              exact (hG _ _ _ _).mpr (s69bc Wd hb)
            have s9bc : ∀ Wd, Below W.heap.size W Wd → G 10 #[true, true, false, true, true, false, false, true, true, true, false, true, true, false, false, false, false, false, false] ({ tmps := #[.slice p n cap, .float .f32 h, undef, .pointer (some ⟨w.heap.size, 0, none⟩), .pointer (some ⟨w.heap.size + 1, 0, none⟩), .pointer (some ⟨w.heap.size + 1 + 1, 0, none⟩), undef, .pointer (some ⟨Bx, 0, none⟩), .slice p n cap, .bool true, .bool false, undef, .slice p n cap, .func (.func 170) #[] #[.pointer (some ⟨w1.heap.size, 0, none⟩)], .int .i64 (j.1 : Int), .agg #[.float .f32 (x (j.1 * 3)), .float .f32 (x (j.1 * 3 + 1)), .float .f32 (x (j.1 * 3 + 2)), .float .f32 (x ((j.1 + 1) * 3)), .float .f32 (x ((j.1 + 1) * 3 + 1)), .float .f32 (x ((j.1 + 1) * 3 + 2))], .bool false, .float .f32 h, .pointer (some ⟨Bx, 0, none⟩), .pointer (some ⟨Bx, 0, none⟩), .float .f32 (x (j.1 * 3)), .bool false, undef, undef, undef, .bool false, .float .f32 h, .pointer (some ⟨Bx, 3, none⟩), .pointer (some ⟨Bx, 3, none⟩), .float .f32 (x ((j.1 + 1) * 3)), .bool false, undef, undef, undef, .bool true, .float .f32 h, .pointer (some ⟨Bx, 0, none⟩), .pointer (some ⟨Bx, 0, none⟩), .float .f32 (x (j.1 * 3)), .bool true, .bool true, .float .f32 h, .pointer (some ⟨Bx, 3, none⟩), .pointer (some ⟨Bx, 3, none⟩), .float .f32 (x ((j.1 + 1) * 3)), .bool true, .bool true, .pointer (some ⟨Bx, 0, none⟩), .pointer (some ⟨Bx, 1, none⟩), undef, .pointer (some ⟨Bx, 3, none⟩), .pointer (some ⟨Bx, 4, none⟩), undef, undef, .pointer (some ⟨Bx, 0, none⟩), .pointer (some ⟨Bx, 0, none⟩), .float .f32 (x (j.1 * 3)), undef, .agg #[.float .f32 (x (j.1 * 3)), .float .f32 (x (j.1 * 3 + 1)), .float .f32 (x (j.1 * 3 + 2)), .float .f32 (x ((j.1 + 1) * 3)), .float .f32 (x ((j.1 + 1) * 3 + 1)), .float .f32 (x ((j.1 + 1) * 3 + 2))], .float .f32 (dpW x j.1), undef, undef, undef, undef, undef], defers := [] }) Wd := fun Wd hb => by
              rw [← hG]
              have bXd := (hb.block _ (lt_of_block bX)).trans bX
              have kd := kW.out.stay hb
              have hHd := kd.at (x := (w.heap.size, #[.float .f32 h], 22)) (by simp)
              refine wpAnyIn_ready (rs := [2, 5, 6]) (by kernel_rfl) (by simp) ?_
              refine readIn 2 _ _ (.agg #[.float .f32 (x (j.1 * 3 + 1)), .float .f32 (x (j.1 * 3 + 2))]) rfl rfl (by rfl) (run_load_mid 32 _ Bx 1 [.float .f32 (x (j.1 * 3 + 1)), .float .f32 (x (j.1 * 3 + 2))] rfl (range2 ((cell_of_row _ Bx 1 _ _ _ bXd).trans rfl) ((cell_of_row _ Bx 2 _ _ _ bXd).trans rfl)) _ Try.underlying32 rfl info_air) rfl rfl rfl ?_ ?_
              · simp only [Act.put, List.setIfInBounds_toArray, List.set_cons_zero, List.set_cons_succ]
                exact (hG _ _ _ _).mpr (s29bc Wd hb)
              refine readIn 5 _ _ (.agg #[.float .f32 (x ((j.1 + 1) * 3 + 1)), .float .f32 (x ((j.1 + 1) * 3 + 2))]) rfl rfl (by rfl) (run_load_mid 32 _ Bx 4 [.float .f32 (x ((j.1 + 1) * 3 + 1)), .float .f32 (x ((j.1 + 1) * 3 + 2))] rfl (range2 ((cell_of_row _ Bx 4 _ _ _ bXd).trans rfl) ((cell_of_row _ Bx 5 _ _ _ bXd).trans rfl)) _ Try.underlying32 rfl info_air) rfl rfl rfl ?_ ?_
              · simp only [Act.put, List.setIfInBounds_toArray, List.set_cons_zero, List.set_cons_succ]
                exact (hG _ _ _ _).mpr (s59bc Wd hb)
              refine readIn 6 _ _ (.float .f32 h) rfl rfl (by rfl) (run_load_cell 22 _ ⟨w.heap.size, 0, none⟩ _ rfl (run_loadVar_one Try.underlying22 rfl ((cell_of_row _ _ 0 _ _ _ hHd).trans rfl))) rfl rfl rfl ?_ AllReadyIn.nil
              simp only [Act.put, List.setIfInBounds_toArray, List.set_cons_zero, List.set_cons_succ]
              refine takeIn 10 _ _ (.float .f32 (fsub h (x (j.1 * 3)))) rfl rfl (by rfl) (by kernel_rfl) (by kernel_rfl) (by kernel_rfl) (fun w => run_binop_val _ _ _ _ (by rfl) (by rfl) (by simp [eqGuard]) (r1 w)) (fun _ => rfl) rfl rfl ?_
              simp only [Act.put, List.setIfInBounds_toArray, List.set_cons_zero, List.set_cons_succ]
              refine takeIn 13 _ _ (.float .f32 (shW x h j.1)) rfl rfl (by rfl) (by kernel_rfl) (by kernel_rfl) (by kernel_rfl) (fun w => run_binop_val _ _ _ _ (by rfl) (by rfl) (by simp [eqGuard]) (r3 w)) (fun _ => rfl) rfl rfl ?_
              simp only [Act.put, List.setIfInBounds_toArray, List.set_cons_zero, List.set_cons_succ]
              exact (hG _ _ _ _).mpr (s69bc Wd hb)
            have s25 : ∀ Wd, Below W.heap.size W Wd → G 11 #[true, true, true, true, true, true, false, true, true, false, false, false, false, false, false, false, false, false, false] ({ tmps := #[.slice p n cap, .float .f32 h, undef, .pointer (some ⟨w.heap.size, 0, none⟩), .pointer (some ⟨w.heap.size + 1, 0, none⟩), .pointer (some ⟨w.heap.size + 1 + 1, 0, none⟩), undef, .pointer (some ⟨Bx, 0, none⟩), .slice p n cap, .bool true, .bool false, undef, .slice p n cap, .func (.func 170) #[] #[.pointer (some ⟨w1.heap.size, 0, none⟩)], .int .i64 (j.1 : Int), .agg #[.float .f32 (x (j.1 * 3)), .float .f32 (x (j.1 * 3 + 1)), .float .f32 (x (j.1 * 3 + 2)), .float .f32 (x ((j.1 + 1) * 3)), .float .f32 (x ((j.1 + 1) * 3 + 1)), .float .f32 (x ((j.1 + 1) * 3 + 2))], .bool false, .float .f32 h, .pointer (some ⟨Bx, 0, none⟩), .pointer (some ⟨Bx, 0, none⟩), .float .f32 (x (j.1 * 3)), .bool false, undef, undef, undef, .bool false, .float .f32 h, .pointer (some ⟨Bx, 3, none⟩), .pointer (some ⟨Bx, 3, none⟩), .float .f32 (x ((j.1 + 1) * 3)), .bool false, undef, undef, undef, .bool true, .float .f32 h, .pointer (some ⟨Bx, 0, none⟩), .pointer (some ⟨Bx, 0, none⟩), .float .f32 (x (j.1 * 3)), .bool true, .bool true, .float .f32 h, .pointer (some ⟨Bx, 3, none⟩), .pointer (some ⟨Bx, 3, none⟩), .float .f32 (x ((j.1 + 1) * 3)), .bool true, .bool true, .pointer (some ⟨Bx, 0, none⟩), .pointer (some ⟨Bx, 1, none⟩), .agg #[.float .f32 (x (j.1 * 3 + 1)), .float .f32 (x (j.1 * 3 + 2))], .pointer (some ⟨Bx, 3, none⟩), .pointer (some ⟨Bx, 4, none⟩), .agg #[.float .f32 (x ((j.1 + 1) * 3 + 1)), .float .f32 (x ((j.1 + 1) * 3 + 2))], undef, .pointer (some ⟨Bx, 0, none⟩), .pointer (some ⟨Bx, 0, none⟩), undef, undef, undef, undef, undef, undef, undef, undef, undef], defers := [] }) Wd := fun Wd hb => by
              rw [← hG]
              have bXd := (hb.block _ (lt_of_block bX)).trans bX
              have kd := kW.out.stay hb
              have hHd := kd.at (x := (w.heap.size, #[.float .f32 h], 22)) (by simp)
              refine wpAnyIn_ready (rs := [6, 9, 11]) (by kernel_rfl) (by simp) ?_
              refine readIn 6 _ _ (.float .f32 h) rfl rfl (by rfl) (run_load_cell 22 _ ⟨w.heap.size, 0, none⟩ _ rfl (run_loadVar_one Try.underlying22 rfl ((cell_of_row _ _ 0 _ _ _ hHd).trans rfl))) rfl rfl rfl ?_ ?_
              · simp only [Act.put, List.setIfInBounds_toArray, List.set_cons_zero, List.set_cons_succ]
                exact (hG _ _ _ _).mpr (s256 Wd hb)
              refine readIn 9 _ _ (.float .f32 (x (j.1 * 3))) rfl rfl (by rfl) (run_load_cell 22 _ ⟨Bx, 0, none⟩ _ rfl (run_loadVar_one Try.underlying22 rfl ((cell_of_row _ Bx 0 _ _ _ bXd).trans rfl))) rfl rfl rfl ?_ ?_
              · simp only [Act.put, List.setIfInBounds_toArray, List.set_cons_zero, List.set_cons_succ]
                exact (hG _ _ _ _).mpr (s259 Wd hb)
              refine readIn 11 _ _ (.agg #[.float .f32 (x (j.1 * 3)), .float .f32 (x (j.1 * 3 + 1)), .float .f32 (x (j.1 * 3 + 2)), .float .f32 (x ((j.1 + 1) * 3)), .float .f32 (x ((j.1 + 1) * 3 + 1)), .float .f32 (x ((j.1 + 1) * 3 + 2))]) rfl rfl (by rfl) (run_load_mid 214 _ Bx 0 [.float .f32 (x (j.1 * 3)), .float .f32 (x (j.1 * 3 + 1)), .float .f32 (x (j.1 * 3 + 2)), .float .f32 (x ((j.1 + 1) * 3)), .float .f32 (x ((j.1 + 1) * 3 + 1)), .float .f32 (x ((j.1 + 1) * 3 + 2))] rfl (rowRange bXd) _ Try.underlying214 rfl info_lay) rfl rfl rfl ?_ AllReadyIn.nil
              simp only [Act.put, List.setIfInBounds_toArray, List.set_cons_zero, List.set_cons_succ]
              exact (hG _ _ _ _).mpr (s25b Wd hb)
            have s26 : ∀ Wd, Below W.heap.size W Wd → G 11 #[true, true, true, true, true, false, true, true, true, false, false, false, false, false, false, false, false, false, false] ({ tmps := #[.slice p n cap, .float .f32 h, undef, .pointer (some ⟨w.heap.size, 0, none⟩), .pointer (some ⟨w.heap.size + 1, 0, none⟩), .pointer (some ⟨w.heap.size + 1 + 1, 0, none⟩), undef, .pointer (some ⟨Bx, 0, none⟩), .slice p n cap, .bool true, .bool false, undef, .slice p n cap, .func (.func 170) #[] #[.pointer (some ⟨w1.heap.size, 0, none⟩)], .int .i64 (j.1 : Int), .agg #[.float .f32 (x (j.1 * 3)), .float .f32 (x (j.1 * 3 + 1)), .float .f32 (x (j.1 * 3 + 2)), .float .f32 (x ((j.1 + 1) * 3)), .float .f32 (x ((j.1 + 1) * 3 + 1)), .float .f32 (x ((j.1 + 1) * 3 + 2))], .bool false, .float .f32 h, .pointer (some ⟨Bx, 0, none⟩), .pointer (some ⟨Bx, 0, none⟩), .float .f32 (x (j.1 * 3)), .bool false, undef, undef, undef, .bool false, .float .f32 h, .pointer (some ⟨Bx, 3, none⟩), .pointer (some ⟨Bx, 3, none⟩), .float .f32 (x ((j.1 + 1) * 3)), .bool false, undef, undef, undef, .bool true, .float .f32 h, .pointer (some ⟨Bx, 0, none⟩), .pointer (some ⟨Bx, 0, none⟩), .float .f32 (x (j.1 * 3)), .bool true, .bool true, .float .f32 h, .pointer (some ⟨Bx, 3, none⟩), .pointer (some ⟨Bx, 3, none⟩), .float .f32 (x ((j.1 + 1) * 3)), .bool true, .bool true, .pointer (some ⟨Bx, 0, none⟩), .pointer (some ⟨Bx, 1, none⟩), .agg #[.float .f32 (x (j.1 * 3 + 1)), .float .f32 (x (j.1 * 3 + 2))], .pointer (some ⟨Bx, 3, none⟩), .pointer (some ⟨Bx, 4, none⟩), undef, .float .f32 h, .pointer (some ⟨Bx, 0, none⟩), .pointer (some ⟨Bx, 0, none⟩), undef, undef, undef, undef, undef, undef, undef, undef, undef], defers := [] }) Wd := fun Wd hb => by
              rw [← hG]
              have bXd := (hb.block _ (lt_of_block bX)).trans bX
              have kd := kW.out.stay hb
              have hHd := kd.at (x := (w.heap.size, #[.float .f32 h], 22)) (by simp)
              refine wpAnyIn_ready (rs := [5, 9, 11]) (by kernel_rfl) (by simp) ?_
              refine readIn 5 _ _ (.agg #[.float .f32 (x ((j.1 + 1) * 3 + 1)), .float .f32 (x ((j.1 + 1) * 3 + 2))]) rfl rfl (by rfl) (run_load_mid 32 _ Bx 4 [.float .f32 (x ((j.1 + 1) * 3 + 1)), .float .f32 (x ((j.1 + 1) * 3 + 2))] rfl (range2 ((cell_of_row _ Bx 4 _ _ _ bXd).trans rfl) ((cell_of_row _ Bx 5 _ _ _ bXd).trans rfl)) _ Try.underlying32 rfl info_air) rfl rfl rfl ?_ ?_
              · simp only [Act.put, List.setIfInBounds_toArray, List.set_cons_zero, List.set_cons_succ]
                exact (hG _ _ _ _).mpr (s256 Wd hb)
              refine readIn 9 _ _ (.float .f32 (x (j.1 * 3))) rfl rfl (by rfl) (run_load_cell 22 _ ⟨Bx, 0, none⟩ _ rfl (run_loadVar_one Try.underlying22 rfl ((cell_of_row _ Bx 0 _ _ _ bXd).trans rfl))) rfl rfl rfl ?_ ?_
              · simp only [Act.put, List.setIfInBounds_toArray, List.set_cons_zero, List.set_cons_succ]
                refine takeIn 10 _ _ (.float .f32 (fsub h (x (j.1 * 3)))) rfl rfl (by rfl) (by kernel_rfl) (by kernel_rfl) (by kernel_rfl) (fun w => run_binop_val _ _ _ _ (by rfl) (by rfl) (by simp [eqGuard]) (r1 w)) (fun _ => rfl) rfl rfl ?_
                simp only [Act.put, List.setIfInBounds_toArray, List.set_cons_zero, List.set_cons_succ]
                exact (hG _ _ _ _).mpr (s269 Wd hb)
              refine readIn 11 _ _ (.agg #[.float .f32 (x (j.1 * 3)), .float .f32 (x (j.1 * 3 + 1)), .float .f32 (x (j.1 * 3 + 2)), .float .f32 (x ((j.1 + 1) * 3)), .float .f32 (x ((j.1 + 1) * 3 + 1)), .float .f32 (x ((j.1 + 1) * 3 + 2))]) rfl rfl (by rfl) (run_load_mid 214 _ Bx 0 [.float .f32 (x (j.1 * 3)), .float .f32 (x (j.1 * 3 + 1)), .float .f32 (x (j.1 * 3 + 2)), .float .f32 (x ((j.1 + 1) * 3)), .float .f32 (x ((j.1 + 1) * 3 + 1)), .float .f32 (x ((j.1 + 1) * 3 + 2))] rfl (rowRange bXd) _ Try.underlying214 rfl info_lay) rfl rfl rfl ?_ AllReadyIn.nil
              simp only [Act.put, List.setIfInBounds_toArray, List.set_cons_zero, List.set_cons_succ]
              exact (hG _ _ _ _).mpr (s26b Wd hb)
            have s29 : ∀ Wd, Below W.heap.size W Wd → G 11 #[true, true, true, true, true, false, false, true, true, true, false, false, false, false, false, false, false, false, false] ({ tmps := #[.slice p n cap, .float .f32 h, undef, .pointer (some ⟨w.heap.size, 0, none⟩), .pointer (some ⟨w.heap.size + 1, 0, none⟩), .pointer (some ⟨w.heap.size + 1 + 1, 0, none⟩), undef, .pointer (some ⟨Bx, 0, none⟩), .slice p n cap, .bool true, .bool false, undef, .slice p n cap, .func (.func 170) #[] #[.pointer (some ⟨w1.heap.size, 0, none⟩)], .int .i64 (j.1 : Int), .agg #[.float .f32 (x (j.1 * 3)), .float .f32 (x (j.1 * 3 + 1)), .float .f32 (x (j.1 * 3 + 2)), .float .f32 (x ((j.1 + 1) * 3)), .float .f32 (x ((j.1 + 1) * 3 + 1)), .float .f32 (x ((j.1 + 1) * 3 + 2))], .bool false, .float .f32 h, .pointer (some ⟨Bx, 0, none⟩), .pointer (some ⟨Bx, 0, none⟩), .float .f32 (x (j.1 * 3)), .bool false, undef, undef, undef, .bool false, .float .f32 h, .pointer (some ⟨Bx, 3, none⟩), .pointer (some ⟨Bx, 3, none⟩), .float .f32 (x ((j.1 + 1) * 3)), .bool false, undef, undef, undef, .bool true, .float .f32 h, .pointer (some ⟨Bx, 0, none⟩), .pointer (some ⟨Bx, 0, none⟩), .float .f32 (x (j.1 * 3)), .bool true, .bool true, .float .f32 h, .pointer (some ⟨Bx, 3, none⟩), .pointer (some ⟨Bx, 3, none⟩), .float .f32 (x ((j.1 + 1) * 3)), .bool true, .bool true, .pointer (some ⟨Bx, 0, none⟩), .pointer (some ⟨Bx, 1, none⟩), .agg #[.float .f32 (x (j.1 * 3 + 1)), .float .f32 (x (j.1 * 3 + 2))], .pointer (some ⟨Bx, 3, none⟩), .pointer (some ⟨Bx, 4, none⟩), undef, undef, .pointer (some ⟨Bx, 0, none⟩), .pointer (some ⟨Bx, 0, none⟩), .float .f32 (x (j.1 * 3)), undef, undef, undef, undef, undef, undef, undef, undef], defers := [] }) Wd := fun Wd hb => by
              rw [← hG]
              have bXd := (hb.block _ (lt_of_block bX)).trans bX
              have kd := kW.out.stay hb
              have hHd := kd.at (x := (w.heap.size, #[.float .f32 h], 22)) (by simp)
              refine wpAnyIn_ready (rs := [5, 6, 11]) (by kernel_rfl) (by simp) ?_
              refine readIn 5 _ _ (.agg #[.float .f32 (x ((j.1 + 1) * 3 + 1)), .float .f32 (x ((j.1 + 1) * 3 + 2))]) rfl rfl (by rfl) (run_load_mid 32 _ Bx 4 [.float .f32 (x ((j.1 + 1) * 3 + 1)), .float .f32 (x ((j.1 + 1) * 3 + 2))] rfl (range2 ((cell_of_row _ Bx 4 _ _ _ bXd).trans rfl) ((cell_of_row _ Bx 5 _ _ _ bXd).trans rfl)) _ Try.underlying32 rfl info_air) rfl rfl rfl ?_ ?_
              · simp only [Act.put, List.setIfInBounds_toArray, List.set_cons_zero, List.set_cons_succ]
                exact (hG _ _ _ _).mpr (s259 Wd hb)
              refine readIn 6 _ _ (.float .f32 h) rfl rfl (by rfl) (run_load_cell 22 _ ⟨w.heap.size, 0, none⟩ _ rfl (run_loadVar_one Try.underlying22 rfl ((cell_of_row _ _ 0 _ _ _ hHd).trans rfl))) rfl rfl rfl ?_ ?_
              · simp only [Act.put, List.setIfInBounds_toArray, List.set_cons_zero, List.set_cons_succ]
                refine takeIn 10 _ _ (.float .f32 (fsub h (x (j.1 * 3)))) rfl rfl (by rfl) (by kernel_rfl) (by kernel_rfl) (by kernel_rfl) (fun w => run_binop_val _ _ _ _ (by rfl) (by rfl) (by simp [eqGuard]) (r1 w)) (fun _ => rfl) rfl rfl ?_
                simp only [Act.put, List.setIfInBounds_toArray, List.set_cons_zero, List.set_cons_succ]
                exact (hG _ _ _ _).mpr (s269 Wd hb)
              refine readIn 11 _ _ (.agg #[.float .f32 (x (j.1 * 3)), .float .f32 (x (j.1 * 3 + 1)), .float .f32 (x (j.1 * 3 + 2)), .float .f32 (x ((j.1 + 1) * 3)), .float .f32 (x ((j.1 + 1) * 3 + 1)), .float .f32 (x ((j.1 + 1) * 3 + 2))]) rfl rfl (by rfl) (run_load_mid 214 _ Bx 0 [.float .f32 (x (j.1 * 3)), .float .f32 (x (j.1 * 3 + 1)), .float .f32 (x (j.1 * 3 + 2)), .float .f32 (x ((j.1 + 1) * 3)), .float .f32 (x ((j.1 + 1) * 3 + 1)), .float .f32 (x ((j.1 + 1) * 3 + 2))] rfl (rowRange bXd) _ Try.underlying214 rfl info_lay) rfl rfl rfl ?_ AllReadyIn.nil
              simp only [Act.put, List.setIfInBounds_toArray, List.set_cons_zero, List.set_cons_succ]
              exact (hG _ _ _ _).mpr (s29b Wd hb)
            have s2b : ∀ Wd, Below W.heap.size W Wd → G 11 #[true, true, true, true, true, false, false, true, true, false, false, true, false, false, false, false, false, false, false] ({ tmps := #[.slice p n cap, .float .f32 h, undef, .pointer (some ⟨w.heap.size, 0, none⟩), .pointer (some ⟨w.heap.size + 1, 0, none⟩), .pointer (some ⟨w.heap.size + 1 + 1, 0, none⟩), undef, .pointer (some ⟨Bx, 0, none⟩), .slice p n cap, .bool true, .bool false, undef, .slice p n cap, .func (.func 170) #[] #[.pointer (some ⟨w1.heap.size, 0, none⟩)], .int .i64 (j.1 : Int), .agg #[.float .f32 (x (j.1 * 3)), .float .f32 (x (j.1 * 3 + 1)), .float .f32 (x (j.1 * 3 + 2)), .float .f32 (x ((j.1 + 1) * 3)), .float .f32 (x ((j.1 + 1) * 3 + 1)), .float .f32 (x ((j.1 + 1) * 3 + 2))], .bool false, .float .f32 h, .pointer (some ⟨Bx, 0, none⟩), .pointer (some ⟨Bx, 0, none⟩), .float .f32 (x (j.1 * 3)), .bool false, undef, undef, undef, .bool false, .float .f32 h, .pointer (some ⟨Bx, 3, none⟩), .pointer (some ⟨Bx, 3, none⟩), .float .f32 (x ((j.1 + 1) * 3)), .bool false, undef, undef, undef, .bool true, .float .f32 h, .pointer (some ⟨Bx, 0, none⟩), .pointer (some ⟨Bx, 0, none⟩), .float .f32 (x (j.1 * 3)), .bool true, .bool true, .float .f32 h, .pointer (some ⟨Bx, 3, none⟩), .pointer (some ⟨Bx, 3, none⟩), .float .f32 (x ((j.1 + 1) * 3)), .bool true, .bool true, .pointer (some ⟨Bx, 0, none⟩), .pointer (some ⟨Bx, 1, none⟩), .agg #[.float .f32 (x (j.1 * 3 + 1)), .float .f32 (x (j.1 * 3 + 2))], .pointer (some ⟨Bx, 3, none⟩), .pointer (some ⟨Bx, 4, none⟩), undef, undef, .pointer (some ⟨Bx, 0, none⟩), .pointer (some ⟨Bx, 0, none⟩), undef, undef, .agg #[.float .f32 (x (j.1 * 3)), .float .f32 (x (j.1 * 3 + 1)), .float .f32 (x (j.1 * 3 + 2)), .float .f32 (x ((j.1 + 1) * 3)), .float .f32 (x ((j.1 + 1) * 3 + 1)), .float .f32 (x ((j.1 + 1) * 3 + 2))], undef, undef, undef, undef, undef, undef], defers := [] }) Wd := fun Wd hb => by
              rw [← hG]
              have bXd := (hb.block _ (lt_of_block bX)).trans bX
              have kd := kW.out.stay hb
              have hHd := kd.at (x := (w.heap.size, #[.float .f32 h], 22)) (by simp)
              refine wpAnyIn_ready (rs := [5, 6, 9, 12]) (by kernel_rfl) (by simp) ?_
              refine readIn 5 _ _ (.agg #[.float .f32 (x ((j.1 + 1) * 3 + 1)), .float .f32 (x ((j.1 + 1) * 3 + 2))]) rfl rfl (by rfl) (run_load_mid 32 _ Bx 4 [.float .f32 (x ((j.1 + 1) * 3 + 1)), .float .f32 (x ((j.1 + 1) * 3 + 2))] rfl (range2 ((cell_of_row _ Bx 4 _ _ _ bXd).trans rfl) ((cell_of_row _ Bx 5 _ _ _ bXd).trans rfl)) _ Try.underlying32 rfl info_air) rfl rfl rfl ?_ ?_
              · simp only [Act.put, List.setIfInBounds_toArray, List.set_cons_zero, List.set_cons_succ]
                exact (hG _ _ _ _).mpr (s25b Wd hb)
              refine readIn 6 _ _ (.float .f32 h) rfl rfl (by rfl) (run_load_cell 22 _ ⟨w.heap.size, 0, none⟩ _ rfl (run_loadVar_one Try.underlying22 rfl ((cell_of_row _ _ 0 _ _ _ hHd).trans rfl))) rfl rfl rfl ?_ ?_
              · simp only [Act.put, List.setIfInBounds_toArray, List.set_cons_zero, List.set_cons_succ]
                exact (hG _ _ _ _).mpr (s26b Wd hb)
              refine readIn 9 _ _ (.float .f32 (x (j.1 * 3))) rfl rfl (by rfl) (run_load_cell 22 _ ⟨Bx, 0, none⟩ _ rfl (run_loadVar_one Try.underlying22 rfl ((cell_of_row _ Bx 0 _ _ _ bXd).trans rfl))) rfl rfl rfl ?_ ?_
              · simp only [Act.put, List.setIfInBounds_toArray, List.set_cons_zero, List.set_cons_succ]
                exact (hG _ _ _ _).mpr (s29b Wd hb)
              refine callIn 12 _ _ (.float .f32 (dpW x j.1)) rfl rfl (by rfl) 172 #[.agg #[.float .f32 (x (j.1 * 3)), .float .f32 (x (j.1 * 3 + 1)), .float .f32 (x (j.1 * 3 + 2)), .float .f32 (x ((j.1 + 1) * 3)), .float .f32 (x ((j.1 + 1) * 3 + 1)), .float .f32 (x ((j.1 + 1) * 3 + 2))]] (by unfold execOp; go_simp) (fun _ _ => trivial) (fun hh => by cases hh) (fun w2 => Below Wd.heap.size Wd w2) (callsIn_wide.2 (iDepth x j.1 HAt.out.d2 Wd)) rfl rfl (fun w2 hb2 => ?_) AllReadyIn.nil
              simp only [Act.put, List.setIfInBounds_toArray, List.set_cons_zero, List.set_cons_succ]
              exact (hG _ _ _ _).mpr (s2bc w2 (hb.trans (hb2.mono hb.size)))
            have s56 : ∀ Wd, Below W.heap.size W Wd → G 11 #[true, true, false, true, true, true, true, true, true, false, false, false, false, false, false, false, false, false, false] ({ tmps := #[.slice p n cap, .float .f32 h, undef, .pointer (some ⟨w.heap.size, 0, none⟩), .pointer (some ⟨w.heap.size + 1, 0, none⟩), .pointer (some ⟨w.heap.size + 1 + 1, 0, none⟩), undef, .pointer (some ⟨Bx, 0, none⟩), .slice p n cap, .bool true, .bool false, undef, .slice p n cap, .func (.func 170) #[] #[.pointer (some ⟨w1.heap.size, 0, none⟩)], .int .i64 (j.1 : Int), .agg #[.float .f32 (x (j.1 * 3)), .float .f32 (x (j.1 * 3 + 1)), .float .f32 (x (j.1 * 3 + 2)), .float .f32 (x ((j.1 + 1) * 3)), .float .f32 (x ((j.1 + 1) * 3 + 1)), .float .f32 (x ((j.1 + 1) * 3 + 2))], .bool false, .float .f32 h, .pointer (some ⟨Bx, 0, none⟩), .pointer (some ⟨Bx, 0, none⟩), .float .f32 (x (j.1 * 3)), .bool false, undef, undef, undef, .bool false, .float .f32 h, .pointer (some ⟨Bx, 3, none⟩), .pointer (some ⟨Bx, 3, none⟩), .float .f32 (x ((j.1 + 1) * 3)), .bool false, undef, undef, undef, .bool true, .float .f32 h, .pointer (some ⟨Bx, 0, none⟩), .pointer (some ⟨Bx, 0, none⟩), .float .f32 (x (j.1 * 3)), .bool true, .bool true, .float .f32 h, .pointer (some ⟨Bx, 3, none⟩), .pointer (some ⟨Bx, 3, none⟩), .float .f32 (x ((j.1 + 1) * 3)), .bool true, .bool true, .pointer (some ⟨Bx, 0, none⟩), .pointer (some ⟨Bx, 1, none⟩), undef, .pointer (some ⟨Bx, 3, none⟩), .pointer (some ⟨Bx, 4, none⟩), .agg #[.float .f32 (x ((j.1 + 1) * 3 + 1)), .float .f32 (x ((j.1 + 1) * 3 + 2))], .float .f32 h, .pointer (some ⟨Bx, 0, none⟩), .pointer (some ⟨Bx, 0, none⟩), undef, undef, undef, undef, undef, undef, undef, undef, undef], defers := [] }) Wd := fun Wd hb => by
              rw [← hG]
              have bXd := (hb.block _ (lt_of_block bX)).trans bX
              have kd := kW.out.stay hb
              have hHd := kd.at (x := (w.heap.size, #[.float .f32 h], 22)) (by simp)
              refine wpAnyIn_ready (rs := [2, 9, 11]) (by kernel_rfl) (by simp) ?_
              refine readIn 2 _ _ (.agg #[.float .f32 (x (j.1 * 3 + 1)), .float .f32 (x (j.1 * 3 + 2))]) rfl rfl (by rfl) (run_load_mid 32 _ Bx 1 [.float .f32 (x (j.1 * 3 + 1)), .float .f32 (x (j.1 * 3 + 2))] rfl (range2 ((cell_of_row _ Bx 1 _ _ _ bXd).trans rfl) ((cell_of_row _ Bx 2 _ _ _ bXd).trans rfl)) _ Try.underlying32 rfl info_air) rfl rfl rfl ?_ ?_
              · simp only [Act.put, List.setIfInBounds_toArray, List.set_cons_zero, List.set_cons_succ]
                exact (hG _ _ _ _).mpr (s256 Wd hb)
              refine readIn 9 _ _ (.float .f32 (x (j.1 * 3))) rfl rfl (by rfl) (run_load_cell 22 _ ⟨Bx, 0, none⟩ _ rfl (run_loadVar_one Try.underlying22 rfl ((cell_of_row _ Bx 0 _ _ _ bXd).trans rfl))) rfl rfl rfl ?_ ?_
              · simp only [Act.put, List.setIfInBounds_toArray, List.set_cons_zero, List.set_cons_succ]
                refine takeIn 10 _ _ (.float .f32 (fsub h (x (j.1 * 3)))) rfl rfl (by rfl) (by kernel_rfl) (by kernel_rfl) (by kernel_rfl) (fun w => run_binop_val _ _ _ _ (by rfl) (by rfl) (by simp [eqGuard]) (r1 w)) (fun _ => rfl) rfl rfl ?_
                simp only [Act.put, List.setIfInBounds_toArray, List.set_cons_zero, List.set_cons_succ]
                exact (hG _ _ _ _).mpr (s569 Wd hb)
              refine readIn 11 _ _ (.agg #[.float .f32 (x (j.1 * 3)), .float .f32 (x (j.1 * 3 + 1)), .float .f32 (x (j.1 * 3 + 2)), .float .f32 (x ((j.1 + 1) * 3)), .float .f32 (x ((j.1 + 1) * 3 + 1)), .float .f32 (x ((j.1 + 1) * 3 + 2))]) rfl rfl (by rfl) (run_load_mid 214 _ Bx 0 [.float .f32 (x (j.1 * 3)), .float .f32 (x (j.1 * 3 + 1)), .float .f32 (x (j.1 * 3 + 2)), .float .f32 (x ((j.1 + 1) * 3)), .float .f32 (x ((j.1 + 1) * 3 + 1)), .float .f32 (x ((j.1 + 1) * 3 + 2))] rfl (rowRange bXd) _ Try.underlying214 rfl info_lay) rfl rfl rfl ?_ AllReadyIn.nil
              simp only [Act.put, List.setIfInBounds_toArray, List.set_cons_zero, List.set_cons_succ]
              exact (hG _ _ _ _).mpr (s56b Wd hb)
            have s59 : ∀ Wd, Below W.heap.size W Wd → G 11 #[true, true, false, true, true, true, false, true, true, true, false, false, false, false, false, false, false, false, false] ({ tmps := #[.slice p n cap, .float .f32 h, undef, .pointer (some ⟨w.heap.size, 0, none⟩), .pointer (some ⟨w.heap.size + 1, 0, none⟩), .pointer (some ⟨w.heap.size + 1 + 1, 0, none⟩), undef, .pointer (some ⟨Bx, 0, none⟩), .slice p n cap, .bool true, .bool false, undef, .slice p n cap, .func (.func 170) #[] #[.pointer (some ⟨w1.heap.size, 0, none⟩)], .int .i64 (j.1 : Int), .agg #[.float .f32 (x (j.1 * 3)), .float .f32 (x (j.1 * 3 + 1)), .float .f32 (x (j.1 * 3 + 2)), .float .f32 (x ((j.1 + 1) * 3)), .float .f32 (x ((j.1 + 1) * 3 + 1)), .float .f32 (x ((j.1 + 1) * 3 + 2))], .bool false, .float .f32 h, .pointer (some ⟨Bx, 0, none⟩), .pointer (some ⟨Bx, 0, none⟩), .float .f32 (x (j.1 * 3)), .bool false, undef, undef, undef, .bool false, .float .f32 h, .pointer (some ⟨Bx, 3, none⟩), .pointer (some ⟨Bx, 3, none⟩), .float .f32 (x ((j.1 + 1) * 3)), .bool false, undef, undef, undef, .bool true, .float .f32 h, .pointer (some ⟨Bx, 0, none⟩), .pointer (some ⟨Bx, 0, none⟩), .float .f32 (x (j.1 * 3)), .bool true, .bool true, .float .f32 h, .pointer (some ⟨Bx, 3, none⟩), .pointer (some ⟨Bx, 3, none⟩), .float .f32 (x ((j.1 + 1) * 3)), .bool true, .bool true, .pointer (some ⟨Bx, 0, none⟩), .pointer (some ⟨Bx, 1, none⟩), undef, .pointer (some ⟨Bx, 3, none⟩), .pointer (some ⟨Bx, 4, none⟩), .agg #[.float .f32 (x ((j.1 + 1) * 3 + 1)), .float .f32 (x ((j.1 + 1) * 3 + 2))], undef, .pointer (some ⟨Bx, 0, none⟩), .pointer (some ⟨Bx, 0, none⟩), .float .f32 (x (j.1 * 3)), undef, undef, undef, undef, undef, undef, undef, undef], defers := [] }) Wd := fun Wd hb => by
              rw [← hG]
              have bXd := (hb.block _ (lt_of_block bX)).trans bX
              have kd := kW.out.stay hb
              have hHd := kd.at (x := (w.heap.size, #[.float .f32 h], 22)) (by simp)
              refine wpAnyIn_ready (rs := [2, 6, 11]) (by kernel_rfl) (by simp) ?_
              refine readIn 2 _ _ (.agg #[.float .f32 (x (j.1 * 3 + 1)), .float .f32 (x (j.1 * 3 + 2))]) rfl rfl (by rfl) (run_load_mid 32 _ Bx 1 [.float .f32 (x (j.1 * 3 + 1)), .float .f32 (x (j.1 * 3 + 2))] rfl (range2 ((cell_of_row _ Bx 1 _ _ _ bXd).trans rfl) ((cell_of_row _ Bx 2 _ _ _ bXd).trans rfl)) _ Try.underlying32 rfl info_air) rfl rfl rfl ?_ ?_
              · simp only [Act.put, List.setIfInBounds_toArray, List.set_cons_zero, List.set_cons_succ]
                exact (hG _ _ _ _).mpr (s259 Wd hb)
              refine readIn 6 _ _ (.float .f32 h) rfl rfl (by rfl) (run_load_cell 22 _ ⟨w.heap.size, 0, none⟩ _ rfl (run_loadVar_one Try.underlying22 rfl ((cell_of_row _ _ 0 _ _ _ hHd).trans rfl))) rfl rfl rfl ?_ ?_
              · simp only [Act.put, List.setIfInBounds_toArray, List.set_cons_zero, List.set_cons_succ]
                refine takeIn 10 _ _ (.float .f32 (fsub h (x (j.1 * 3)))) rfl rfl (by rfl) (by kernel_rfl) (by kernel_rfl) (by kernel_rfl) (fun w => run_binop_val _ _ _ _ (by rfl) (by rfl) (by simp [eqGuard]) (r1 w)) (fun _ => rfl) rfl rfl ?_
                simp only [Act.put, List.setIfInBounds_toArray, List.set_cons_zero, List.set_cons_succ]
                exact (hG _ _ _ _).mpr (s569 Wd hb)
              refine readIn 11 _ _ (.agg #[.float .f32 (x (j.1 * 3)), .float .f32 (x (j.1 * 3 + 1)), .float .f32 (x (j.1 * 3 + 2)), .float .f32 (x ((j.1 + 1) * 3)), .float .f32 (x ((j.1 + 1) * 3 + 1)), .float .f32 (x ((j.1 + 1) * 3 + 2))]) rfl rfl (by rfl) (run_load_mid 214 _ Bx 0 [.float .f32 (x (j.1 * 3)), .float .f32 (x (j.1 * 3 + 1)), .float .f32 (x (j.1 * 3 + 2)), .float .f32 (x ((j.1 + 1) * 3)), .float .f32 (x ((j.1 + 1) * 3 + 1)), .float .f32 (x ((j.1 + 1) * 3 + 2))] rfl (rowRange bXd) _ Try.underlying214 rfl info_lay) rfl rfl rfl ?_ AllReadyIn.nil
              simp only [Act.put, List.setIfInBounds_toArray, List.set_cons_zero, List.set_cons_succ]
              exact (hG _ _ _ _).mpr (s59b Wd hb)
            have s5b : ∀ Wd, Below W.heap.size W Wd → G 11 #[true, true, false, true, true, true, false, true, true, false, false, true, false, false, false, false, false, false, false] ({ tmps := #[.slice p n cap, .float .f32 h, undef, .pointer (some ⟨w.heap.size, 0, none⟩), .pointer (some ⟨w.heap.size + 1, 0, none⟩), .pointer (some ⟨w.heap.size + 1 + 1, 0, none⟩), undef, .pointer (some ⟨Bx, 0, none⟩), .slice p n cap, .bool true, .bool false, undef, .slice p n cap, .func (.func 170) #[] #[.pointer (some ⟨w1.heap.size, 0, none⟩)], .int .i64 (j.1 : Int), .agg #[.float .f32 (x (j.1 * 3)), .float .f32 (x (j.1 * 3 + 1)), .float .f32 (x (j.1 * 3 + 2)), .float .f32 (x ((j.1 + 1) * 3)), .float .f32 (x ((j.1 + 1) * 3 + 1)), .float .f32 (x ((j.1 + 1) * 3 + 2))], .bool false, .float .f32 h, .pointer (some ⟨Bx, 0, none⟩), .pointer (some ⟨Bx, 0, none⟩), .float .f32 (x (j.1 * 3)), .bool false, undef, undef, undef, .bool false, .float .f32 h, .pointer (some ⟨Bx, 3, none⟩), .pointer (some ⟨Bx, 3, none⟩), .float .f32 (x ((j.1 + 1) * 3)), .bool false, undef, undef, undef, .bool true, .float .f32 h, .pointer (some ⟨Bx, 0, none⟩), .pointer (some ⟨Bx, 0, none⟩), .float .f32 (x (j.1 * 3)), .bool true, .bool true, .float .f32 h, .pointer (some ⟨Bx, 3, none⟩), .pointer (some ⟨Bx, 3, none⟩), .float .f32 (x ((j.1 + 1) * 3)), .bool true, .bool true, .pointer (some ⟨Bx, 0, none⟩), .pointer (some ⟨Bx, 1, none⟩), undef, .pointer (some ⟨Bx, 3, none⟩), .pointer (some ⟨Bx, 4, none⟩), .agg #[.float .f32 (x ((j.1 + 1) * 3 + 1)), .float .f32 (x ((j.1 + 1) * 3 + 2))], undef, .pointer (some ⟨Bx, 0, none⟩), .pointer (some ⟨Bx, 0, none⟩), undef, undef, .agg #[.float .f32 (x (j.1 * 3)), .float .f32 (x (j.1 * 3 + 1)), .float .f32 (x (j.1 * 3 + 2)), .float .f32 (x ((j.1 + 1) * 3)), .float .f32 (x ((j.1 + 1) * 3 + 1)), .float .f32 (x ((j.1 + 1) * 3 + 2))], undef, undef, undef, undef, undef, undef], defers := [] }) Wd := fun Wd hb => by
              rw [← hG]
              have bXd := (hb.block _ (lt_of_block bX)).trans bX
              have kd := kW.out.stay hb
              have hHd := kd.at (x := (w.heap.size, #[.float .f32 h], 22)) (by simp)
              refine wpAnyIn_ready (rs := [2, 6, 9, 12]) (by kernel_rfl) (by simp) ?_
              refine readIn 2 _ _ (.agg #[.float .f32 (x (j.1 * 3 + 1)), .float .f32 (x (j.1 * 3 + 2))]) rfl rfl (by rfl) (run_load_mid 32 _ Bx 1 [.float .f32 (x (j.1 * 3 + 1)), .float .f32 (x (j.1 * 3 + 2))] rfl (range2 ((cell_of_row _ Bx 1 _ _ _ bXd).trans rfl) ((cell_of_row _ Bx 2 _ _ _ bXd).trans rfl)) _ Try.underlying32 rfl info_air) rfl rfl rfl ?_ ?_
              · simp only [Act.put, List.setIfInBounds_toArray, List.set_cons_zero, List.set_cons_succ]
                exact (hG _ _ _ _).mpr (s25b Wd hb)
              refine readIn 6 _ _ (.float .f32 h) rfl rfl (by rfl) (run_load_cell 22 _ ⟨w.heap.size, 0, none⟩ _ rfl (run_loadVar_one Try.underlying22 rfl ((cell_of_row _ _ 0 _ _ _ hHd).trans rfl))) rfl rfl rfl ?_ ?_
              · simp only [Act.put, List.setIfInBounds_toArray, List.set_cons_zero, List.set_cons_succ]
                exact (hG _ _ _ _).mpr (s56b Wd hb)
              refine readIn 9 _ _ (.float .f32 (x (j.1 * 3))) rfl rfl (by rfl) (run_load_cell 22 _ ⟨Bx, 0, none⟩ _ rfl (run_loadVar_one Try.underlying22 rfl ((cell_of_row _ Bx 0 _ _ _ bXd).trans rfl))) rfl rfl rfl ?_ ?_
              · simp only [Act.put, List.setIfInBounds_toArray, List.set_cons_zero, List.set_cons_succ]
                exact (hG _ _ _ _).mpr (s59b Wd hb)
              refine callIn 12 _ _ (.float .f32 (dpW x j.1)) rfl rfl (by rfl) 172 #[.agg #[.float .f32 (x (j.1 * 3)), .float .f32 (x (j.1 * 3 + 1)), .float .f32 (x (j.1 * 3 + 2)), .float .f32 (x ((j.1 + 1) * 3)), .float .f32 (x ((j.1 + 1) * 3 + 1)), .float .f32 (x ((j.1 + 1) * 3 + 2))]] (by unfold execOp; go_simp) (fun _ _ => trivial) (fun hh => by cases hh) (fun w2 => Below Wd.heap.size Wd w2) (callsIn_wide.2 (iDepth x j.1 HAt.out.d2 Wd)) rfl rfl (fun w2 hb2 => ?_) AllReadyIn.nil
              simp only [Act.put, List.setIfInBounds_toArray, List.set_cons_zero, List.set_cons_succ]
              exact (hG _ _ _ _).mpr (s5bc w2 (hb.trans (hb2.mono hb.size)))
            have s69 : ∀ Wd, Below W.heap.size W Wd → G 10 #[true, true, false, true, true, false, true, true, true, true, true, false, false, false, false, false, false, false, false] ({ tmps := #[.slice p n cap, .float .f32 h, undef, .pointer (some ⟨w.heap.size, 0, none⟩), .pointer (some ⟨w.heap.size + 1, 0, none⟩), .pointer (some ⟨w.heap.size + 1 + 1, 0, none⟩), undef, .pointer (some ⟨Bx, 0, none⟩), .slice p n cap, .bool true, .bool false, undef, .slice p n cap, .func (.func 170) #[] #[.pointer (some ⟨w1.heap.size, 0, none⟩)], .int .i64 (j.1 : Int), .agg #[.float .f32 (x (j.1 * 3)), .float .f32 (x (j.1 * 3 + 1)), .float .f32 (x (j.1 * 3 + 2)), .float .f32 (x ((j.1 + 1) * 3)), .float .f32 (x ((j.1 + 1) * 3 + 1)), .float .f32 (x ((j.1 + 1) * 3 + 2))], .bool false, .float .f32 h, .pointer (some ⟨Bx, 0, none⟩), .pointer (some ⟨Bx, 0, none⟩), .float .f32 (x (j.1 * 3)), .bool false, undef, undef, undef, .bool false, .float .f32 h, .pointer (some ⟨Bx, 3, none⟩), .pointer (some ⟨Bx, 3, none⟩), .float .f32 (x ((j.1 + 1) * 3)), .bool false, undef, undef, undef, .bool true, .float .f32 h, .pointer (some ⟨Bx, 0, none⟩), .pointer (some ⟨Bx, 0, none⟩), .float .f32 (x (j.1 * 3)), .bool true, .bool true, .float .f32 h, .pointer (some ⟨Bx, 3, none⟩), .pointer (some ⟨Bx, 3, none⟩), .float .f32 (x ((j.1 + 1) * 3)), .bool true, .bool true, .pointer (some ⟨Bx, 0, none⟩), .pointer (some ⟨Bx, 1, none⟩), undef, .pointer (some ⟨Bx, 3, none⟩), .pointer (some ⟨Bx, 4, none⟩), undef, .float .f32 h, .pointer (some ⟨Bx, 0, none⟩), .pointer (some ⟨Bx, 0, none⟩), .float .f32 (x (j.1 * 3)), .float .f32 (fsub h (x (j.1 * 3))), undef, undef, undef, undef, undef, undef, undef], defers := [] }) Wd := fun Wd hb => by
              rw [← hG]
              have bXd := (hb.block _ (lt_of_block bX)).trans bX
              have kd := kW.out.stay hb
              have hHd := kd.at (x := (w.heap.size, #[.float .f32 h], 22)) (by simp)
              refine wpAnyIn_ready (rs := [2, 5, 11]) (by kernel_rfl) (by simp) ?_
              refine readIn 2 _ _ (.agg #[.float .f32 (x (j.1 * 3 + 1)), .float .f32 (x (j.1 * 3 + 2))]) rfl rfl (by rfl) (run_load_mid 32 _ Bx 1 [.float .f32 (x (j.1 * 3 + 1)), .float .f32 (x (j.1 * 3 + 2))] rfl (range2 ((cell_of_row _ Bx 1 _ _ _ bXd).trans rfl) ((cell_of_row _ Bx 2 _ _ _ bXd).trans rfl)) _ Try.underlying32 rfl info_air) rfl rfl rfl ?_ ?_
              · simp only [Act.put, List.setIfInBounds_toArray, List.set_cons_zero, List.set_cons_succ]
                exact (hG _ _ _ _).mpr (s269 Wd hb)
              refine readIn 5 _ _ (.agg #[.float .f32 (x ((j.1 + 1) * 3 + 1)), .float .f32 (x ((j.1 + 1) * 3 + 2))]) rfl rfl (by rfl) (run_load_mid 32 _ Bx 4 [.float .f32 (x ((j.1 + 1) * 3 + 1)), .float .f32 (x ((j.1 + 1) * 3 + 2))] rfl (range2 ((cell_of_row _ Bx 4 _ _ _ bXd).trans rfl) ((cell_of_row _ Bx 5 _ _ _ bXd).trans rfl)) _ Try.underlying32 rfl info_air) rfl rfl rfl ?_ ?_
              · simp only [Act.put, List.setIfInBounds_toArray, List.set_cons_zero, List.set_cons_succ]
                exact (hG _ _ _ _).mpr (s569 Wd hb)
              refine readIn 11 _ _ (.agg #[.float .f32 (x (j.1 * 3)), .float .f32 (x (j.1 * 3 + 1)), .float .f32 (x (j.1 * 3 + 2)), .float .f32 (x ((j.1 + 1) * 3)), .float .f32 (x ((j.1 + 1) * 3 + 1)), .float .f32 (x ((j.1 + 1) * 3 + 2))]) rfl rfl (by rfl) (run_load_mid 214 _ Bx 0 [.float .f32 (x (j.1 * 3)), .float .f32 (x (j.1 * 3 + 1)), .float .f32 (x (j.1 * 3 + 2)), .float .f32 (x ((j.1 + 1) * 3)), .float .f32 (x ((j.1 + 1) * 3 + 1)), .float .f32 (x ((j.1 + 1) * 3 + 2))] rfl (rowRange bXd) _ Try.underlying214 rfl info_lay) rfl rfl rfl ?_ AllReadyIn.nil
              simp only [Act.put, List.setIfInBounds_toArray, List.set_cons_zero, List.set_cons_succ]
              exact (hG _ _ _ _).mpr (s69b Wd hb)
            have s6b : ∀ Wd, Below W.heap.size W Wd → G 11 #[true, true, false, true, true, false, true, true, true, false, false, true, false, false, false, false, false, false, false] ({ tmps := #[.slice p n cap, .float .f32 h, undef, .pointer (some ⟨w.heap.size, 0, none⟩), .pointer (some ⟨w.heap.size + 1, 0, none⟩), .pointer (some ⟨w.heap.size + 1 + 1, 0, none⟩), undef, .pointer (some ⟨Bx, 0, none⟩), .slice p n cap, .bool true, .bool false, undef, .slice p n cap, .func (.func 170) #[] #[.pointer (some ⟨w1.heap.size, 0, none⟩)], .int .i64 (j.1 : Int), .agg #[.float .f32 (x (j.1 * 3)), .float .f32 (x (j.1 * 3 + 1)), .float .f32 (x (j.1 * 3 + 2)), .float .f32 (x ((j.1 + 1) * 3)), .float .f32 (x ((j.1 + 1) * 3 + 1)), .float .f32 (x ((j.1 + 1) * 3 + 2))], .bool false, .float .f32 h, .pointer (some ⟨Bx, 0, none⟩), .pointer (some ⟨Bx, 0, none⟩), .float .f32 (x (j.1 * 3)), .bool false, undef, undef, undef, .bool false, .float .f32 h, .pointer (some ⟨Bx, 3, none⟩), .pointer (some ⟨Bx, 3, none⟩), .float .f32 (x ((j.1 + 1) * 3)), .bool false, undef, undef, undef, .bool true, .float .f32 h, .pointer (some ⟨Bx, 0, none⟩), .pointer (some ⟨Bx, 0, none⟩), .float .f32 (x (j.1 * 3)), .bool true, .bool true, .float .f32 h, .pointer (some ⟨Bx, 3, none⟩), .pointer (some ⟨Bx, 3, none⟩), .float .f32 (x ((j.1 + 1) * 3)), .bool true, .bool true, .pointer (some ⟨Bx, 0, none⟩), .pointer (some ⟨Bx, 1, none⟩), undef, .pointer (some ⟨Bx, 3, none⟩), .pointer (some ⟨Bx, 4, none⟩), undef, .float .f32 h, .pointer (some ⟨Bx, 0, none⟩), .pointer (some ⟨Bx, 0, none⟩), undef, undef, .agg #[.float .f32 (x (j.1 * 3)), .float .f32 (x (j.1 * 3 + 1)), .float .f32 (x (j.1 * 3 + 2)), .float .f32 (x ((j.1 + 1) * 3)), .float .f32 (x ((j.1 + 1) * 3 + 1)), .float .f32 (x ((j.1 + 1) * 3 + 2))], undef, undef, undef, undef, undef, undef], defers := [] }) Wd := fun Wd hb => by
              rw [← hG]
              have bXd := (hb.block _ (lt_of_block bX)).trans bX
              have kd := kW.out.stay hb
              have hHd := kd.at (x := (w.heap.size, #[.float .f32 h], 22)) (by simp)
              refine wpAnyIn_ready (rs := [2, 5, 9, 12]) (by kernel_rfl) (by simp) ?_
              refine readIn 2 _ _ (.agg #[.float .f32 (x (j.1 * 3 + 1)), .float .f32 (x (j.1 * 3 + 2))]) rfl rfl (by rfl) (run_load_mid 32 _ Bx 1 [.float .f32 (x (j.1 * 3 + 1)), .float .f32 (x (j.1 * 3 + 2))] rfl (range2 ((cell_of_row _ Bx 1 _ _ _ bXd).trans rfl) ((cell_of_row _ Bx 2 _ _ _ bXd).trans rfl)) _ Try.underlying32 rfl info_air) rfl rfl rfl ?_ ?_
              · simp only [Act.put, List.setIfInBounds_toArray, List.set_cons_zero, List.set_cons_succ]
                exact (hG _ _ _ _).mpr (s26b Wd hb)
              refine readIn 5 _ _ (.agg #[.float .f32 (x ((j.1 + 1) * 3 + 1)), .float .f32 (x ((j.1 + 1) * 3 + 2))]) rfl rfl (by rfl) (run_load_mid 32 _ Bx 4 [.float .f32 (x ((j.1 + 1) * 3 + 1)), .float .f32 (x ((j.1 + 1) * 3 + 2))] rfl (range2 ((cell_of_row _ Bx 4 _ _ _ bXd).trans rfl) ((cell_of_row _ Bx 5 _ _ _ bXd).trans rfl)) _ Try.underlying32 rfl info_air) rfl rfl rfl ?_ ?_
              · simp only [Act.put, List.setIfInBounds_toArray, List.set_cons_zero, List.set_cons_succ]
                exact (hG _ _ _ _).mpr (s56b Wd hb)
              refine readIn 9 _ _ (.float .f32 (x (j.1 * 3))) rfl rfl (by rfl) (run_load_cell 22 _ ⟨Bx, 0, none⟩ _ rfl (run_loadVar_one Try.underlying22 rfl ((cell_of_row _ Bx 0 _ _ _ bXd).trans rfl))) rfl rfl rfl ?_ ?_
              · simp only [Act.put, List.setIfInBounds_toArray, List.set_cons_zero, List.set_cons_succ]
                refine takeIn 10 _ _ (.float .f32 (fsub h (x (j.1 * 3)))) rfl rfl (by rfl) (by kernel_rfl) (by kernel_rfl) (by kernel_rfl) (fun w => run_binop_val _ _ _ _ (by rfl) (by rfl) (by simp [eqGuard]) (r1 w)) (fun _ => rfl) rfl rfl ?_
                simp only [Act.put, List.setIfInBounds_toArray, List.set_cons_zero, List.set_cons_succ]
                exact (hG _ _ _ _).mpr (s69b Wd hb)
              refine callIn 12 _ _ (.float .f32 (dpW x j.1)) rfl rfl (by rfl) 172 #[.agg #[.float .f32 (x (j.1 * 3)), .float .f32 (x (j.1 * 3 + 1)), .float .f32 (x (j.1 * 3 + 2)), .float .f32 (x ((j.1 + 1) * 3)), .float .f32 (x ((j.1 + 1) * 3 + 1)), .float .f32 (x ((j.1 + 1) * 3 + 2))]] (by unfold execOp; go_simp) (fun _ _ => trivial) (fun hh => by cases hh) (fun w2 => Below Wd.heap.size Wd w2) (callsIn_wide.2 (iDepth x j.1 HAt.out.d2 Wd)) rfl rfl (fun w2 hb2 => ?_) AllReadyIn.nil
              simp only [Act.put, List.setIfInBounds_toArray, List.set_cons_zero, List.set_cons_succ]
              exact (hG _ _ _ _).mpr (s6bc w2 (hb.trans (hb2.mono hb.size)))
            have s9b : ∀ Wd, Below W.heap.size W Wd → G 11 #[true, true, false, true, true, false, false, true, true, true, false, true, false, false, false, false, false, false, false] ({ tmps := #[.slice p n cap, .float .f32 h, undef, .pointer (some ⟨w.heap.size, 0, none⟩), .pointer (some ⟨w.heap.size + 1, 0, none⟩), .pointer (some ⟨w.heap.size + 1 + 1, 0, none⟩), undef, .pointer (some ⟨Bx, 0, none⟩), .slice p n cap, .bool true, .bool false, undef, .slice p n cap, .func (.func 170) #[] #[.pointer (some ⟨w1.heap.size, 0, none⟩)], .int .i64 (j.1 : Int), .agg #[.float .f32 (x (j.1 * 3)), .float .f32 (x (j.1 * 3 + 1)), .float .f32 (x (j.1 * 3 + 2)), .float .f32 (x ((j.1 + 1) * 3)), .float .f32 (x ((j.1 + 1) * 3 + 1)), .float .f32 (x ((j.1 + 1) * 3 + 2))], .bool false, .float .f32 h, .pointer (some ⟨Bx, 0, none⟩), .pointer (some ⟨Bx, 0, none⟩), .float .f32 (x (j.1 * 3)), .bool false, undef, undef, undef, .bool false, .float .f32 h, .pointer (some ⟨Bx, 3, none⟩), .pointer (some ⟨Bx, 3, none⟩), .float .f32 (x ((j.1 + 1) * 3)), .bool false, undef, undef, undef, .bool true, .float .f32 h, .pointer (some ⟨Bx, 0, none⟩), .pointer (some ⟨Bx, 0, none⟩), .float .f32 (x (j.1 * 3)), .bool true, .bool true, .float .f32 h, .pointer (some ⟨Bx, 3, none⟩), .pointer (some ⟨Bx, 3, none⟩), .float .f32 (x ((j.1 + 1) * 3)), .bool true, .bool true, .pointer (some ⟨Bx, 0, none⟩), .pointer (some ⟨Bx, 1, none⟩), undef, .pointer (some ⟨Bx, 3, none⟩), .pointer (some ⟨Bx, 4, none⟩), undef, undef, .pointer (some ⟨Bx, 0, none⟩), .pointer (some ⟨Bx, 0, none⟩), .float .f32 (x (j.1 * 3)), undef, .agg #[.float .f32 (x (j.1 * 3)), .float .f32 (x (j.1 * 3 + 1)), .float .f32 (x (j.1 * 3 + 2)), .float .f32 (x ((j.1 + 1) * 3)), .float .f32 (x ((j.1 + 1) * 3 + 1)), .float .f32 (x ((j.1 + 1) * 3 + 2))], undef, undef, undef, undef, undef, undef], defers := [] }) Wd := fun Wd hb => by
              rw [← hG]
              have bXd := (hb.block _ (lt_of_block bX)).trans bX
              have kd := kW.out.stay hb
              have hHd := kd.at (x := (w.heap.size, #[.float .f32 h], 22)) (by simp)
              refine wpAnyIn_ready (rs := [2, 5, 6, 12]) (by kernel_rfl) (by simp) ?_
              refine readIn 2 _ _ (.agg #[.float .f32 (x (j.1 * 3 + 1)), .float .f32 (x (j.1 * 3 + 2))]) rfl rfl (by rfl) (run_load_mid 32 _ Bx 1 [.float .f32 (x (j.1 * 3 + 1)), .float .f32 (x (j.1 * 3 + 2))] rfl (range2 ((cell_of_row _ Bx 1 _ _ _ bXd).trans rfl) ((cell_of_row _ Bx 2 _ _ _ bXd).trans rfl)) _ Try.underlying32 rfl info_air) rfl rfl rfl ?_ ?_
              · simp only [Act.put, List.setIfInBounds_toArray, List.set_cons_zero, List.set_cons_succ]
                exact (hG _ _ _ _).mpr (s29b Wd hb)
              refine readIn 5 _ _ (.agg #[.float .f32 (x ((j.1 + 1) * 3 + 1)), .float .f32 (x ((j.1 + 1) * 3 + 2))]) rfl rfl (by rfl) (run_load_mid 32 _ Bx 4 [.float .f32 (x ((j.1 + 1) * 3 + 1)), .float .f32 (x ((j.1 + 1) * 3 + 2))] rfl (range2 ((cell_of_row _ Bx 4 _ _ _ bXd).trans rfl) ((cell_of_row _ Bx 5 _ _ _ bXd).trans rfl)) _ Try.underlying32 rfl info_air) rfl rfl rfl ?_ ?_
              · simp only [Act.put, List.setIfInBounds_toArray, List.set_cons_zero, List.set_cons_succ]
                exact (hG _ _ _ _).mpr (s59b Wd hb)
              refine readIn 6 _ _ (.float .f32 h) rfl rfl (by rfl) (run_load_cell 22 _ ⟨w.heap.size, 0, none⟩ _ rfl (run_loadVar_one Try.underlying22 rfl ((cell_of_row _ _ 0 _ _ _ hHd).trans rfl))) rfl rfl rfl ?_ ?_
              · simp only [Act.put, List.setIfInBounds_toArray, List.set_cons_zero, List.set_cons_succ]
                refine takeIn 10 _ _ (.float .f32 (fsub h (x (j.1 * 3)))) rfl rfl (by rfl) (by kernel_rfl) (by kernel_rfl) (by kernel_rfl) (fun w => run_binop_val _ _ _ _ (by rfl) (by rfl) (by simp [eqGuard]) (r1 w)) (fun _ => rfl) rfl rfl ?_
                simp only [Act.put, List.setIfInBounds_toArray, List.set_cons_zero, List.set_cons_succ]
                exact (hG _ _ _ _).mpr (s69b Wd hb)
              refine callIn 12 _ _ (.float .f32 (dpW x j.1)) rfl rfl (by rfl) 172 #[.agg #[.float .f32 (x (j.1 * 3)), .float .f32 (x (j.1 * 3 + 1)), .float .f32 (x (j.1 * 3 + 2)), .float .f32 (x ((j.1 + 1) * 3)), .float .f32 (x ((j.1 + 1) * 3 + 1)), .float .f32 (x ((j.1 + 1) * 3 + 2))]] (by unfold execOp; go_simp) (fun _ _ => trivial) (fun hh => by cases hh) (fun w2 => Below Wd.heap.size Wd w2) (callsIn_wide.2 (iDepth x j.1 HAt.out.d2 Wd)) rfl rfl (fun w2 hb2 => ?_) AllReadyIn.nil
              simp only [Act.put, List.setIfInBounds_toArray, List.set_cons_zero, List.set_cons_succ]
              exact (hG _ _ _ _).mpr (s9bc w2 (hb.trans (hb2.mono hb.size)))
            have sbc : ∀ Wd, Below W.heap.size W Wd → G 11 #[true, true, false, true, true, false, false, true, true, false, false, true, true, false, false, false, false, false, false] ({ tmps := #[.slice p n cap, .float .f32 h, undef, .pointer (some ⟨w.heap.size, 0, none⟩), .pointer (some ⟨w.heap.size + 1, 0, none⟩), .pointer (some ⟨w.heap.size + 1 + 1, 0, none⟩), undef, .pointer (some ⟨Bx, 0, none⟩), .slice p n cap, .bool true, .bool false, undef, .slice p n cap, .func (.func 170) #[] #[.pointer (some ⟨w1.heap.size, 0, none⟩)], .int .i64 (j.1 : Int), .agg #[.float .f32 (x (j.1 * 3)), .float .f32 (x (j.1 * 3 + 1)), .float .f32 (x (j.1 * 3 + 2)), .float .f32 (x ((j.1 + 1) * 3)), .float .f32 (x ((j.1 + 1) * 3 + 1)), .float .f32 (x ((j.1 + 1) * 3 + 2))], .bool false, .float .f32 h, .pointer (some ⟨Bx, 0, none⟩), .pointer (some ⟨Bx, 0, none⟩), .float .f32 (x (j.1 * 3)), .bool false, undef, undef, undef, .bool false, .float .f32 h, .pointer (some ⟨Bx, 3, none⟩), .pointer (some ⟨Bx, 3, none⟩), .float .f32 (x ((j.1 + 1) * 3)), .bool false, undef, undef, undef, .bool true, .float .f32 h, .pointer (some ⟨Bx, 0, none⟩), .pointer (some ⟨Bx, 0, none⟩), .float .f32 (x (j.1 * 3)), .bool true, .bool true, .float .f32 h, .pointer (some ⟨Bx, 3, none⟩), .pointer (some ⟨Bx, 3, none⟩), .float .f32 (x ((j.1 + 1) * 3)), .bool true, .bool true, .pointer (some ⟨Bx, 0, none⟩), .pointer (some ⟨Bx, 1, none⟩), undef, .pointer (some ⟨Bx, 3, none⟩), .pointer (some ⟨Bx, 4, none⟩), undef, undef, .pointer (some ⟨Bx, 0, none⟩), .pointer (some ⟨Bx, 0, none⟩), undef, undef, .agg #[.float .f32 (x (j.1 * 3)), .float .f32 (x (j.1 * 3 + 1)), .float .f32 (x (j.1 * 3 + 2)), .float .f32 (x ((j.1 + 1) * 3)), .float .f32 (x ((j.1 + 1) * 3 + 1)), .float .f32 (x ((j.1 + 1) * 3 + 2))], .float .f32 (dpW x j.1), undef, undef, undef, undef, undef], defers := [] }) Wd := fun Wd hb => by
              rw [← hG]
              have bXd := (hb.block _ (lt_of_block bX)).trans bX
              have kd := kW.out.stay hb
              have hHd := kd.at (x := (w.heap.size, #[.float .f32 h], 22)) (by simp)
              refine wpAnyIn_ready (rs := [2, 5, 6, 9]) (by kernel_rfl) (by simp) ?_
              refine readIn 2 _ _ (.agg #[.float .f32 (x (j.1 * 3 + 1)), .float .f32 (x (j.1 * 3 + 2))]) rfl rfl (by rfl) (run_load_mid 32 _ Bx 1 [.float .f32 (x (j.1 * 3 + 1)), .float .f32 (x (j.1 * 3 + 2))] rfl (range2 ((cell_of_row _ Bx 1 _ _ _ bXd).trans rfl) ((cell_of_row _ Bx 2 _ _ _ bXd).trans rfl)) _ Try.underlying32 rfl info_air) rfl rfl rfl ?_ ?_
              · simp only [Act.put, List.setIfInBounds_toArray, List.set_cons_zero, List.set_cons_succ]
                exact (hG _ _ _ _).mpr (s2bc Wd hb)
              refine readIn 5 _ _ (.agg #[.float .f32 (x ((j.1 + 1) * 3 + 1)), .float .f32 (x ((j.1 + 1) * 3 + 2))]) rfl rfl (by rfl) (run_load_mid 32 _ Bx 4 [.float .f32 (x ((j.1 + 1) * 3 + 1)), .float .f32 (x ((j.1 + 1) * 3 + 2))] rfl (range2 ((cell_of_row _ Bx 4 _ _ _ bXd).trans rfl) ((cell_of_row _ Bx 5 _ _ _ bXd).trans rfl)) _ Try.underlying32 rfl info_air) rfl rfl rfl ?_ ?_
              · simp only [Act.put, List.setIfInBounds_toArray, List.set_cons_zero, List.set_cons_succ]
                exact (hG _ _ _ _).mpr (s5bc Wd hb)
              refine readIn 6 _ _ (.float .f32 h) rfl rfl (by rfl) (run_load_cell 22 _ ⟨w.heap.size, 0, none⟩ _ rfl (run_loadVar_one Try.underlying22 rfl ((cell_of_row _ _ 0 _ _ _ hHd).trans rfl))) rfl rfl rfl ?_ ?_
              · simp only [Act.put, List.setIfInBounds_toArray, List.set_cons_zero, List.set_cons_succ]
                exact (hG _ _ _ _).mpr (s6bc Wd hb)
              refine readIn 9 _ _ (.float .f32 (x (j.1 * 3))) rfl rfl (by rfl) (run_load_cell 22 _ ⟨Bx, 0, none⟩ _ rfl (run_loadVar_one Try.underlying22 rfl ((cell_of_row _ Bx 0 _ _ _ bXd).trans rfl))) rfl rfl rfl ?_ AllReadyIn.nil
              simp only [Act.put, List.setIfInBounds_toArray, List.set_cons_zero, List.set_cons_succ]
              exact (hG _ _ _ _).mpr (s9bc Wd hb)
            have s2 : ∀ Wd, Below W.heap.size W Wd → G 12 #[true, true, true, true, true, false, false, true, true, false, false, false, false, false, false, false, false, false, false] ({ tmps := #[.slice p n cap, .float .f32 h, undef, .pointer (some ⟨w.heap.size, 0, none⟩), .pointer (some ⟨w.heap.size + 1, 0, none⟩), .pointer (some ⟨w.heap.size + 1 + 1, 0, none⟩), undef, .pointer (some ⟨Bx, 0, none⟩), .slice p n cap, .bool true, .bool false, undef, .slice p n cap, .func (.func 170) #[] #[.pointer (some ⟨w1.heap.size, 0, none⟩)], .int .i64 (j.1 : Int), .agg #[.float .f32 (x (j.1 * 3)), .float .f32 (x (j.1 * 3 + 1)), .float .f32 (x (j.1 * 3 + 2)), .float .f32 (x ((j.1 + 1) * 3)), .float .f32 (x ((j.1 + 1) * 3 + 1)), .float .f32 (x ((j.1 + 1) * 3 + 2))], .bool false, .float .f32 h, .pointer (some ⟨Bx, 0, none⟩), .pointer (some ⟨Bx, 0, none⟩), .float .f32 (x (j.1 * 3)), .bool false, undef, undef, undef, .bool false, .float .f32 h, .pointer (some ⟨Bx, 3, none⟩), .pointer (some ⟨Bx, 3, none⟩), .float .f32 (x ((j.1 + 1) * 3)), .bool false, undef, undef, undef, .bool true, .float .f32 h, .pointer (some ⟨Bx, 0, none⟩), .pointer (some ⟨Bx, 0, none⟩), .float .f32 (x (j.1 * 3)), .bool true, .bool true, .float .f32 h, .pointer (some ⟨Bx, 3, none⟩), .pointer (some ⟨Bx, 3, none⟩), .float .f32 (x ((j.1 + 1) * 3)), .bool true, .bool true, .pointer (some ⟨Bx, 0, none⟩), .pointer (some ⟨Bx, 1, none⟩), .agg #[.float .f32 (x (j.1 * 3 + 1)), .float .f32 (x (j.1 * 3 + 2))], .pointer (some ⟨Bx, 3, none⟩), .pointer (some ⟨Bx, 4, none⟩), undef, undef, .pointer (some ⟨Bx, 0, none⟩), .pointer (some ⟨Bx, 0, none⟩), undef, undef, undef, undef, undef, undef, undef, undef, undef], defers := [] }) Wd := fun Wd hb => by
              rw [← hG]
              have bXd := (hb.block _ (lt_of_block bX)).trans bX
              have kd := kW.out.stay hb
              have hHd := kd.at (x := (w.heap.size, #[.float .f32 h], 22)) (by simp)
              refine wpAnyIn_ready (rs := [5, 6, 9, 11]) (by kernel_rfl) (by simp) ?_
              refine readIn 5 _ _ (.agg #[.float .f32 (x ((j.1 + 1) * 3 + 1)), .float .f32 (x ((j.1 + 1) * 3 + 2))]) rfl rfl (by rfl) (run_load_mid 32 _ Bx 4 [.float .f32 (x ((j.1 + 1) * 3 + 1)), .float .f32 (x ((j.1 + 1) * 3 + 2))] rfl (range2 ((cell_of_row _ Bx 4 _ _ _ bXd).trans rfl) ((cell_of_row _ Bx 5 _ _ _ bXd).trans rfl)) _ Try.underlying32 rfl info_air) rfl rfl rfl ?_ ?_
              · simp only [Act.put, List.setIfInBounds_toArray, List.set_cons_zero, List.set_cons_succ]
                exact (hG _ _ _ _).mpr (s25 Wd hb)
              refine readIn 6 _ _ (.float .f32 h) rfl rfl (by rfl) (run_load_cell 22 _ ⟨w.heap.size, 0, none⟩ _ rfl (run_loadVar_one Try.underlying22 rfl ((cell_of_row _ _ 0 _ _ _ hHd).trans rfl))) rfl rfl rfl ?_ ?_
              · simp only [Act.put, List.setIfInBounds_toArray, List.set_cons_zero, List.set_cons_succ]
                exact (hG _ _ _ _).mpr (s26 Wd hb)
              refine readIn 9 _ _ (.float .f32 (x (j.1 * 3))) rfl rfl (by rfl) (run_load_cell 22 _ ⟨Bx, 0, none⟩ _ rfl (run_loadVar_one Try.underlying22 rfl ((cell_of_row _ Bx 0 _ _ _ bXd).trans rfl))) rfl rfl rfl ?_ ?_
              · simp only [Act.put, List.setIfInBounds_toArray, List.set_cons_zero, List.set_cons_succ]
                exact (hG _ _ _ _).mpr (s29 Wd hb)
              refine readIn 11 _ _ (.agg #[.float .f32 (x (j.1 * 3)), .float .f32 (x (j.1 * 3 + 1)), .float .f32 (x (j.1 * 3 + 2)), .float .f32 (x ((j.1 + 1) * 3)), .float .f32 (x ((j.1 + 1) * 3 + 1)), .float .f32 (x ((j.1 + 1) * 3 + 2))]) rfl rfl (by rfl) (run_load_mid 214 _ Bx 0 [.float .f32 (x (j.1 * 3)), .float .f32 (x (j.1 * 3 + 1)), .float .f32 (x (j.1 * 3 + 2)), .float .f32 (x ((j.1 + 1) * 3)), .float .f32 (x ((j.1 + 1) * 3 + 1)), .float .f32 (x ((j.1 + 1) * 3 + 2))] rfl (rowRange bXd) _ Try.underlying214 rfl info_lay) rfl rfl rfl ?_ AllReadyIn.nil
              simp only [Act.put, List.setIfInBounds_toArray, List.set_cons_zero, List.set_cons_succ]
              exact (hG _ _ _ _).mpr (s2b Wd hb)
            have s5 : ∀ Wd, Below W.heap.size W Wd → G 12 #[true, true, false, true, true, true, false, true, true, false, false, false, false, false, false, false, false, false, false] ({ tmps := #[.slice p n cap, .float .f32 h, undef, .pointer (some ⟨w.heap.size, 0, none⟩), .pointer (some ⟨w.heap.size + 1, 0, none⟩), .pointer (some ⟨w.heap.size + 1 + 1, 0, none⟩), undef, .pointer (some ⟨Bx, 0, none⟩), .slice p n cap, .bool true, .bool false, undef, .slice p n cap, .func (.func 170) #[] #[.pointer (some ⟨w1.heap.size, 0, none⟩)], .int .i64 (j.1 : Int), .agg #[.float .f32 (x (j.1 * 3)), .float .f32 (x (j.1 * 3 + 1)), .float .f32 (x (j.1 * 3 + 2)), .float .f32 (x ((j.1 + 1) * 3)), .float .f32 (x ((j.1 + 1) * 3 + 1)), .float .f32 (x ((j.1 + 1) * 3 + 2))], .bool false, .float .f32 h, .pointer (some ⟨Bx, 0, none⟩), .pointer (some ⟨Bx, 0, none⟩), .float .f32 (x (j.1 * 3)), .bool false, undef, undef, undef, .bool false, .float .f32 h, .pointer (some ⟨Bx, 3, none⟩), .pointer (some ⟨Bx, 3, none⟩), .float .f32 (x ((j.1 + 1) * 3)), .bool false, undef, undef, undef, .bool true, .float .f32 h, .pointer (some ⟨Bx, 0, none⟩), .pointer (some ⟨Bx, 0, none⟩), .float .f32 (x (j.1 * 3)), .bool true, .bool true, .float .f32 h, .pointer (some ⟨Bx, 3, none⟩), .pointer (some ⟨Bx, 3, none⟩), .float .f32 (x ((j.1 + 1) * 3)), .bool true, .bool true, .pointer (some ⟨Bx, 0, none⟩), .pointer (some ⟨Bx, 1, none⟩), undef, .pointer (some ⟨Bx, 3, none⟩), .pointer (some ⟨Bx, 4, none⟩), .agg #[.float .f32 (x ((j.1 + 1) * 3 + 1)), .float .f32 (x ((j.1 + 1) * 3 + 2))], undef, .pointer (some ⟨Bx, 0, none⟩), .pointer (some ⟨Bx, 0, none⟩), undef, undef, undef, undef, undef, undef, undef, undef, undef], defers := [] }) Wd := fun Wd hb => by
              rw [← hG]
              have bXd := (hb.block _ (lt_of_block bX)).trans bX
              have kd := kW.out.stay hb
              have hHd := kd.at (x := (w.heap.size, #[.float .f32 h], 22)) (by simp)
              refine wpAnyIn_ready (rs := [2, 6, 9, 11]) (by kernel_rfl) (by simp) ?_
              refine readIn 2 _ _ (.agg #[.float .f32 (x (j.1 * 3 + 1)), .float .f32 (x (j.1 * 3 + 2))]) rfl rfl (by rfl) (run_load_mid 32 _ Bx 1 [.float .f32 (x (j.1 * 3 + 1)), .float .f32 (x (j.1 * 3 + 2))] rfl (range2 ((cell_of_row _ Bx 1 _ _ _ bXd).trans rfl) ((cell_of_row _ Bx 2 _ _ _ bXd).trans rfl)) _ Try.underlying32 rfl info_air) rfl rfl rfl ?_ ?_
              · simp only [Act.put, List.setIfInBounds_toArray, List.set_cons_zero, List.set_cons_succ]
                exact (hG _ _ _ _).mpr (s25 Wd hb)
              refine readIn 6 _ _ (.float .f32 h) rfl rfl (by rfl) (run_load_cell 22 _ ⟨w.heap.size, 0, none⟩ _ rfl (run_loadVar_one Try.underlying22 rfl ((cell_of_row _ _ 0 _ _ _ hHd).trans rfl))) rfl rfl rfl ?_ ?_
              · simp only [Act.put, List.setIfInBounds_toArray, List.set_cons_zero, List.set_cons_succ]
                exact (hG _ _ _ _).mpr (s56 Wd hb)
              refine readIn 9 _ _ (.float .f32 (x (j.1 * 3))) rfl rfl (by rfl) (run_load_cell 22 _ ⟨Bx, 0, none⟩ _ rfl (run_loadVar_one Try.underlying22 rfl ((cell_of_row _ Bx 0 _ _ _ bXd).trans rfl))) rfl rfl rfl ?_ ?_
              · simp only [Act.put, List.setIfInBounds_toArray, List.set_cons_zero, List.set_cons_succ]
                exact (hG _ _ _ _).mpr (s59 Wd hb)
              refine readIn 11 _ _ (.agg #[.float .f32 (x (j.1 * 3)), .float .f32 (x (j.1 * 3 + 1)), .float .f32 (x (j.1 * 3 + 2)), .float .f32 (x ((j.1 + 1) * 3)), .float .f32 (x ((j.1 + 1) * 3 + 1)), .float .f32 (x ((j.1 + 1) * 3 + 2))]) rfl rfl (by rfl) (run_load_mid 214 _ Bx 0 [.float .f32 (x (j.1 * 3)), .float .f32 (x (j.1 * 3 + 1)), .float .f32 (x (j.1 * 3 + 2)), .float .f32 (x ((j.1 + 1) * 3)), .float .f32 (x ((j.1 + 1) * 3 + 1)), .float .f32 (x ((j.1 + 1) * 3 + 2))] rfl (rowRange bXd) _ Try.underlying214 rfl info_lay) rfl rfl rfl ?_ AllReadyIn.nil
              simp only [Act.put, List.setIfInBounds_toArray, List.set_cons_zero, List.set_cons_succ]
              exact (hG _ _ _ _).mpr (s5b Wd hb)
            have s6 : ∀ Wd, Below W.heap.size W Wd → G 12 #[true, true, false, true, true, false, true, true, true, false, false, false, false, false, false, false, false, false, false] ({ tmps := #[.slice p n cap, .float .f32 h, undef, .pointer (some ⟨w.heap.size, 0, none⟩), .pointer (some ⟨w.heap.size + 1, 0, none⟩), .pointer (some ⟨w.heap.size + 1 + 1, 0, none⟩), undef, .pointer (some ⟨Bx, 0, none⟩), .slice p n cap, .bool true, .bool false, undef, .slice p n cap, .func (.func 170) #[] #[.pointer (some ⟨w1.heap.size, 0, none⟩)], .int .i64 (j.1 : Int), .agg #[.float .f32 (x (j.1 * 3)), .float .f32 (x (j.1 * 3 + 1)), .float .f32 (x (j.1 * 3 + 2)), .float .f32 (x ((j.1 + 1) * 3)), .float .f32 (x ((j.1 + 1) * 3 + 1)), .float .f32 (x ((j.1 + 1) * 3 + 2))], .bool false, .float .f32 h, .pointer (some ⟨Bx, 0, none⟩), .pointer (some ⟨Bx, 0, none⟩), .float .f32 (x (j.1 * 3)), .bool false, undef, undef, undef, .bool false, .float .f32 h, .pointer (some ⟨Bx, 3, none⟩), .pointer (some ⟨Bx, 3, none⟩), .float .f32 (x ((j.1 + 1) * 3)), .bool false, undef, undef, undef, .bool true, .float .f32 h, .pointer (some ⟨Bx, 0, none⟩), .pointer (some ⟨Bx, 0, none⟩), .float .f32 (x (j.1 * 3)), .bool true, .bool true, .float .f32 h, .pointer (some ⟨Bx, 3, none⟩), .pointer (some ⟨Bx, 3, none⟩), .float .f32 (x ((j.1 + 1) * 3)), .bool true, .bool true, .pointer (some ⟨Bx, 0, none⟩), .pointer (some ⟨Bx, 1, none⟩), undef, .pointer (some ⟨Bx, 3, none⟩), .pointer (some ⟨Bx, 4, none⟩), undef, .float .f32 h, .pointer (some ⟨Bx, 0, none⟩), .pointer (some ⟨Bx, 0, none⟩), undef, undef, undef, undef, undef, undef, undef, undef, undef], defers := [] }) Wd := fun Wd hb => by
              rw [← hG]
              have bXd := (hb.block _ (lt_of_block bX)).trans bX
              have kd := kW.out.stay hb
              have hHd := kd.at (x := (w.heap.size, #[.float .f32 h], 22)) (by simp)
              refine wpAnyIn_ready (rs := [2, 5, 9, 11]) (by kernel_rfl) (by simp) ?_
              refine readIn 2 _ _ (.agg #[.float .f32 (x (j.1 * 3 + 1)), .float .f32 (x (j.1 * 3 + 2))]) rfl rfl (by rfl) (run_load_mid 32 _ Bx 1 [.float .f32 (x (j.1 * 3 + 1)), .float .f32 (x (j.1 * 3 + 2))] rfl (range2 ((cell_of_row _ Bx 1 _ _ _ bXd).trans rfl) ((cell_of_row _ Bx 2 _ _ _ bXd).trans rfl)) _ Try.underlying32 rfl info_air) rfl rfl rfl ?_ ?_
              · simp only [Act.put, List.setIfInBounds_toArray, List.set_cons_zero, List.set_cons_succ]
                exact (hG _ _ _ _).mpr (s26 Wd hb)
              refine readIn 5 _ _ (.agg #[.float .f32 (x ((j.1 + 1) * 3 + 1)), .float .f32 (x ((j.1 + 1) * 3 + 2))]) rfl rfl (by rfl) (run_load_mid 32 _ Bx 4 [.float .f32 (x ((j.1 + 1) * 3 + 1)), .float .f32 (x ((j.1 + 1) * 3 + 2))] rfl (range2 ((cell_of_row _ Bx 4 _ _ _ bXd).trans rfl) ((cell_of_row _ Bx 5 _ _ _ bXd).trans rfl)) _ Try.underlying32 rfl info_air) rfl rfl rfl ?_ ?_
              · simp only [Act.put, List.setIfInBounds_toArray, List.set_cons_zero, List.set_cons_succ]
                exact (hG _ _ _ _).mpr (s56 Wd hb)
              refine readIn 9 _ _ (.float .f32 (x (j.1 * 3))) rfl rfl (by rfl) (run_load_cell 22 _ ⟨Bx, 0, none⟩ _ rfl (run_loadVar_one Try.underlying22 rfl ((cell_of_row _ Bx 0 _ _ _ bXd).trans rfl))) rfl rfl rfl ?_ ?_
              · simp only [Act.put, List.setIfInBounds_toArray, List.set_cons_zero, List.set_cons_succ]
                refine takeIn 10 _ _ (.float .f32 (fsub h (x (j.1 * 3)))) rfl rfl (by rfl) (by kernel_rfl) (by kernel_rfl) (by kernel_rfl) (fun w => run_binop_val _ _ _ _ (by rfl) (by rfl) (by simp [eqGuard]) (r1 w)) (fun _ => rfl) rfl rfl ?_
                simp only [Act.put, List.setIfInBounds_toArray, List.set_cons_zero, List.set_cons_succ]
                exact (hG _ _ _ _).mpr (s69 Wd hb)
              refine readIn 11 _ _ (.agg #[.float .f32 (x (j.1 * 3)), .float .f32 (x (j.1 * 3 + 1)), .float .f32 (x (j.1 * 3 + 2)), .float .f32 (x ((j.1 + 1) * 3)), .float .f32 (x ((j.1 + 1) * 3 + 1)), .float .f32 (x ((j.1 + 1) * 3 + 2))]) rfl rfl (by rfl) (run_load_mid 214 _ Bx 0 [.float .f32 (x (j.1 * 3)), .float .f32 (x (j.1 * 3 + 1)), .float .f32 (x (j.1 * 3 + 2)), .float .f32 (x ((j.1 + 1) * 3)), .float .f32 (x ((j.1 + 1) * 3 + 1)), .float .f32 (x ((j.1 + 1) * 3 + 2))] rfl (rowRange bXd) _ Try.underlying214 rfl info_lay) rfl rfl rfl ?_ AllReadyIn.nil
              simp only [Act.put, List.setIfInBounds_toArray, List.set_cons_zero, List.set_cons_succ]
              exact (hG _ _ _ _).mpr (s6b Wd hb)
            have s9 : ∀ Wd, Below W.heap.size W Wd → G 12 #[true, true, false, true, true, false, false, true, true, true, false, false, false, false, false, false, false, false, false] ({ tmps := #[.slice p n cap, .float .f32 h, undef, .pointer (some ⟨w.heap.size, 0, none⟩), .pointer (some ⟨w.heap.size + 1, 0, none⟩), .pointer (some ⟨w.heap.size + 1 + 1, 0, none⟩), undef, .pointer (some ⟨Bx, 0, none⟩), .slice p n cap, .bool true, .bool false, undef, .slice p n cap, .func (.func 170) #[] #[.pointer (some ⟨w1.heap.size, 0, none⟩)], .int .i64 (j.1 : Int), .agg #[.float .f32 (x (j.1 * 3)), .float .f32 (x (j.1 * 3 + 1)), .float .f32 (x (j.1 * 3 + 2)), .float .f32 (x ((j.1 + 1) * 3)), .float .f32 (x ((j.1 + 1) * 3 + 1)), .float .f32 (x ((j.1 + 1) * 3 + 2))], .bool false, .float .f32 h, .pointer (some ⟨Bx, 0, none⟩), .pointer (some ⟨Bx, 0, none⟩), .float .f32 (x (j.1 * 3)), .bool false, undef, undef, undef, .bool false, .float .f32 h, .pointer (some ⟨Bx, 3, none⟩), .pointer (some ⟨Bx, 3, none⟩), .float .f32 (x ((j.1 + 1) * 3)), .bool false, undef, undef, undef, .bool true, .float .f32 h, .pointer (some ⟨Bx, 0, none⟩), .pointer (some ⟨Bx, 0, none⟩), .float .f32 (x (j.1 * 3)), .bool true, .bool true, .float .f32 h, .pointer (some ⟨Bx, 3, none⟩), .pointer (some ⟨Bx, 3, none⟩), .float .f32 (x ((j.1 + 1) * 3)), .bool true, .bool true, .pointer (some ⟨Bx, 0, none⟩), .pointer (some ⟨Bx, 1, none⟩), undef, .pointer (some ⟨Bx, 3, none⟩), .pointer (some ⟨Bx, 4, none⟩), undef, undef, .pointer (some ⟨Bx, 0, none⟩), .pointer (some ⟨Bx, 0, none⟩), .float .f32 (x (j.1 * 3)), undef, undef, undef, undef, undef, undef, undef, undef], defers := [] }) Wd := fun Wd hb => by
              rw [← hG]
              have bXd := (hb.block _ (lt_of_block bX)).trans bX
              have kd := kW.out.stay hb
              have hHd := kd.at (x := (w.heap.size, #[.float .f32 h], 22)) (by simp)
              refine wpAnyIn_ready (rs := [2, 5, 6, 11]) (by kernel_rfl) (by simp) ?_
              refine readIn 2 _ _ (.agg #[.float .f32 (x (j.1 * 3 + 1)), .float .f32 (x (j.1 * 3 + 2))]) rfl rfl (by rfl) (run_load_mid 32 _ Bx 1 [.float .f32 (x (j.1 * 3 + 1)), .float .f32 (x (j.1 * 3 + 2))] rfl (range2 ((cell_of_row _ Bx 1 _ _ _ bXd).trans rfl) ((cell_of_row _ Bx 2 _ _ _ bXd).trans rfl)) _ Try.underlying32 rfl info_air) rfl rfl rfl ?_ ?_
              · simp only [Act.put, List.setIfInBounds_toArray, List.set_cons_zero, List.set_cons_succ]
                exact (hG _ _ _ _).mpr (s29 Wd hb)
              refine readIn 5 _ _ (.agg #[.float .f32 (x ((j.1 + 1) * 3 + 1)), .float .f32 (x ((j.1 + 1) * 3 + 2))]) rfl rfl (by rfl) (run_load_mid 32 _ Bx 4 [.float .f32 (x ((j.1 + 1) * 3 + 1)), .float .f32 (x ((j.1 + 1) * 3 + 2))] rfl (range2 ((cell_of_row _ Bx 4 _ _ _ bXd).trans rfl) ((cell_of_row _ Bx 5 _ _ _ bXd).trans rfl)) _ Try.underlying32 rfl info_air) rfl rfl rfl ?_ ?_
              · simp only [Act.put, List.setIfInBounds_toArray, List.set_cons_zero, List.set_cons_succ]
                exact (hG _ _ _ _).mpr (s59 Wd hb)
              refine readIn 6 _ _ (.float .f32 h) rfl rfl (by rfl) (run_load_cell 22 _ ⟨w.heap.size, 0, none⟩ _ rfl (run_loadVar_one Try.underlying22 rfl ((cell_of_row _ _ 0 _ _ _ hHd).trans rfl))) rfl rfl rfl ?_ ?_
              · simp only [Act.put, List.setIfInBounds_toArray, List.set_cons_zero, List.set_cons_succ]
                refine takeIn 10 _ _ (.float .f32 (fsub h (x (j.1 * 3)))) rfl rfl (by rfl) (by kernel_rfl) (by kernel_rfl) (by kernel_rfl) (fun w => run_binop_val _ _ _ _ (by rfl) (by rfl) (by simp [eqGuard]) (r1 w)) (fun _ => rfl) rfl rfl ?_
                simp only [Act.put, List.setIfInBounds_toArray, List.set_cons_zero, List.set_cons_succ]
                exact (hG _ _ _ _).mpr (s69 Wd hb)
              refine readIn 11 _ _ (.agg #[.float .f32 (x (j.1 * 3)), .float .f32 (x (j.1 * 3 + 1)), .float .f32 (x (j.1 * 3 + 2)), .float .f32 (x ((j.1 + 1) * 3)), .float .f32 (x ((j.1 + 1) * 3 + 1)), .float .f32 (x ((j.1 + 1) * 3 + 2))]) rfl rfl (by rfl) (run_load_mid 214 _ Bx 0 [.float .f32 (x (j.1 * 3)), .float .f32 (x (j.1 * 3 + 1)), .float .f32 (x (j.1 * 3 + 2)), .float .f32 (x ((j.1 + 1) * 3)), .float .f32 (x ((j.1 + 1) * 3 + 1)), .float .f32 (x ((j.1 + 1) * 3 + 2))] rfl (rowRange bXd) _ Try.underlying214 rfl info_lay) rfl rfl rfl ?_ AllReadyIn.nil
              simp only [Act.put, List.setIfInBounds_toArray, List.set_cons_zero, List.set_cons_succ]
              exact (hG _ _ _ _).mpr (s9b Wd hb)
            have sb : ∀ Wd, Below W.heap.size W Wd → G 12 #[true, true, false, true, true, false, false, true, true, false, false, true, false, false, false, false, false, false, false] ({ tmps := #[.slice p n cap, .float .f32 h, undef, .pointer (some ⟨w.heap.size, 0, none⟩), .pointer (some ⟨w.heap.size + 1, 0, none⟩), .pointer (some ⟨w.heap.size + 1 + 1, 0, none⟩), undef, .pointer (some ⟨Bx, 0, none⟩), .slice p n cap, .bool true, .bool false, undef, .slice p n cap, .func (.func 170) #[] #[.pointer (some ⟨w1.heap.size, 0, none⟩)], .int .i64 (j.1 : Int), .agg #[.float .f32 (x (j.1 * 3)), .float .f32 (x (j.1 * 3 + 1)), .float .f32 (x (j.1 * 3 + 2)), .float .f32 (x ((j.1 + 1) * 3)), .float .f32 (x ((j.1 + 1) * 3 + 1)), .float .f32 (x ((j.1 + 1) * 3 + 2))], .bool false, .float .f32 h, .pointer (some ⟨Bx, 0, none⟩), .pointer (some ⟨Bx, 0, none⟩), .float .f32 (x (j.1 * 3)), .bool false, undef, undef, undef, .bool false, .float .f32 h, .pointer (some ⟨Bx, 3, none⟩), .pointer (some ⟨Bx, 3, none⟩), .float .f32 (x ((j.1 + 1) * 3)), .bool false, undef, undef, undef, .bool true, .float .f32 h, .pointer (some ⟨Bx, 0, none⟩), .pointer (some ⟨Bx, 0, none⟩), .float .f32 (x (j.1 * 3)), .bool true, .bool true, .float .f32 h, .pointer (some ⟨Bx, 3, none⟩), .pointer (some ⟨Bx, 3, none⟩), .float .f32 (x ((j.1 + 1) * 3)), .bool true, .bool true, .pointer (some ⟨Bx, 0, none⟩), .pointer (some ⟨Bx, 1, none⟩), undef, .pointer (some ⟨Bx, 3, none⟩), .pointer (some ⟨Bx, 4, none⟩), undef, undef, .pointer (some ⟨Bx, 0, none⟩), .pointer (some ⟨Bx, 0, none⟩), undef, undef, .agg #[.float .f32 (x (j.1 * 3)), .float .f32 (x (j.1 * 3 + 1)), .float .f32 (x (j.1 * 3 + 2)), .float .f32 (x ((j.1 + 1) * 3)), .float .f32 (x ((j.1 + 1) * 3 + 1)), .float .f32 (x ((j.1 + 1) * 3 + 2))], undef, undef, undef, undef, undef, undef], defers := [] }) Wd := fun Wd hb => by
              rw [← hG]
              have bXd := (hb.block _ (lt_of_block bX)).trans bX
              have kd := kW.out.stay hb
              have hHd := kd.at (x := (w.heap.size, #[.float .f32 h], 22)) (by simp)
              refine wpAnyIn_ready (rs := [2, 5, 6, 9, 12]) (by kernel_rfl) (by simp) ?_
              refine readIn 2 _ _ (.agg #[.float .f32 (x (j.1 * 3 + 1)), .float .f32 (x (j.1 * 3 + 2))]) rfl rfl (by rfl) (run_load_mid 32 _ Bx 1 [.float .f32 (x (j.1 * 3 + 1)), .float .f32 (x (j.1 * 3 + 2))] rfl (range2 ((cell_of_row _ Bx 1 _ _ _ bXd).trans rfl) ((cell_of_row _ Bx 2 _ _ _ bXd).trans rfl)) _ Try.underlying32 rfl info_air) rfl rfl rfl ?_ ?_
              · simp only [Act.put, List.setIfInBounds_toArray, List.set_cons_zero, List.set_cons_succ]
                exact (hG _ _ _ _).mpr (s2b Wd hb)
              refine readIn 5 _ _ (.agg #[.float .f32 (x ((j.1 + 1) * 3 + 1)), .float .f32 (x ((j.1 + 1) * 3 + 2))]) rfl rfl (by rfl) (run_load_mid 32 _ Bx 4 [.float .f32 (x ((j.1 + 1) * 3 + 1)), .float .f32 (x ((j.1 + 1) * 3 + 2))] rfl (range2 ((cell_of_row _ Bx 4 _ _ _ bXd).trans rfl) ((cell_of_row _ Bx 5 _ _ _ bXd).trans rfl)) _ Try.underlying32 rfl info_air) rfl rfl rfl ?_ ?_
              · simp only [Act.put, List.setIfInBounds_toArray, List.set_cons_zero, List.set_cons_succ]
                exact (hG _ _ _ _).mpr (s5b Wd hb)
              refine readIn 6 _ _ (.float .f32 h) rfl rfl (by rfl) (run_load_cell 22 _ ⟨w.heap.size, 0, none⟩ _ rfl (run_loadVar_one Try.underlying22 rfl ((cell_of_row _ _ 0 _ _ _ hHd).trans rfl))) rfl rfl rfl ?_ ?_
              · simp only [Act.put, List.setIfInBounds_toArray, List.set_cons_zero, List.set_cons_succ]
                exact (hG _ _ _ _).mpr (s6b Wd hb)
              refine readIn 9 _ _ (.float .f32 (x (j.1 * 3))) rfl rfl (by rfl) (run_load_cell 22 _ ⟨Bx, 0, none⟩ _ rfl (run_loadVar_one Try.underlying22 rfl ((cell_of_row _ Bx 0 _ _ _ bXd).trans rfl))) rfl rfl rfl ?_ ?_
              · simp only [Act.put, List.setIfInBounds_toArray, List.set_cons_zero, List.set_cons_succ]
                exact (hG _ _ _ _).mpr (s9b Wd hb)
              refine callIn 12 _ _ (.float .f32 (dpW x j.1)) rfl rfl (by rfl) 172 #[.agg #[.float .f32 (x (j.1 * 3)), .float .f32 (x (j.1 * 3 + 1)), .float .f32 (x (j.1 * 3 + 2)), .float .f32 (x ((j.1 + 1) * 3)), .float .f32 (x ((j.1 + 1) * 3 + 1)), .float .f32 (x ((j.1 + 1) * 3 + 2))]] (by unfold execOp; go_simp) (fun _ _ => trivial) (fun hh => by cases hh) (fun w2 => Below Wd.heap.size Wd w2) (callsIn_wide.2 (iDepth x j.1 HAt.out.d2 Wd)) rfl rfl (fun w2 hb2 => ?_) AllReadyIn.nil
              simp only [Act.put, List.setIfInBounds_toArray, List.set_cons_zero, List.set_cons_succ]
              exact (hG _ _ _ _).mpr (sbc w2 (hb.trans (hb2.mono hb.size)))
            have s : ∀ Wd, Below W.heap.size W Wd → G 13 #[true, true, false, true, true, false, false, true, true, false, false, false, false, false, false, false, false, false, false] ({ tmps := #[.slice p n cap, .float .f32 h, undef, .pointer (some ⟨w.heap.size, 0, none⟩), .pointer (some ⟨w.heap.size + 1, 0, none⟩), .pointer (some ⟨w.heap.size + 1 + 1, 0, none⟩), undef, .pointer (some ⟨Bx, 0, none⟩), .slice p n cap, .bool true, .bool false, undef, .slice p n cap, .func (.func 170) #[] #[.pointer (some ⟨w1.heap.size, 0, none⟩)], .int .i64 (j.1 : Int), .agg #[.float .f32 (x (j.1 * 3)), .float .f32 (x (j.1 * 3 + 1)), .float .f32 (x (j.1 * 3 + 2)), .float .f32 (x ((j.1 + 1) * 3)), .float .f32 (x ((j.1 + 1) * 3 + 1)), .float .f32 (x ((j.1 + 1) * 3 + 2))], .bool false, .float .f32 h, .pointer (some ⟨Bx, 0, none⟩), .pointer (some ⟨Bx, 0, none⟩), .float .f32 (x (j.1 * 3)), .bool false, undef, undef, undef, .bool false, .float .f32 h, .pointer (some ⟨Bx, 3, none⟩), .pointer (some ⟨Bx, 3, none⟩), .float .f32 (x ((j.1 + 1) * 3)), .bool false, undef, undef, undef, .bool true, .float .f32 h, .pointer (some ⟨Bx, 0, none⟩), .pointer (some ⟨Bx, 0, none⟩), .float .f32 (x (j.1 * 3)), .bool true, .bool true, .float .f32 h, .pointer (some ⟨Bx, 3, none⟩), .pointer (some ⟨Bx, 3, none⟩), .float .f32 (x ((j.1 + 1) * 3)), .bool true, .bool true, .pointer (some ⟨Bx, 0, none⟩), .pointer (some ⟨Bx, 1, none⟩), undef, .pointer (some ⟨Bx, 3, none⟩), .pointer (some ⟨Bx, 4, none⟩), undef, undef, .pointer (some ⟨Bx, 0, none⟩), .pointer (some ⟨Bx, 0, none⟩), undef, undef, undef, undef, undef, undef, undef, undef, undef], defers := [] }) Wd := fun Wd hb => by
              rw [← hG]
              have bXd := (hb.block _ (lt_of_block bX)).trans bX
              have kd := kW.out.stay hb
              have hHd := kd.at (x := (w.heap.size, #[.float .f32 h], 22)) (by simp)
              refine wpAnyIn_ready (rs := [2, 5, 6, 9, 11]) (by kernel_rfl) (by simp) ?_
              refine readIn 2 _ _ (.agg #[.float .f32 (x (j.1 * 3 + 1)), .float .f32 (x (j.1 * 3 + 2))]) rfl rfl (by rfl) (run_load_mid 32 _ Bx 1 [.float .f32 (x (j.1 * 3 + 1)), .float .f32 (x (j.1 * 3 + 2))] rfl (range2 ((cell_of_row _ Bx 1 _ _ _ bXd).trans rfl) ((cell_of_row _ Bx 2 _ _ _ bXd).trans rfl)) _ Try.underlying32 rfl info_air) rfl rfl rfl ?_ ?_
              · simp only [Act.put, List.setIfInBounds_toArray, List.set_cons_zero, List.set_cons_succ]
                exact (hG _ _ _ _).mpr (s2 Wd hb)
              refine readIn 5 _ _ (.agg #[.float .f32 (x ((j.1 + 1) * 3 + 1)), .float .f32 (x ((j.1 + 1) * 3 + 2))]) rfl rfl (by rfl) (run_load_mid 32 _ Bx 4 [.float .f32 (x ((j.1 + 1) * 3 + 1)), .float .f32 (x ((j.1 + 1) * 3 + 2))] rfl (range2 ((cell_of_row _ Bx 4 _ _ _ bXd).trans rfl) ((cell_of_row _ Bx 5 _ _ _ bXd).trans rfl)) _ Try.underlying32 rfl info_air) rfl rfl rfl ?_ ?_
              · simp only [Act.put, List.setIfInBounds_toArray, List.set_cons_zero, List.set_cons_succ]
                exact (hG _ _ _ _).mpr (s5 Wd hb)
              refine readIn 6 _ _ (.float .f32 h) rfl rfl (by rfl) (run_load_cell 22 _ ⟨w.heap.size, 0, none⟩ _ rfl (run_loadVar_one Try.underlying22 rfl ((cell_of_row _ _ 0 _ _ _ hHd).trans rfl))) rfl rfl rfl ?_ ?_
              · simp only [Act.put, List.setIfInBounds_toArray, List.set_cons_zero, List.set_cons_succ]
                exact (hG _ _ _ _).mpr (s6 Wd hb)
              refine readIn 9 _ _ (.float .f32 (x (j.1 * 3))) rfl rfl (by rfl) (run_load_cell 22 _ ⟨Bx, 0, none⟩ _ rfl (run_loadVar_one Try.underlying22 rfl ((cell_of_row _ Bx 0 _ _ _ bXd).trans rfl))) rfl rfl rfl ?_ ?_
              · simp only [Act.put, List.setIfInBounds_toArray, List.set_cons_zero, List.set_cons_succ]
                exact (hG _ _ _ _).mpr (s9 Wd hb)
              refine readIn 11 _ _ (.agg #[.float .f32 (x (j.1 * 3)), .float .f32 (x (j.1 * 3 + 1)), .float .f32 (x (j.1 * 3 + 2)), .float .f32 (x ((j.1 + 1) * 3)), .float .f32 (x ((j.1 + 1) * 3 + 1)), .float .f32 (x ((j.1 + 1) * 3 + 2))]) rfl rfl (by rfl) (run_load_mid 214 _ Bx 0 [.float .f32 (x (j.1 * 3)), .float .f32 (x (j.1 * 3 + 1)), .float .f32 (x (j.1 * 3 + 2)), .float .f32 (x ((j.1 + 1) * 3)), .float .f32 (x ((j.1 + 1) * 3 + 1)), .float .f32 (x ((j.1 + 1) * 3 + 2))] rfl (rowRange bXd) _ Try.underlying214 rfl info_lay) rfl rfl rfl ?_ AllReadyIn.nil
              simp only [Act.put, List.setIfInBounds_toArray, List.set_cons_zero, List.set_cons_succ]
              exact (hG _ _ _ _).mpr (sb Wd hb)
            rw [← hG]
            refine takeIn 0 _ _ (.pointer (some ⟨Bx, 0, none⟩)) rfl rfl (by rfl) (by kernel_rfl) (by kernel_rfl) (by kernel_rfl) (fun w => by unfold execOp; go_simp) (fun _ => rfl) rfl rfl ?_
            simp only [Act.put, List.setIfInBounds_toArray, List.set_cons_zero, List.set_cons_succ]
            refine takeIn 1 _ _ (.pointer (some ⟨Bx, 1, none⟩)) rfl rfl (by rfl) (by kernel_rfl) (by kernel_rfl) (by kernel_rfl) (fun w => by unfold execOp; go_simp) (fun _ => rfl) rfl rfl ?_
            simp only [Act.put, List.setIfInBounds_toArray, List.set_cons_zero, List.set_cons_succ]
            refine takeIn 3 _ _ (.pointer (some ⟨Bx, 3, none⟩)) rfl rfl (by rfl) (by kernel_rfl) (by kernel_rfl) (by kernel_rfl) (fun w => by unfold execOp; go_simp) (fun _ => rfl) rfl rfl ?_
            simp only [Act.put, List.setIfInBounds_toArray, List.set_cons_zero, List.set_cons_succ]
            refine takeIn 4 _ _ (.pointer (some ⟨Bx, 4, none⟩)) rfl rfl (by rfl) (by kernel_rfl) (by kernel_rfl) (by kernel_rfl) (fun w => by unfold execOp; go_simp) (fun _ => rfl) rfl rfl ?_
            simp only [Act.put, List.setIfInBounds_toArray, List.set_cons_zero, List.set_cons_succ]
            refine takeIn 7 _ _ (.pointer (some ⟨Bx, 0, none⟩)) rfl rfl (by rfl) (by kernel_rfl) (by kernel_rfl) (by kernel_rfl) (fun w => by unfold execOp; go_simp) (fun _ => rfl) rfl rfl ?_
            simp only [Act.put, List.setIfInBounds_toArray, List.set_cons_zero, List.set_cons_succ]
            refine takeIn 8 _ _ (.pointer (some ⟨Bx, 0, none⟩)) rfl rfl (by rfl) (by kernel_rfl) (by kernel_rfl) (by kernel_rfl) (fun w => by unfold execOp; go_simp) (fun _ => rfl) rfl rfl ?_
            simp only [Act.put, List.setIfInBounds_toArray, List.set_cons_zero, List.set_cons_succ]
            exact (hG _ _ _ _).mpr (s W.drew (Below.refl _ W).drew)
      · have hstop : stopH x h j.1 = true := by unfold stopH; rw [q1, q2]; rfl
        have hL : layR x h j.1 = (x ((j.1 + 1) * 3 + 1), x ((j.1 + 1) * 3 + 2), 0) := by unfold layR; rw [if_neg (by rw [q1]; decide), if_pos q2]
        rw [q1] at hC1; rw [q2] at hC2
        clear q1 q2 hC3 hC4
        gi_wp2
        have kf := air_done kW.out (Nat.le_refl _) (.float .f32 (x ((j.1 + 1) * 3 + 1))) (.float .f32 (x ((j.1 + 1) * 3 + 2))) (.int .i64 0)
        exact ⟨(((KeepsOthers.setCell _ _ _).from _).trans ((KeepsOthers.setCell _ _ _).from _)).trans ((KeepsOthers.setCell _ _ _).from _), ⟨(pre, j), ⟨⟨rfl, rfl, hp, hstop⟩, by rw [hL]; exact kf.at (x := (w.heap.size + 1, #[.float .f32 (x ((j.1 + 1) * 3 + 1)), .float .f32 (x ((j.1 + 1) * 3 + 2))], 32)) (by simp)⟩, by rw [hL]; exact kf.at (x := (w.heap.size + 1 + 1, #[.int .i64 0], 2)) (by simp)⟩, kf.1⟩
    · have hstop : stopH x h j.1 = true := by unfold stopH; rw [q1]; rfl
      have hL : layR x h j.1 = (x (j.1 * 3 + 1), x (j.1 * 3 + 2), 0) := by unfold layR; rw [if_pos q1]
      rw [q1] at hC1
      clear q1 hC2 hC3 hC4
      gi_wp2
      have kf := air_done kW.out (Nat.le_refl _) (.float .f32 (x (j.1 * 3 + 1))) (.float .f32 (x (j.1 * 3 + 2))) (.int .i64 0)
      exact ⟨(((KeepsOthers.setCell _ _ _).from _).trans ((KeepsOthers.setCell _ _ _).from _)).trans ((KeepsOthers.setCell _ _ _).from _), ⟨(pre, j), ⟨⟨rfl, rfl, hp, hstop⟩, by rw [hL]; exact kf.at (x := (w.heap.size + 1, #[.float .f32 (x (j.1 * 3 + 1)), .float .f32 (x (j.1 * 3 + 2))], 32)) (by simp)⟩, by rw [hL]; exact kf.at (x := (w.heap.size + 1 + 1, #[.int .i64 0], 2)) (by simp)⟩, kf.1⟩
  case done =>
    rintro D ys W hD rfl ⟨hp, hB⟩ hK
    have hS := hB.size
    have kW := hid (kB.out.stay hB)
    have hA : W.heap[w.heap.size + 1]? = some (.cells #[.float .f32 0, .float .f32 0] 32 (0, 0)) := kW.out.at (x := (w.heap.size + 1, #[.float .f32 0, .float .f32 0], 32)) (by simp)
    have hI : W.heap[w.heap.size + 1 + 1]? = some (.cells #[.int .i64 0] 2 (0, 0)) := kW.out.at (x := (w.heap.size + 1 + 1, #[.int .i64 0], 2)) (by simp)
    have hH : W.heap[w.heap.size]? = some (.cells #[.float .f32 h] 22 (0, 0)) := kW.out.at (x := (w.heap.size, #[.float .f32 h], 22)) (by simp)
    have eA0 : W.cell? ⟨w.heap.size + 1, 0, none⟩ = some (.float .f32 0) := (cell_of_row _ _ 0 _ _ _ hA).trans rfl
    have eA1 : W.cell? ⟨w.heap.size + 1, 1, none⟩ = some (.float .f32 0) := (cell_of_row _ _ 1 _ _ _ hA).trans rfl
    have eI : W.cell? ⟨w.heap.size + 1 + 1, 0, none⟩ = some (.int .i64 0) := (cell_of_row _ _ 0 _ _ _ hI).trans rfl
    have eH : W.cell? ⟨w.heap.size, 0, none⟩ = some (.float .f32 h) := (cell_of_row _ _ 0 _ _ _ hH).trans rfl
    have fA0 := frozen_of_row W (w.heap.size + 1) 0 _ _ hA
    have fA1 := frozen_of_row W (w.heap.size + 1) 1 _ _ hA
    have fI := frozen_of_row W (w.heap.size + 1 + 1) 0 _ _ hI
    have hfin := HR.out
    unfold atR at hfin
    rw [firstB_none (p := stopH x h) (m := n - 1) (fun i hi => hp ⟨i, hi⟩ (List.mem_finRange _))] at hfin
    injection hfin with f1 f2
    injection f2 with f2 f3
    subst f1 f2 f3
    gi_wp2
    have kf := air_done kW.out (Nat.le_refl _) (.float .f32 0) (.float .f32 0) (.int .i64 6)
    have hK' := (((KeepsOthers.setCell W ⟨w.heap.size + 1, 0, none⟩ (.float .f32 0)).trans (KeepsOthers.setCell _ ⟨w.heap.size + 1, 1, none⟩ (.float .f32 0))).trans (KeepsOthers.setCell _ ⟨w.heap.size + 1 + 1, 0, none⟩ (.int .i64 6))).same D _ hK rfl
    have jA := kf.at (x := (w.heap.size + 1, #[.float .f32 0, .float .f32 0], 32)) (by simp)
    have jI := kf.at (x := (w.heap.size + 1 + 1, #[.int .i64 6], 2)) (by simp)
    have rA := ((grownBy_putObj' _ D (.deferred none)).block (w.heap.size + 1) (lt_of_block jA) (by simp; omega)).trans jA
    have rI := ((grownBy_putObj' _ D (.deferred none)).block (w.heap.size + 1 + 1) (lt_of_block jI) (by simp; omega)).trans jI
    refine ⟨by simp, .inl ⟨_, _, rfl, run_takeDeferred hK', ?_⟩⟩
    exact ⟨_, results_cells rfl _ _ ⟨w.heap.size + 1, 0, none⟩ ⟨w.heap.size + 1 + 1, 0, none⟩ _ _ rfl rfl (run_loadVar_row _ (w.heap.size + 1) 32 32 _ (0, 0) _ rA Try.underlying32 rfl info_air) (run_loadVar_one Try.underlying2 rfl ((cell_of_row _ _ 0 _ _ _ rI).trans rfl)), rfl, kf.1.trans (belowK_b (w := w) (Nat.le_refl _) _ D _ _ (by omega) hK' rfl rfl)⟩
  case stop =>
    rintro D c pre W hD hpre ⟨⟨⟨ini, last⟩, ⟨⟨rfl, rfl, hp, hl⟩, b1⟩, b2⟩, hB⟩ hK
    have hfin := HR.out
    unfold atR at hfin
    rw [firstB_some (p := stopH x h) (m := n - 1) last.2 (fun i hi => hp ⟨i, by have := last.2; omega⟩ (last_fin hpre _ hi)) hl] at hfin
    rw [show layR x h last.1 = (rh, rv, c') from hfin] at b1 b2
    gi_wp2
    have rA := ((grownBy_putObj' _ D (.deferred none)).block (w.heap.size + 1) (lt_of_block b1) (by simp; omega)).trans b1
    have rI : _ = _ := b2.kept (grownBy_putObj' _ D (.deferred none)) (by simp; omega)
    refine ⟨by simp, .inl ⟨_, _, rfl, run_takeDeferred hK, ?_⟩⟩
    exact ⟨_, results_cells rfl _ _ ⟨w.heap.size + 1, 0, none⟩ ⟨w.heap.size + 1 + 1, 0, none⟩ _ _ rfl rfl (run_loadVar_row _ (w.heap.size + 1) 32 32 _ (0, 0) _ rA Try.underlying32 rfl info_air) (run_loadVar_one Try.underlying2 rfl ((cell_of_row _ _ 0 _ _ _ rI).trans rfl)), rfl, hB.trans (belowK_b (w := w) (Nat.le_refl _) _ D _ _ (by omega) hK rfl rfl)⟩

theorem at_between {n : Nat} {x : Nat → Nat} (hx : W32 x) (F : SouF n x) {h : Nat} (hl : h < 4294967296) {k : Nat} (hk : k + 1 < n) (g : gtH x h k = true) (l : ltH x h (k + 1) = true) : AtF x h k := by
  rcases hf : finB h with _ | _
  · exfalso
    have a := order_bad hl hf (hgt_inf (hgt_lv (F.lv k (by omega))))
    have b := order_bad hl hf (hgt_inf (hgt_lv (F.lv (k + 1) hk)))
    unfold gtH at g
    unfold ltH at l
    by_cases hs : 2147483648 ≤ h
    · rw [if_pos hs] at a
      rcases a with a | a <;> rw [a] at g <;> exact absurd g (by decide)
    · rw [if_neg hs] at b
      rcases b with b | b <;> rw [b] at l <;> exact absurd l (by decide)
  · have f := fw_of hl hf
    exact at_facts hx F f hk ((gtH_iff F f (by omega)).1 g) ((ltH_iff F f hk).1 l)

theorem at_fin {n : Nat} {x : Nat → Nat} (hx : W32 x) (F : SouF n x) {h : Nat} (hl : h < 4294967296) : (atR n x h).1 < 4294967296 ∧ (atR n x h).2.1 < 4294967296 ∧ finB (atR n x h).1 = true ∧ finB (atR n x h).2.1 = true := by
  have lev : ∀ k, k < n → finB (x (k * 3 + 1)) = true ∧ finB (x (k * 3 + 2)) = true := fun k hk => by
    obtain ⟨p0, p1, _⟩ := airB_iff.1 (parB_iff.1 (F.lv k hk)).2
    exact ⟨heat_fin (hx _) p0, amt_fin p1⟩
  have zz : (0 : Nat) < 4294967296 ∧ (0 : Nat) < 4294967296 ∧ finB 0 = true ∧ finB 0 = true := ⟨by decide, by decide, by decide, by decide⟩
  unfold atR
  rcases hb : firstB (stopH x h) (n - 1) with _ | k
  · exact zz
  · have hk := firstB_lt hb
    have hp : stopH x h k = true := by
      unfold firstB at hb
      exact List.find?_some hb
    show (layR x h k).1 < 4294967296 ∧ (layR x h k).2.1 < 4294967296 ∧ finB (layR x h k).1 = true ∧ finB (layR x h k).2.1 = true
    unfold layR
    by_cases e1 : eqH x h k = true
    · rw [if_pos e1]; exact ⟨hx _, hx _, (lev k (by omega)).1, (lev k (by omega)).2⟩
    · rw [if_neg e1]
      by_cases e2 : eqH x h (k + 1) = true
      · rw [if_pos e2]; exact ⟨hx _, hx _, (lev (k + 1) (by omega)).1, (lev (k + 1) (by omega)).2⟩
      · rw [if_neg e2]
        unfold stopH at hp
        rw [Bool.not_eq_true] at e1 e2
        rw [e1, e2, Bool.false_or, Bool.false_or, Bool.and_eq_true] at hp
        have A := at_between hx F hl (k := k) (by omega) hp.1 hp.2
        unfold mixR
        by_cases e3 : airB (mixW (x (k * 3 + 1)) (x ((k + 1) * 3 + 1)) (shW x h k)) (mixW (x (k * 3 + 2)) (x ((k + 1) * 3 + 2)) (shW x h k)) = true
        · rw [if_pos e3]
          obtain ⟨t1, t2, _⟩ := airB_iff.1 e3
          exact ⟨A.m1.lt, A.m2.lt, heat_fin A.m1.lt t1, amt_fin t2⟩
        · rw [if_neg e3]; exact zz

set_option maxRecDepth 100000 in
set_option maxHeartbeats 1000000 in
theorem iLift_none (n : Nat) (x : Nat → Nat) (hx : W32 x) (hq : souB n x = true) (a h v : Nat) (ha : a < 4294967296) (_hh : h < 4294967296) (hv : v < 4294967296) (hp : parB a h v = true) (rh rv : Nat) (c : Int) (hr : atR n x a = (rh, rv, c)) (hc0 : c ≠ 0) (w : World) (s : Value) (hs : Rd w s n x) (hn : n ≤ 1048576) :
    Calls Try.prog 177 #[s, .agg #[.float .f32 a, .float .f32 h, .float .f32 v]] w fun e w' => e = .returned (.tuple #[.float .f32 0, .int .i64 c]) ∧ Below w.heap.size w w' := by
  obtain ⟨p, cap, rfl, hc⟩ := id hs
  have k0 : Hid (Kept w [(w.heap.size, #[.float .f32 a, .float .f32 h, .float .f32 v], 88)] (w.alloc (.cells #[.float .f32 a, .float .f32 h, .float .f32 v] 88))) := hid ((Kept.nil w).push _ _)
  have HV := hid (iValidSounding _ n x hn hx _ (hs.stay k0.out.1) true hq)
  have HP := hid (fun u => iValidParcel a h v ha hv true hp u)
  have HA := hid (fun u (hu : Below w.heap.size w u) => iAirAt n x hx hq a rh rv c hr (fun k hk g l => at_between hx (souB_iff.1 hq) ha hk g l) u _ (hs.stay hu) hn)
  have d1 : (c != 0) = true := by simpa using hc0
  clear hc0
  clear hc hx hq hs hn hp ha hv hr
  go_enter Try.func177, Try.ntmps177
  go_wp2_with fail
  refine HV.out.mono ?_
  rintro e w1 ⟨rfl, hb1⟩
  have k1 := hid (k0.out.stay hb1)
  go_wp2_with (refine wpList_load_g (by rfl) 88 _ rfl (w.heap.size) rfl 88 (#[.float .f32 a, .float .f32 h, .float .f32 v]) (0, 0) _ (k1.out.at (x := (w.heap.size, #[.float .f32 a, .float .f32 h, .float .f32 v], 88)) (by simp)) Try.underlying88 rfl info_par ?_)
  refine (HP.out _).mono ?_
  rintro e w2 ⟨rfl, hb2⟩
  have k2 := hid (k1.out.stay hb2)
  have c0 : World.cell? w2 ⟨w.heap.size, 0, none⟩ = some (.float .f32 a) := (cell_of_row w2 (w.heap.size) 0 _ _ _ (k2.out.at (x := (w.heap.size, #[.float .f32 a, .float .f32 h, .float .f32 v], 88)) (by simp))).trans rfl
  go_wp2_with fail
  refine (HA.out _ k2.out.1).mono ?_
  rintro e w3 ⟨rfl, hb3⟩
  have k3 := hid (k2.out.stay hb3)
  clear c0
  have k4 : Hid (Kept w [(w3.heap.size, #[.float .f32 0, .float .f32 0], 32), (w.heap.size, #[.float .f32 a, .float .f32 h, .float .f32 v], 88)] (w3.alloc (.cells #[.float .f32 0, .float .f32 0] 32))) := hid (k3.out.push _ _)
  have hge := hid k3.out.size
  have hlt := k3.out.lt (x := (w.heap.size, #[.float .f32 a, .float .f32 h, .float .f32 v], 88)) (by simp)
  have hA : ∀ y ∈ ([(w.heap.size, #[.float .f32 a, .float .f32 h, .float .f32 v], 88)] : List (Nat × Array Value × TypeId)), y.1 ≠ w3.heap.size := by intro y hy; simp at hy; subst hy; exact Nat.ne_of_lt hlt
  go_wp2_with (refine store_kept (w0 := w) (l := [(w.heap.size, #[.float .f32 a, .float .f32 h, .float .f32 v], 88)]) rfl 32 _ _ rfl (w3.heap.size) (#[.float .f32 rh, .float .f32 rv]) rfl rfl 32 (#[.float .f32 0, .float .f32 0]) (k4.out) hge.out hA info_air rfl (by simp [Value.oneCell']) (fun w6 k6 => ?_); replace k6 := hid k6)
  go_ret2
  exact ⟨rfl, k6.out.1⟩

set_option maxRecDepth 100000 in
set_option maxHeartbeats 1000000 in
theorem iLift_ok (n : Nat) (x : Nat → Nat) (hx : W32 x) (hq : souB n x = true) (a h v : Nat) (ha : a < 4294967296) (_hh : h < 4294967296) (hv : v < 4294967296) (hp : parB a h v = true) (rh rv : Nat) (hr : atR n x a = (rh, rv, 0)) (r : Nat) (hsub : S.sub h rh = some r) (w : World) (s : Value) (hs : Rd w s n x) (hn : n ≤ 1048576) :
    Calls Try.prog 177 #[s, .agg #[.float .f32 a, .float .f32 h, .float .f32 v]] w fun e w' => e = .returned (.tuple #[.float .f32 r, .int .i64 0]) ∧ Below w.heap.size w w' := by
  obtain ⟨p, cap, rfl, hc⟩ := id hs
  have k0 : Hid (Kept w [(w.heap.size, #[.float .f32 a, .float .f32 h, .float .f32 v], 88)] (w.alloc (.cells #[.float .f32 a, .float .f32 h, .float .f32 v] 88))) := hid ((Kept.nil w).push _ _)
  have HV := hid (iValidSounding _ n x hn hx _ (hs.stay k0.out.1) true hq)
  have HP := hid (fun u => iValidParcel a h v ha hv true hp u)
  have HA := hid (fun u (hu : Below w.heap.size w u) => iAirAt n x hx hq a rh rv 0 hr (fun k hk g l => at_between hx (souB_iff.1 hq) ha hk g l) u _ (hs.stay hu) hn)
  have r1 := fun w => run_float_arith (P := Try.prog) w .sub 22 .f32 _ _ _ hsub
  clear hsub
  clear hc hx hq hs hn hp ha hv hr
  go_enter Try.func177, Try.ntmps177
  go_wp2_with fail
  refine HV.out.mono ?_
  rintro e w1 ⟨rfl, hb1⟩
  have k1 := hid (k0.out.stay hb1)
  go_wp2_with (refine wpList_load_g (by rfl) 88 _ rfl (w.heap.size) rfl 88 (#[.float .f32 a, .float .f32 h, .float .f32 v]) (0, 0) _ (k1.out.at (x := (w.heap.size, #[.float .f32 a, .float .f32 h, .float .f32 v], 88)) (by simp)) Try.underlying88 rfl info_par ?_)
  refine (HP.out _).mono ?_
  rintro e w2 ⟨rfl, hb2⟩
  have k2 := hid (k1.out.stay hb2)
  have c0 : World.cell? w2 ⟨w.heap.size, 0, none⟩ = some (.float .f32 a) := (cell_of_row w2 (w.heap.size) 0 _ _ _ (k2.out.at (x := (w.heap.size, #[.float .f32 a, .float .f32 h, .float .f32 v], 88)) (by simp))).trans rfl
  go_wp2_with fail
  refine (HA.out _ k2.out.1).mono ?_
  rintro e w3 ⟨rfl, hb3⟩
  have k3 := hid (k2.out.stay hb3)
  clear c0
  have k4 : Hid (Kept w [(w3.heap.size, #[.float .f32 0, .float .f32 0], 32), (w.heap.size, #[.float .f32 a, .float .f32 h, .float .f32 v], 88)] (w3.alloc (.cells #[.float .f32 0, .float .f32 0] 32))) := hid (k3.out.push _ _)
  have hge := hid k3.out.size
  have hlt := k3.out.lt (x := (w.heap.size, #[.float .f32 a, .float .f32 h, .float .f32 v], 88)) (by simp)
  have hA : ∀ y ∈ ([(w.heap.size, #[.float .f32 a, .float .f32 h, .float .f32 v], 88)] : List (Nat × Array Value × TypeId)), y.1 ≠ w3.heap.size := by intro y hy; simp at hy; subst hy; exact Nat.ne_of_lt hlt
  go_wp2_with (refine store_kept (w0 := w) (l := [(w.heap.size, #[.float .f32 a, .float .f32 h, .float .f32 v], 88)]) rfl 32 _ _ rfl (w3.heap.size) (#[.float .f32 rh, .float .f32 rv]) rfl rfl 32 (#[.float .f32 0, .float .f32 0]) (k4.out) hge.out hA info_air rfl (by simp [Value.oneCell']) (fun w6 k6 => ?_); replace k6 := hid k6; have c1 : World.cell? w6 ⟨w.heap.size, 1, none⟩ = some (.float .f32 h) := (cell_of_row w6 (w.heap.size) 1 _ _ _ (k6.out.at (x := (w.heap.size, #[.float .f32 a, .float .f32 h, .float .f32 v], 88)) (by simp))).trans rfl; have c2 : World.cell? w6 ⟨w3.heap.size, 0, none⟩ = some (.float .f32 rh) := (cell_of_row w6 (w3.heap.size) 0 _ _ _ (k6.out.at (x := (w3.heap.size, #[.float .f32 rh, .float .f32 rv], 32)) (by simp))).trans rfl)
  go_ret2
  exact ⟨rfl, k6.out.1⟩

set_option maxRecDepth 100000 in
set_option maxHeartbeats 1000000 in
theorem sLift_none (n : Nat) (x : Nat → Nat) (hx : W32 x) (hq : souB n x = true) (a h v : Nat) (ha : a < 4294967296) (_hh : h < 4294967296) (_hv : v < 4294967296) (rh rv : Nat) (c : Int) (hr : atR n x a = (rh, rv, c)) (hc0 : c ≠ 0) (w : World) (s : Value) (hs : Rd w s n x) (g : Nat) (T : TypeId) (hg : parAt w g a h v T) :
    Calls Try.prog 102 #[s, .pointer (some ⟨g, 0, none⟩)] w fun e w' => e = .returned (.tuple #[.float .f32 0, .int .i64 c]) ∧ Below w.heap.size w w' := by
  obtain ⟨p, cap, rfl, hc⟩ := id hs
  have HA := hid (fun u (hu : Below w.heap.size w u) => sAt n x hx hq a ha u _ (hs.stay hu) rh rv c hr)
  have c0 := hg.c0
  have G := hid hg
  have d1 : (c != 0) = true := by simpa using hc0
  clear hc0
  clear hc hx hq hs ha _hv hr hg
  go_enter Try.func102, Try.ntmps102
  go_wp2_with fail
  refine (HA.out _ (Below.refl _ _)).mono ?_
  rintro e w1 ⟨i, rfl, hb1⟩
  have k0 := hid ((Kept.nil w).stay hb1)
  have k4 : Hid (Kept w [(w1.heap.size, #[.float .f32 0, .float .f32 0], 32)] (w1.alloc (.cells #[.float .f32 0, .float .f32 0] 32))) := hid (k0.out.push _ _)
  clear c0 hb1
  have hge := hid k0.out.size
  go_wp2_with (refine store_kept (w0 := w) (l := []) rfl 32 _ _ rfl (w1.heap.size) (#[.float .f32 rh, .float .f32 rv]) rfl rfl 32 (#[.float .f32 0, .float .f32 0]) (k4.out) hge.out (by simp) info_air rfl (by simp [Value.oneCell']) (fun w6 k6 => ?_); replace k6 := hid k6)
  go_ret2
  exact ⟨rfl, k6.out.1⟩

set_option maxRecDepth 100000 in
set_option maxHeartbeats 1000000 in
theorem sLift_ok (n : Nat) (x : Nat → Nat) (hx : W32 x) (hq : souB n x = true) (a h v : Nat) (ha : a < 4294967296) (_hh : h < 4294967296) (_hv : v < 4294967296) (rh rv : Nat) (hr : atR n x a = (rh, rv, 0)) (r : Nat) (hsub : S.sub h rh = some r) (w : World) (s : Value) (hs : Rd w s n x) (g : Nat) (T : TypeId) (hg : parAt w g a h v T) :
    Calls Try.prog 102 #[s, .pointer (some ⟨g, 0, none⟩)] w fun e w' => e = .returned (.tuple #[.float .f32 r, .int .i64 0]) ∧ Below w.heap.size w w' := by
  obtain ⟨p, cap, rfl, hc⟩ := id hs
  have HA := hid (fun u (hu : Below w.heap.size w u) => sAt n x hx hq a ha u _ (hs.stay hu) rh rv 0 hr)
  have c0 := hg.c0
  have G := hid hg
  have r1 := fun w => run_float_arith (P := Try.prog) w .sub 22 .f32 _ _ _ hsub
  clear hsub
  clear hc hx hq hs ha _hv hr hg
  go_enter Try.func102, Try.ntmps102
  go_wp2_with fail
  refine (HA.out _ (Below.refl _ _)).mono ?_
  rintro e w1 ⟨i, rfl, hb1⟩
  have k0 := hid ((Kept.nil w).stay hb1)
  have k4 : Hid (Kept w [(w1.heap.size, #[.float .f32 0, .float .f32 0], 32)] (w1.alloc (.cells #[.float .f32 0, .float .f32 0] 32))) := hid (k0.out.push _ _)
  clear c0 hb1
  have hge := hid k0.out.size
  go_wp2_with (refine store_kept (w0 := w) (l := []) rfl 32 _ _ rfl (w1.heap.size) (#[.float .f32 rh, .float .f32 rv]) rfl rfl 32 (#[.float .f32 0, .float .f32 0]) (k4.out) hge.out (by simp) info_air rfl (by simp [Value.oneCell']) (fun w6 k6 => ?_); replace k6 := hid k6; have c1 := (G.out.stay k6.out.1).c1; have c2 : World.cell? w6 ⟨w1.heap.size, 0, none⟩ = some (.float .f32 rh) := (cell_of_row w6 (w1.heap.size) 0 _ _ _ (k6.out.at (x := (w1.heap.size, #[.float .f32 rh, .float .f32 rv], 32)) (by simp))).trans rfl)
  go_quiet (fail)
  go_wp2
  go_ret2
  exact ⟨rfl, (kept_drewK k6.out nq).1⟩

theorem words_cons : ∀ (v : List Char) (r : List Char), (∀ c ∈ v, c ≠ Char.ofNat 32) → wordsSigns (v ++ Char.ofNat 32 :: r) = v :: wordsSigns r
  | [], r, _ => rfl
  | c :: v, r, h => by
    have ih := words_cons v r (fun x hx => h x (by simp [hx]))
    have hc : c ≠ Char.ofNat 32 := h c (by simp)
    show wordsSigns (c :: (v ++ Char.ofNat 32 :: r)) = _
    rw [wordsSigns.eq_3 _ _ (fun e => hc e), ih]

def w0 : List Nat := [104, 97, 114, 110, 101, 115, 115]

def w1 : List Nat := [99, 51, 54, 52, 56, 54, 53, 52, 51, 50, 97, 52, 52, 52, 101, 99, 51, 56, 52, 98, 48, 52, 50, 55, 102, 100, 102, 49, 49, 55, 52, 48, 49, 99, 100, 49, 50, 50, 97, 52, 51, 53, 50, 98, 56, 101, 57, 52, 97, 56, 99, 57, 48, 99, 56, 52, 55, 98, 97, 55, 52, 57, 50, 101]

def w2 : List Nat := [99, 117, 116]

def w3 : List Nat := [97, 116, 32, 108, 111, 111, 112, 46, 101, 120, 97, 109, 112, 108, 101, 47, 103, 48, 49, 50, 50, 52, 47, 108, 97, 119, 115, 46, 70, 110, 69, 120, 97, 99, 116, 83, 116, 105, 114, 67, 111, 108, 117, 109, 110, 32, 108, 111, 111, 112, 46, 101, 120, 97, 109, 112, 108, 101, 47, 103, 48, 49, 50, 50, 52, 47, 108, 97, 119, 115, 46, 70, 110, 69, 120, 97, 99, 116, 71, 114, 111, 119, 79, 110, 99, 101, 32, 108, 111, 111, 112, 46, 101, 120, 97, 109, 112, 108, 101, 47, 103, 48, 49, 50, 50, 52, 47, 108, 97, 119, 115, 46, 70, 110, 69, 120, 97, 99, 116, 71, 114, 111, 119, 83, 116, 101, 112, 115, 32, 108, 111, 111, 112, 46, 101, 120, 97, 109, 112, 108, 101, 47, 103, 48, 49, 50, 50, 52, 47, 108, 97, 119, 115, 46, 70, 110, 69, 120, 97, 99, 116, 83, 116, 101, 112, 115, 84, 111, 68, 114, 121, 32, 108, 111, 111, 112, 46, 101, 120, 97, 109, 112, 108, 101, 47, 103, 48, 49, 50, 50, 52, 47, 108, 97, 119, 115, 46, 70, 110, 69, 120, 97, 99, 116, 71, 114, 111, 119, 67, 111, 108, 117, 109, 110, 32, 108, 111, 111, 112, 46, 101, 120, 97, 109, 112, 108, 101, 47, 103, 48, 49, 50, 50, 52, 47, 108, 97, 119, 115, 46, 70, 110, 69, 120, 97, 99, 116, 86, 97, 108, 105, 100, 68, 101, 101, 100, 32, 108, 111, 111, 112, 46, 101, 120, 97, 109, 112, 108, 101, 47, 103, 48, 49, 50, 50, 52, 47, 108, 97, 119, 115, 46, 70, 110, 69, 120, 97, 99, 116, 67, 111, 108, 108, 105, 100, 101, 80, 97, 105, 114, 115, 32, 108, 111, 111, 112, 46, 101, 120, 97, 109, 112, 108, 101, 47, 103, 48, 49, 50, 50, 52, 47, 108, 97, 119, 115, 46, 70, 110, 69, 120, 97, 99, 116, 83, 116, 101, 97, 100, 121, 83, 111, 117, 110, 100, 105, 110, 103, 32, 108, 111, 111, 112, 46, 101, 120, 97, 109, 112, 108, 101, 47, 103, 48, 49, 50, 50, 52, 47, 108, 97, 119, 115, 46, 70, 110, 69, 120, 97, 99, 116, 82, 105, 115, 101, 73, 110, 32, 108, 111, 111, 112, 46, 101, 120, 97, 109, 112, 108, 101, 47, 103, 48, 49, 50, 50, 52, 47, 108, 97, 119, 115, 46, 70, 110, 69, 120, 97, 99, 116, 84, 104, 105, 114, 100, 82, 111, 111, 116]

def letters (l : List Nat) : List Char := l.map Char.ofNat

theorem head_reads : Try.prog.initOrder = String.ofList (letters w0 ++ Char.ofNat 32 :: (letters w1 ++ Char.ofNat 32 :: (letters w2 ++ Char.ofNat 32 :: letters w3))) := by kernel_rfl

theorem no_blank {l : List Nat} (h : l.all (fun n => Char.ofNat n != Char.ofNat 32) = true) : ∀ c ∈ letters l, c ≠ Char.ofNat 32 := by
  intro c hc
  obtain ⟨n, hn, rfl⟩ := List.mem_map.1 hc
  have := List.all_eq_true.1 h n hn
  simpa using this

theorem h0 : letters w0 = "harness".toList := by kernel_rfl

theorem h2 : letters w2 = "cut".toList := by kernel_rfl

theorem sums : isSumSigns (letters w1) = true := by kernel_rfl

theorem words : wordsSigns Try.prog.initOrder.toList = "harness".toList :: letters w1 :: "cut".toList :: wordsSigns (letters w3) := by
  rw [head_reads, String.toList_ofList, words_cons _ _ (no_blank (by decide +kernel)), words_cons _ _ (no_blank (by decide +kernel)), words_cons _ _ (no_blank (by decide +kernel)), h0, h2]

theorem behind : ∃ r, behindMainWord (wordsSigns Try.prog.initOrder.toList) = "cut".toList :: r := by
  refine ⟨wordsSigns (letters w3), ?_⟩
  rw [words]
  generalize wordsSigns (letters w3) = r
  have hs := sums
  generalize letters w1 = v at hs
  unfold behindMainWord
  simp [hs]

theorem not_later : Try.prog.laysLater = false := by kernel_rfl

theorem no_reflect : Try.prog.bearsReflect = false := by kernel_rfl

theorem no_doors : Try.prog.doorFits [] = true := by kernel_rfl

theorem strips (r : List (List Char)) : stripLifts liftWords ("cut".toList :: r) = ([], "cut".toList :: r) := by kernel_rfl

theorem may_enter_of (P : Program) (r : List (List Char)) (h : behindMainWord (wordsSigns P.initOrder.toList) = "cut".toList :: r) (h1 : P.laysLater = false) (h2 : P.bearsReflect = false) (h3 : P.doorFits [] = true) : P.mayEnter = true := by
  unfold Program.mayEnter
  rw [h]
  dsimp only
  rw [strips, h1, h2, h3]
  kernel_rfl

theorem lifts_final_of (P : Program) (r : List (List Char)) (h : behindMainWord (wordsSigns P.initOrder.toList) = "cut".toList :: r) : P.liftsFinal = false := by
  unfold Program.liftsFinal Program.headLifts
  rw [h]
  dsimp only
  rw [strips]
  kernel_rfl

theorem made_of (P : Program) (r : List (List Char)) (h : behindMainWord (wordsSigns P.initOrder.toList) = "cut".toList :: r) : P.make = some .cut := by
  unfold Program.make
  rw [h]
  kernel_rfl

theorem may_enter : Try.prog.mayEnter = true := let ⟨r, h⟩ := behind; may_enter_of _ r h not_later no_reflect no_doors

theorem lifts_final : Try.prog.liftsFinal = false := let ⟨r, h⟩ := behind; lifts_final_of _ r h

theorem made : Try.prog.make = some .cut := let ⟨r, h⟩ := behind; made_of _ r h

theorem laid : laidOutB Try.prog = true := by kernel_rfl

theorem rowed : mapsRowed Try.prog = true := by kernel_rfl

theorem no_stops : Try.prog.stops = [] := by kernel_rfl

theorem no_knobs : Try.prog.stopKnobs = [] := by kernel_rfl

theorem plain_keys : Try.prog.plainKeys = false := by kernel_rfl

theorem stops_heard : Try.prog.stopsHeard = true := by kernel_rfl

theorem own : ownKnob Try.prog.godebug = none := by kernel_rfl

theorem rdf : Try.prog.readableRec 22 = true ∧ 22 < Try.prog.types.size := ⟨by kernel_rfl, of_decide_eq_true (by kernel_rfl)⟩

theorem cells2 : Try.prog.cellsOf 26 = 2 := by kernel_rfl

theorem rdi : Try.prog.readableRec 2 = true ∧ 2 < Try.prog.types.size := ⟨by kernel_rfl, of_decide_eq_true (by kernel_rfl)⟩

theorem vls3 (c : Nat → Nat) : vls 3 (flw c) = #[.float .f32 (c 0), .float .f32 (c 1), .float .f32 (c 2)] := rfl

theorem cells3 : Try.prog.cellsOf 86 = 3 := by kernel_rfl

theorem types3 : Try.prog.cellTypes Try.prog.depth 86 = some (List.replicate 3 22) := by kernel_rfl

theorem rdq : Try.prog.readableRec 86 = true ∧ 86 < Try.prog.types.size := ⟨by kernel_rfl, of_decide_eq_true (by kernel_rfl)⟩

theorem cellsL : Try.prog.cellsOf 155 = 3 := by kernel_rfl

theorem cellsF : Try.prog.cellsOf 22 = 1 := by kernel_rfl

theorem rds : Try.prog.readableRec 76 = true ∧ 76 < Try.prog.types.size := ⟨by kernel_rfl, of_decide_eq_true (by kernel_rfl)⟩
end Go.Proofs.Ythpimindkmmkjaa
