import Derived.Test.YtgmcpbhjcfiikaaURainMade
import Derived.Test.YtgmcpbhjcfiikaaCRainMade
import Derived.Test.YtgmcpbhjcfiikaaChecked
import Derived.Test.YtgmcpbhjcfiikaaRows
import Derived.Laws.FloatArith
import Derived.ProofKit
import Derived.WalkKit
import Derived.WalkLawsBesides
import Derived.WalkSpells
import Derived.Deep.QuietTactic
import Derived.BigQuiet
import Derived.Deep.RegionHeld3
import Derived.ChangeKeysEq
import Derived.Laws.BitsAllLaws
import Derived.Deep.MidRow
import Derived.Deep.WholeRow
import Derived.StillTailTactics
import Derived.Deep.Slices
import Derived.ChangeSame
import Derived.OrdersIn
import Derived.ControlIn
import Derived.RangeFuncSeq
import Derived.RangeFuncNested
import Derived.ArgAppend
import Derived.OwnWalkIn
import Derived.TacticsInMore
import Derived.Below
import Derived.Laws.AppendOwn
import Derived.Scope
import Derived.OpenShut
/- The law FnExactRainMade of chapter 1: at every argument the call returns true, and what was there before it is as it was. -/
namespace Go.Proofs.Ytgmcpbhjcfiikaa
open Go.RowKit Go.Fl

set_option maxHeartbeats 1000000 in
set_option maxRecDepth 100000 in
theorem iRain (c kk : Nat → Nat) (t : Nat) (q qa : Int) (hQ : ∀ w, Calls Try.prog 109 #[.agg (fls c), .agg (vls 400 (flw kk)), .float .f32 t] w fun e w' => e = .returned (.int .i64 qa) ∧ Below w.heap.size w w')
    (b0 : Nat) (e0 : Int) (hA0 : qa = 0 → ∀ w, Calls Try.prog 123 #[.agg (fls c), .int .i64 q] w fun e w' => e = .returned (.tuple #[.float .f32 b0, .int .i64 e0]) ∧ Below w.heap.size w w') (res : Nat → Nat) (n : Int) (hC : qa = 0 → ∀ w, Calls Try.prog 47 #[.agg (fls c), .agg (vls 400 (flw kk)), .float .f32 t] w fun e w' => e = .returned (.tuple #[.agg (fls res), .int .i64 n]) ∧ Below w.heap.size w w')
    (b1 : Nat) (e1 : Int) (hA1 : qa = 0 → n = 0 → ∀ w, Calls Try.prog 123 #[.agg (fls res), .int .i64 q] w fun e w' => e = .returned (.tuple #[.float .f32 b1, .int .i64 e1]) ∧ Below w.heap.size w w') (z : Nat) (code : Int)
    (ra : qa ≠ 0 → z = 0 ∧ code = qa) (r0 : qa = 0 → e0 ≠ 0 → z = 0 ∧ code = e0) (rn : qa = 0 → e0 = 0 → n ≠ 0 → z = 0 ∧ code = n) (r1 : qa = 0 → e0 = 0 → n = 0 → e1 ≠ 0 → z = 0 ∧ code = e1)
    (rk : qa = 0 → e0 = 0 → n = 0 → e1 = 0 → b0 < INF ∧ b1 < INF ∧ z = spendF b1 b0 ∧ code = 0) (w : World) :
    Calls Try.prog 51 #[.agg (fls c), .agg (vls 400 (flw kk)), .float .f32 t, .int .i64 q] w fun e w' => e = .returned (.tuple #[.float .f32 z, .int .i64 code]) ∧ Below w.heap.size w w' := by
  have k0 : Hid (Kept w [(w.heap.size + 1, vls 400 (flw kk), 58), (w.heap.size, fls c, 61)] ((w.alloc (.cells (fls c) 61)).alloc (.cells (vls 400 (flw kk)) 58))) := hid ((((Kept.nil w).push _ _).push _ _).sub (by simp))
  have HQ := hid hQ
  have HA0 := hid hA0
  have HC := hid hC
  have HA1 := hid hA1
  have RA := hid ra
  have R0 := hid r0
  have RN := hid rn
  have R1 := hid r1
  have RK := hid rk
  clear hQ hA0 hC hA1 ra r0 rn r1 rk
  go_enter Try.func51, Try.ntmps51
  go_wp2_with (first | (refine wpList_load_row rfl 61 _ rfl (w.heap.size) rfl 61 (fls c) (0, 0) _ (k0.out.at (x := (w.heap.size, fls c, 61)) (by simp)) Try.underlying61 rfl (by rw [fls_size]; exact info_arr) ?_) | (refine wpList_load_row rfl 58 _ rfl (w.heap.size + 1) rfl 58 (vls 400 (flw kk)) (0, 0) _ (k0.out.at (x := (w.heap.size + 1, vls 400 (flw kk), 58)) (by simp)) Try.underlying58 rfl (by rw [vls_size]; exact info_kern) ?_))
  refine (HQ.out _).mono ?_
  rintro e w1 ⟨rfl, hb1⟩
  have k1 := hid (k0.out.stay hb1)
  clear k0 hb1 HQ
  by_cases ha : qa = 0
  · subst ha
    replace HA0 := hid (HA0.out rfl)
    replace HC := hid (HC.out rfl)
    replace HA1 := hid (HA1.out rfl)
    replace R0 := hid (R0.out rfl)
    replace RN := hid (RN.out rfl)
    replace R1 := hid (R1.out rfl)
    replace RK := hid (RK.out rfl)
    clear RA
    go_wp2_with (refine wpList_load_row rfl 61 _ rfl (w.heap.size) rfl 61 (fls c) (0, 0) _ (k1.out.at (x := (w.heap.size, fls c, 61)) (by simp)) Try.underlying61 rfl (by rw [fls_size]; exact info_arr) ?_)
    refine (HA0.out _).mono ?_
    rintro e w2 ⟨rfl, hb2⟩
    have k2 := hid (k1.out.stay hb2)
    clear k1 hb2 HA0
    by_cases he0 : e0 = 0
    · subst he0
      replace RN := hid (RN.out rfl)
      replace R1 := hid (R1.out rfl)
      replace RK := hid (RK.out rfl)
      clear R0
      go_wp2_with (first | (refine wpList_load_row rfl 61 _ rfl (w.heap.size) rfl 61 (fls c) (0, 0) _ (k2.out.at (x := (w.heap.size, fls c, 61)) (by simp)) Try.underlying61 rfl (by rw [fls_size]; exact info_arr) ?_) | (refine wpList_load_row rfl 58 _ rfl (w.heap.size + 1) rfl 58 (vls 400 (flw kk)) (0, 0) _ (k2.out.at (x := (w.heap.size + 1, vls 400 (flw kk), 58)) (by simp)) Try.underlying58 rfl (by rw [vls_size]; exact info_kern) ?_))
      refine (HC.out _).mono ?_
      rintro e w3 ⟨rfl, hb3⟩
      have kk3 := k2.out.stay hb3
      have k3 : Hid (Kept w ((w3.heap.size, fls fun _ => 0, 61) :: [(w.heap.size + 1, vls 400 (flw kk), 58), (w.heap.size, fls c, 61)]) (w3.alloc (.cells (fls fun _ => 0) 61))) := hid (kk3.push _ _)
      have H3 := hid kk3.size
      have N3 := hid kk3.fresh
      clear k2 kk3 hb3 HC
      by_cases hn : n = 0
      · subst hn
        replace HA1 := hid (HA1.out rfl)
        replace R1 := hid (R1.out rfl)
        replace RK := hid (RK.out rfl)
        clear RN
        go_wp2_with (first | (have _t := k3; refine store_kept (w0 := w) (l := [(w.heap.size + 1, vls 400 (flw kk), 58), (w.heap.size, fls c, 61)]) rfl 61 _ _ rfl (w3.heap.size) (fls res) rfl rfl 61 (fls fun _ => 0) k3.out H3.out N3.out (by rw [fls_size]; exact info_arr) (by simp) (fls_one _) (fun w4 k4 => ?_); replace k4 := hid k4; clear k3) | (refine wpList_load_row rfl 61 _ rfl (w3.heap.size) rfl 61 (fls res) (0, 0) _ (k4.out.at (x := (w3.heap.size, fls res, 61)) (by simp)) Try.underlying61 rfl (by rw [fls_size]; exact info_arr) ?_))
        refine (HA1.out _).mono ?_
        rintro e w5 ⟨rfl, hb5⟩
        have k5 := hid (k4.out.stay hb5)
        clear k4 hb5 HA1
        by_cases he1 : e1 = 0
        · subst he1
          obtain ⟨i0, i1, rfl, rfl⟩ := RK.out rfl
          have s1 := fun w => run_float_arith (P := Try.prog) w .sub 23 .f32 _ _ _ (sub_any i1 i0)
          have s2 := fun ts t w => run_max_sub (P := Try.prog) ts t i1 i0 w
          clear R1 RK i0 i1
          go_wp2
          go_ret2
          exact ⟨rfl, k5.out.1⟩
        · obtain ⟨rfl, rfl⟩ := R1.out he1
          have hcz := he1
          clear R1 RK he1
          go_wp2
          go_ret2
          exact ⟨rfl, k5.out.1⟩
      · obtain ⟨rfl, rfl⟩ := RN.out hn
        have hcz := hn
        clear RN R1 RK HA1 hn
        go_wp2_with (have _t := k3; refine store_kept (w0 := w) (l := [(w.heap.size + 1, vls 400 (flw kk), 58), (w.heap.size, fls c, 61)]) rfl 61 _ _ rfl (w3.heap.size) (fls res) rfl rfl 61 (fls fun _ => 0) k3.out H3.out N3.out (by rw [fls_size]; exact info_arr) (by simp) (fls_one _) (fun w4 k4 => ?_); replace k4 := hid k4; clear k3)
        go_ret2
        exact ⟨rfl, k4.out.1⟩
    · obtain ⟨rfl, rfl⟩ := R0.out he0
      have hcz := he0
      clear R0 RN R1 RK HA1 HC he0
      go_wp2
      go_ret2
      exact ⟨rfl, k2.out.1⟩
  · obtain ⟨rfl, rfl⟩ := RA.out ha
    have hcz := ha
    clear RA R0 RN R1 RK HA0 HA1 HC ha
    go_wp2
    go_ret2
    exact ⟨rfl, k1.out.1⟩

set_option maxHeartbeats 1000000 in
set_option maxRecDepth 100000 in
theorem sRain (c kk : Nat → Nat) (t : Nat) (q qa : Int) (hQ : ∀ gc gk T1 T2 w, arrAt w gc c T1 → vAt w gk 400 (flw kk) T2 → Calls Try.prog 106 #[.pointer (some ⟨gc, 0, none⟩), .pointer (some ⟨gk, 0, none⟩), .float .f32 t] w fun e w' => e = .returned (.int .i64 qa) ∧ Below w.heap.size w w')
    (b0 : Nat) (e0 : Int) (hA0 : qa = 0 → ∀ w, Calls Try.prog 122 #[.agg (fls c), .int .i64 q] w fun e w' => e = .returned (.tuple #[.float .f32 b0, .int .i64 e0]) ∧ Below w.heap.size w w') (res : Nat → Nat) (n : Int) (hC : qa = 0 → ∀ w gc gk T1 T2, arrAt w gc c T1 → vAt w gk 400 (flw kk) T2 → Calls Try.prog 118 #[.pointer (some ⟨gc, 0, none⟩), .pointer (some ⟨gk, 0, none⟩), .float .f32 t] w fun e w' => e = .returned (.tuple #[.agg (fls res), .int .i64 n]) ∧ Below w.heap.size w w')
    (b1 : Nat) (e1 : Int) (hA1 : qa = 0 → n = 0 → ∀ w, Calls Try.prog 122 #[.agg (fls res), .int .i64 q] w fun e w' => e = .returned (.tuple #[.float .f32 b1, .int .i64 e1]) ∧ Below w.heap.size w w') (z : Nat) (code : Int)
    (ra : qa ≠ 0 → z = 0 ∧ code = qa) (rc : qa = 0 → ¬ (0 ≤ q ∧ q < 20) → z = 0 ∧ code = 2) (rn : qa = 0 → 0 ≤ q ∧ q < 20 → n ≠ 0 → z = 0 ∧ code = n) (r0 : qa = 0 → 0 ≤ q ∧ q < 20 → n = 0 → e0 ≠ 0 → z = 0 ∧ code = e0) (r1 : qa = 0 → 0 ≤ q ∧ q < 20 → n = 0 → e0 = 0 → e1 ≠ 0 → z = 0 ∧ code = e1)
    (rk : qa = 0 → 0 ≤ q ∧ q < 20 → n = 0 → e0 = 0 → e1 = 0 → b0 < INF ∧ b1 < INF ∧ z = spendF b1 b0 ∧ code = 0) (w : World) :
    Calls Try.prog 50 #[.agg (fls c), .agg (vls 400 (flw kk)), .float .f32 t, .int .i64 q] w fun e w' => e = .returned (.tuple #[.float .f32 z, .int .i64 code]) ∧ Below w.heap.size w w' := by
  have k0 : Hid (Kept w [(w.heap.size + 1, vls 400 (flw kk), 58), (w.heap.size, fls c, 61)] ((w.alloc (.cells (fls c) 61)).alloc (.cells (vls 400 (flw kk)) 58))) := hid ((((Kept.nil w).push _ _).push _ _).sub (by simp))
  have HQ := hid hQ
  have HA0 := hid hA0
  have HC := hid hC
  have HA1 := hid hA1
  have RA := hid ra
  have RC := hid rc
  have R0 := hid r0
  have RN := hid rn
  have R1 := hid r1
  have RK := hid rk
  clear hQ hA0 hC hA1 ra rc r0 rn r1 rk
  go_enter Try.func50, Try.ntmps50
  go_wp2_with fail
  refine (HQ.out _ _ _ _ _ (k0.out.at (x := (w.heap.size, fls c, 61)) (by simp)) (k0.out.at (x := (w.heap.size + 1, vls 400 (flw kk), 58)) (by simp))).mono ?_
  rintro e w1 ⟨rfl, hb1⟩
  have k1 := hid (k0.out.stay hb1)
  clear k0 hb1 HQ
  by_cases ha : qa = 0
  · subst ha
    replace HA0 := hid (HA0.out rfl)
    replace HC := hid (HC.out rfl)
    replace HA1 := hid (HA1.out rfl)
    replace RC := hid (RC.out rfl)
    replace R0 := hid (R0.out rfl)
    replace RN := hid (RN.out rfl)
    replace R1 := hid (R1.out rfl)
    replace RK := hid (RK.out rfl)
    clear RA
    by_cases hq : 0 ≤ q ∧ q < 20
    · replace R0 := hid (R0.out hq)
      replace RN := hid (RN.out hq)
      replace R1 := hid (R1.out hq)
      replace RK := hid (RK.out hq)
      have HQ2 := hid hq
      clear RC hq
      go_wp2_with fail
      obtain ⟨a, ha⟩ := Int.eq_ofNat_of_zero_le HQ2.out.1
      refine (show Calls Try.prog 121 #[.int .i64 q] w1 fun e w' => e = .returned (.bool true) ∧ w1 = w' from by subst ha; exact sClass_t a (by have := HQ2.out.2; omega) w1).mono ?_
      rintro e w2 ⟨rfl, rfl⟩
      clear ha
      go_wp2_with fail
      refine (HC.out _ _ _ _ _ (k1.out.at (x := (w.heap.size, fls c, 61)) (by simp)) (k1.out.at (x := (w.heap.size + 1, vls 400 (flw kk), 58)) (by simp))).mono ?_
      rintro e w3 ⟨rfl, hb3⟩
      have kk3 := k1.out.stay hb3
      have k3 : Hid (Kept w ((w3.heap.size, fls fun _ => 0, 61) :: [(w.heap.size + 1, vls 400 (flw kk), 58), (w.heap.size, fls c, 61)]) (w3.alloc (.cells (fls fun _ => 0) 61))) := hid (kk3.push _ _)
      have H3 := hid kk3.size
      have N3 := hid kk3.fresh
      clear k1 kk3 hb3 HC
      by_cases hn : n = 0
      · subst hn
        replace HA1 := hid (HA1.out rfl)
        replace R0 := hid (R0.out rfl)
        replace R1 := hid (R1.out rfl)
        replace RK := hid (RK.out rfl)
        clear RN
        go_wp2_with (first | (have _t := k3; refine store_kept (w0 := w) (l := [(w.heap.size + 1, vls 400 (flw kk), 58), (w.heap.size, fls c, 61)]) rfl 61 _ _ rfl (w3.heap.size) (fls res) rfl rfl 61 (fls fun _ => 0) k3.out H3.out N3.out (by rw [fls_size]; exact info_arr) (by simp) (fls_one _) (fun w4 k4 => ?_); replace k4 := hid k4; clear k3) | (refine wpList_load_row rfl 61 _ rfl (w.heap.size) rfl 61 (fls c) (0, 0) _ (k4.out.at (x := (w.heap.size, fls c, 61)) (by simp)) Try.underlying61 rfl (by rw [fls_size]; exact info_arr) ?_))
        refine (HA0.out _).mono ?_
        rintro e w5 ⟨rfl, hb5⟩
        have k5 := hid (k4.out.stay hb5)
        clear k4 hb5 HA0
        by_cases he0 : e0 = 0
        · subst he0
          replace R1 := hid (R1.out rfl)
          replace RK := hid (RK.out rfl)
          clear R0
          go_wp2_with (refine wpList_load_row rfl 61 _ rfl (w3.heap.size) rfl 61 (fls res) (0, 0) _ (k5.out.at (x := (w3.heap.size, fls res, 61)) (by simp)) Try.underlying61 rfl (by rw [fls_size]; exact info_arr) ?_)
          refine (HA1.out _).mono ?_
          rintro e w6 ⟨rfl, hb6⟩
          have k6 := hid (k5.out.stay hb6)
          clear k5 hb6 HA1
          by_cases he1 : e1 = 0
          · subst he1
            obtain ⟨i0, i1, hz, rfl⟩ := RK.out rfl
            have s1 := fun w => run_float_arith (P := Try.prog) w .sub 23 .f32 _ _ _ (sub_any i1 i0)
            have s3 := lt_amts i1 i0
            by_cases hlt : b1 < b0
            · rw [decide_eq_true hlt] at s3
              obtain rfl : z = 0 := hz.trans (if_neg (by omega))
              clear R1 RK i0 i1 s1 hz
              go_wp2
              go_ret2
              exact ⟨rfl, k6.out.1⟩
            · rw [decide_eq_false hlt] at s3
              obtain rfl : z = subW b1 b0 := hz.trans (by unfold spendF subW; rw [if_pos (by omega), if_pos (by omega)])
              clear R1 RK i0 i1 hz
              go_wp2
              go_ret2
              exact ⟨rfl, k6.out.1⟩
          · obtain ⟨rfl, rfl⟩ := R1.out he1
            have hcz := he1
            clear R1 RK he1
            go_wp2
            go_ret2
            exact ⟨rfl, k6.out.1⟩
        · obtain ⟨rfl, rfl⟩ := R0.out he0
          have hcz := he0
          clear R0 R1 RK HA1 he0
          go_wp2
          go_ret2
          exact ⟨rfl, k5.out.1⟩
      · obtain ⟨rfl, rfl⟩ := RN.out hn
        have hcz := hn
        clear RN R0 R1 RK HA1 HA0 hn
        go_wp2_with (have _t := k3; refine store_kept (w0 := w) (l := [(w.heap.size + 1, vls 400 (flw kk), 58), (w.heap.size, fls c, 61)]) rfl 61 _ _ rfl (w3.heap.size) (fls res) rfl rfl 61 (fls fun _ => 0) k3.out H3.out N3.out (by rw [fls_size]; exact info_arr) (by simp) (fls_one _) (fun w4 k4 => ?_); replace k4 := hid k4; clear k3)
        go_ret2
        exact ⟨rfl, k4.out.1⟩
    · obtain ⟨rfl, rfl⟩ := RC.out hq
      have HQ2 := hid hq
      clear RC RN R0 R1 RK HA0 HA1 HC hq
      go_wp2_with fail
      refine (sClass_f q HQ2.out _).mono ?_
      rintro e w2 ⟨rfl, rfl⟩
      go_wp2
      go_ret2
      exact ⟨rfl, k1.out.1⟩
  · obtain ⟨rfl, rfl⟩ := RA.out ha
    have hcz := ha
    clear RA RC R0 RN R1 RK HA0 HA1 HC ha
    go_wp2
    go_ret2
    exact ⟨rfl, k1.out.1⟩

/-- What both tell of the water from a class on. -/
theorem atLeast_any (c : Nat → Nat) (hc : Amts c) (q : Int) (hq : 0 ≤ q ∧ q < 20) : ∃ (b : Nat) (ee : Int), (∀ w, Calls Try.prog 123 #[.agg (fls c), .int .i64 q] w fun e w' => e = .returned (.tuple #[.float .f32 b, .int .i64 ee]) ∧ Below w.heap.size w w') ∧ (∀ w, Calls Try.prog 122 #[.agg (fls c), .int .i64 q] w fun e w' => e = .returned (.tuple #[.float .f32 b, .int .i64 ee]) ∧ Below w.heap.size w w') ∧ (ee = 0 → b < INF) ∧ (ee ≠ 0 → ee = 4) := by
  obtain ⟨a, rfl⟩ := Int.eq_ofNat_of_zero_le hq.1
  have ha : a < 20 := by omega
  have hnn : nnB (sumA (wat c) a (19 - a)) = true := sumA_nn (19 - a) (fun i hi => wat_nn (by omega) (hc i (by omega)))
  have hI := iAtLeast_ok c hc a ha
  have hS := sAtLeast_ok c hc a ha
  rcases hf : finB (sumA (wat c) a (19 - a)) with _ | _
  · rw [told_f hf] at hI hS
    exact ⟨0, 4, hI, hS, fun h => by omega, fun _ => rfl⟩
  · rw [told_t hf] at hI hS
    exact ⟨_, 0, hI, hS, fun _ => amtB_iff.1 ((nn_amt hnn).trans hf), fun h => absurd rfl h⟩

theorem run_sRainMade4 (a : Act) (x0 : Operand) (v0 : Value) (h0 : a.eval x0 = v0) (x1 : Operand) (v1 : Value) (h1 : a.eval x1 = v1) (x2 : Operand) (v2 : Value) (h2 : a.eval x2 = v2) (x3 : Operand) (v3 : Value) (h3 : a.eval x3 = v3) (d : Option Tmp) (ats : Array TypeId) (t : TypeId) (ps : String) (af : Array Edge) (gd : Option (Nat × Bool)) (w : World) :
    (execOp a.eval ⟨d, .call { callee := .value (.func 50), args := #[x0, x1, x2, x3], argTypes := ats }, t, ps, af, gd⟩).run Try.prog w = .ok (.enter 50 #[v0, v1, v2, v3]) w := by
  subst h0 h1 h2 h3
  unfold execOp
  go_simp

theorem run_iRainMade4 (a : Act) (x0 : Operand) (v0 : Value) (h0 : a.eval x0 = v0) (x1 : Operand) (v1 : Value) (h1 : a.eval x1 = v1) (x2 : Operand) (v2 : Value) (h2 : a.eval x2 = v2) (x3 : Operand) (v3 : Value) (h3 : a.eval x3 = v3) (d : Option Tmp) (ats : Array TypeId) (t : TypeId) (ps : String) (af : Array Edge) (gd : Option (Nat × Bool)) (w : World) :
    (execOp a.eval ⟨d, .call { callee := .value (.func 51), args := #[x0, x1, x2, x3], argTypes := ats }, t, ps, af, gd⟩).run Try.prog w = .ok (.enter 51 #[v0, v1, v2, v3]) w := by
  subst h0 h1 h2 h3
  unfold execOp
  go_simp

set_option maxRecDepth 100000 in
set_option maxHeartbeats 2000000 in
theorem coreRainMade (x0 : Nat → Nat) (x1 : Nat → Nat) (x2 : Nat) (x3 : Int) (r0 : Nat) (hl0 : r0 < 4294967296) (hf0 : finB r0 = true) (r1 : Int)
    (hS : ∀ w, Calls Try.prog 50 #[.agg (fls x0), .agg (vls 400 (flw x1)), .float .f32 x2, .int .i64 x3] w fun e w' => e = .returned (.tuple #[.float .f32 r0, .int .i64 r1]) ∧ Below w.heap.size w w')
    (hI : ∀ w, Calls Try.prog 51 #[.agg (fls x0), .agg (vls 400 (flw x1)), .float .f32 x2, .int .i64 x3] w fun e w' => e = .returned (.tuple #[.float .f32 r0, .int .i64 r1]) ∧ Below w.heap.size w w') (w : World) :
    Calls Try.prog 11 #[.agg (fls x0), .agg (vls 400 (flw x1)), .float .f32 x2, .int .i64 x3] w fun e w' => e = .returned (.bool true) ∧ Below w.heap.size w w' := by
  have k0 : Hid (Kept w [(w.heap.size, fls x0, 56), (w.heap.size + 1, vls 400 (flw x1), 57)] ((w.alloc (.cells (fls x0) 56)).alloc (.cells (vls 400 (flw x1)) 57))) := hid ((((Kept.nil w).push (fls x0) 56).push (vls 400 (flw x1)) 57).sub (by simp))
  have HS := hid hS
  have HI := hid hI
  clear hS hI
  have hc0 := fun w => run_conv_wid (P := Try.prog) w 23 30 r0 hl0 Try.underlying23 Try.underlying30 (finB_iff.1 hf0)
  have Hl0 := hid hl0
  have Hf0 := hid hf0
  clear hl0 hf0
  go_enter Try.func11, Try.ntmps11
  go_wp2_with fail
  rename_i Q1 K1 hK1
  have key1 : ∀  (w1 : World), Hid (Kept w [(w.heap.size, fls x0, 56), (w.heap.size + 1, vls 400 (flw x1), 57)] w1) → K1 { tmps := (.agg (fls x0) :: .agg (vls 400 (flw x1)) :: .float .f32 x2 :: .int .i64 x3 :: .pointer (some ⟨w.heap.size, 0, none⟩) :: .pointer (some ⟨w.heap.size + 1, 0, none⟩) :: undef :: undef :: .bool false :: .float .f32 r0 :: .int .i64 r1 :: undef :: undef :: .tuple #[.float .f32 r0, .int .i64 r1] :: .agg (fls x0) :: .agg (fls x0) :: .agg (vls 400 (flw x1)) :: .agg (vls 400 (flw x1)) :: .float .f32 x2 :: .int .i64 x3 :: .tuple #[.float .f32 r0, .int .i64 r1] :: .float .f32 r0 :: .int .i64 r1 :: undef :: undef :: undef :: undef :: undef :: undef :: undef :: undef :: undef :: undef :: undef :: undef :: undef :: undef :: undef :: undef :: undef :: undef :: undef :: undef :: undef :: []).toArray, defers := [] } w1 := by
    intro  w1 k1
    clear k0
    go_wp2_with fail
    rename_i K2 hK2
    have key2 : ∀  (w2 : World), Hid (Kept w [(w.heap.size, fls x0, 56), (w.heap.size + 1, vls 400 (flw x1), 57)] w2) → K2 { tmps := (.agg (fls x0) :: .agg (vls 400 (flw x1)) :: .float .f32 x2 :: .int .i64 x3 :: .pointer (some ⟨w.heap.size, 0, none⟩) :: .pointer (some ⟨w.heap.size + 1, 0, none⟩) :: undef :: undef :: .bool false :: .float .f32 r0 :: .int .i64 r1 :: .float .f32 r0 :: .int .i64 r1 :: .tuple #[.float .f32 r0, .int .i64 r1] :: .agg (fls x0) :: .agg (fls x0) :: .agg (vls 400 (flw x1)) :: .agg (vls 400 (flw x1)) :: .float .f32 x2 :: .int .i64 x3 :: .tuple #[.float .f32 r0, .int .i64 r1] :: .float .f32 r0 :: .int .i64 r1 :: .tuple #[.float .f32 r0, .int .i64 r1] :: .agg (fls x0) :: .agg (fls x0) :: .agg (vls 400 (flw x1)) :: .agg (vls 400 (flw x1)) :: .float .f32 x2 :: .int .i64 x3 :: .tuple #[.float .f32 r0, .int .i64 r1] :: .float .f32 r0 :: .int .i64 r1 :: undef :: undef :: undef :: undef :: undef :: undef :: undef :: undef :: undef :: undef :: undef :: []).toArray, defers := [] } w2 := by
      intro  w2 k2
      clear k1 HS HI
      go_wp2_with fail
      refine (sameFloat r0 Hl0.out Hf0.out _).mono ?_
      rintro e w3 ⟨rfl, rfl⟩
      go_wp2
      all_goals go_ret
      all_goals exact ⟨rfl, k2.out.1⟩
    refine region_kept (w0 := w) (l := [(w.heap.size, fls x0, 56), (w.heap.size + 1, vls 400 (flw x1), 57)]) 12 #[false, false, false, false, false, false, false, false, false, false, false, false] (by kernel_rfl) rfl rfl ?_
    have kd := k1.out.drew
    clear k1
    generalize w1.drew = wd at kd ⊢
    refine take_load 0 { tmps := (.agg (fls x0) :: .agg (vls 400 (flw x1)) :: .float .f32 x2 :: .int .i64 x3 :: .pointer (some ⟨w.heap.size, 0, none⟩) :: .pointer (some ⟨w.heap.size + 1, 0, none⟩) :: undef :: undef :: .bool false :: .float .f32 r0 :: .int .i64 r1 :: undef :: undef :: .tuple #[.float .f32 r0, .int .i64 r1] :: .agg (fls x0) :: .agg (fls x0) :: .agg (vls 400 (flw x1)) :: .agg (vls 400 (flw x1)) :: .float .f32 x2 :: .int .i64 x3 :: .tuple #[.float .f32 r0, .int .i64 r1] :: .float .f32 r0 :: .int .i64 r1 :: undef :: .agg (fls x0) :: undef :: undef :: undef :: undef :: undef :: undef :: undef :: undef :: undef :: undef :: undef :: undef :: undef :: undef :: undef :: undef :: undef :: undef :: undef :: []).toArray, defers := [] } #[true, false, false, false, false, false, false, false, false, false, false, false] rfl (by rfl) (by kernel_rfl) (by kernel_rfl) (by kernel_rfl) 56 _ rfl (w.heap.size) (fls x0) 56 (by rfl) (by simp) _ Try.underlying56 rfl (by rw [fls_size]; exact info_a20) (by rfl) (by rfl) (kd) ?_
    refine take_load 2 { tmps := (.agg (fls x0) :: .agg (vls 400 (flw x1)) :: .float .f32 x2 :: .int .i64 x3 :: .pointer (some ⟨w.heap.size, 0, none⟩) :: .pointer (some ⟨w.heap.size + 1, 0, none⟩) :: undef :: undef :: .bool false :: .float .f32 r0 :: .int .i64 r1 :: undef :: undef :: .tuple #[.float .f32 r0, .int .i64 r1] :: .agg (fls x0) :: .agg (fls x0) :: .agg (vls 400 (flw x1)) :: .agg (vls 400 (flw x1)) :: .float .f32 x2 :: .int .i64 x3 :: .tuple #[.float .f32 r0, .int .i64 r1] :: .float .f32 r0 :: .int .i64 r1 :: undef :: .agg (fls x0) :: undef :: .agg (vls 400 (flw x1)) :: undef :: undef :: undef :: undef :: undef :: undef :: undef :: undef :: undef :: undef :: undef :: undef :: undef :: undef :: undef :: undef :: undef :: []).toArray, defers := [] } #[true, false, true, false, false, false, false, false, false, false, false, false] rfl (by rfl) (by kernel_rfl) (by kernel_rfl) (by kernel_rfl) 57 _ rfl (w.heap.size + 1) (vls 400 (flw x1)) 57 (by rfl) (by simp) _ Try.underlying57 rfl (by rw [vls_size]; exact info_k20) (by rfl) (by rfl) (kd) ?_
    refine take_val 4 { tmps := (.agg (fls x0) :: .agg (vls 400 (flw x1)) :: .float .f32 x2 :: .int .i64 x3 :: .pointer (some ⟨w.heap.size, 0, none⟩) :: .pointer (some ⟨w.heap.size + 1, 0, none⟩) :: undef :: undef :: .bool false :: .float .f32 r0 :: .int .i64 r1 :: undef :: undef :: .tuple #[.float .f32 r0, .int .i64 r1] :: .agg (fls x0) :: .agg (fls x0) :: .agg (vls 400 (flw x1)) :: .agg (vls 400 (flw x1)) :: .float .f32 x2 :: .int .i64 x3 :: .tuple #[.float .f32 r0, .int .i64 r1] :: .float .f32 r0 :: .int .i64 r1 :: undef :: .agg (fls x0) :: undef :: .agg (vls 400 (flw x1)) :: undef :: .float .f32 x2 :: undef :: undef :: undef :: undef :: undef :: undef :: undef :: undef :: undef :: undef :: undef :: undef :: undef :: undef :: undef :: []).toArray, defers := [] } #[true, false, true, false, true, false, false, false, false, false, false, false] (.float .f32 x2) rfl (by rfl) (by kernel_rfl) (by kernel_rfl) (by kernel_rfl) (fun w => by rfl) (by rfl) (by rfl) (kd) ?_
    refine take_val 5 { tmps := (.agg (fls x0) :: .agg (vls 400 (flw x1)) :: .float .f32 x2 :: .int .i64 x3 :: .pointer (some ⟨w.heap.size, 0, none⟩) :: .pointer (some ⟨w.heap.size + 1, 0, none⟩) :: undef :: undef :: .bool false :: .float .f32 r0 :: .int .i64 r1 :: undef :: undef :: .tuple #[.float .f32 r0, .int .i64 r1] :: .agg (fls x0) :: .agg (fls x0) :: .agg (vls 400 (flw x1)) :: .agg (vls 400 (flw x1)) :: .float .f32 x2 :: .int .i64 x3 :: .tuple #[.float .f32 r0, .int .i64 r1] :: .float .f32 r0 :: .int .i64 r1 :: undef :: .agg (fls x0) :: undef :: .agg (vls 400 (flw x1)) :: undef :: .float .f32 x2 :: .int .i64 x3 :: undef :: undef :: undef :: undef :: undef :: undef :: undef :: undef :: undef :: undef :: undef :: undef :: undef :: undef :: []).toArray, defers := [] } #[true, false, true, false, true, true, false, false, false, false, false, false] (.int .i64 x3) rfl (by rfl) (by kernel_rfl) (by kernel_rfl) (by kernel_rfl) (fun w => by rfl) (by rfl) (by rfl) (kd) ?_
    refine wpAnyH_ready (rs := [1]) (by kernel_rfl) (by simp) ?_
    refine callK 1 { tmps := (.agg (fls x0) :: .agg (vls 400 (flw x1)) :: .float .f32 x2 :: .int .i64 x3 :: .pointer (some ⟨w.heap.size, 0, none⟩) :: .pointer (some ⟨w.heap.size + 1, 0, none⟩) :: undef :: undef :: .bool false :: .float .f32 r0 :: .int .i64 r1 :: undef :: undef :: .tuple #[.float .f32 r0, .int .i64 r1] :: .agg (fls x0) :: .agg (fls x0) :: .agg (vls 400 (flw x1)) :: .agg (vls 400 (flw x1)) :: .float .f32 x2 :: .int .i64 x3 :: .tuple #[.float .f32 r0, .int .i64 r1] :: .float .f32 r0 :: .int .i64 r1 :: undef :: .agg (fls x0) :: .agg (fls x0) :: .agg (vls 400 (flw x1)) :: undef :: .float .f32 x2 :: .int .i64 x3 :: undef :: undef :: undef :: undef :: undef :: undef :: undef :: undef :: undef :: undef :: undef :: undef :: undef :: undef :: []).toArray, defers := [] } #[true, true, true, false, true, true, false, false, false, false, false, false] (.agg (fls x0)) kd rfl (by rfl) 39 #[.agg (fls x0)] (run_toSizes1 _ _ _ rfl _ _ _ _ _ _) (by rfl) (by rfl) (toSizes _ _) (fun w1 k1 => ?_) AllReadyH.nil
    refine ⟨k1, ?_⟩
    refine wpAnyH_ready (rs := [3]) (by kernel_rfl) (by simp) ?_
    refine callK 3 { tmps := (.agg (fls x0) :: .agg (vls 400 (flw x1)) :: .float .f32 x2 :: .int .i64 x3 :: .pointer (some ⟨w.heap.size, 0, none⟩) :: .pointer (some ⟨w.heap.size + 1, 0, none⟩) :: undef :: undef :: .bool false :: .float .f32 r0 :: .int .i64 r1 :: undef :: undef :: .tuple #[.float .f32 r0, .int .i64 r1] :: .agg (fls x0) :: .agg (fls x0) :: .agg (vls 400 (flw x1)) :: .agg (vls 400 (flw x1)) :: .float .f32 x2 :: .int .i64 x3 :: .tuple #[.float .f32 r0, .int .i64 r1] :: .float .f32 r0 :: .int .i64 r1 :: undef :: .agg (fls x0) :: .agg (fls x0) :: .agg (vls 400 (flw x1)) :: .agg (vls 400 (flw x1)) :: .float .f32 x2 :: .int .i64 x3 :: undef :: undef :: undef :: undef :: undef :: undef :: undef :: undef :: undef :: undef :: undef :: undef :: undef :: undef :: []).toArray, defers := [] } #[true, true, true, true, true, true, false, false, false, false, false, false] (.agg (vls 400 (flw x1))) k1 rfl (by rfl) 40 #[.agg (vls 400 (flw x1))] (run_toKernel1 _ _ _ rfl _ _ _ _ _ _) (by rfl) (by rfl) (toKernel _ _) (fun w2 k2 => ?_) AllReadyH.nil
    refine ⟨k2, ?_⟩
    refine wpAnyH_ready (rs := [6]) (by kernel_rfl) (by simp) ?_
    refine callK 6 { tmps := (.agg (fls x0) :: .agg (vls 400 (flw x1)) :: .float .f32 x2 :: .int .i64 x3 :: .pointer (some ⟨w.heap.size, 0, none⟩) :: .pointer (some ⟨w.heap.size + 1, 0, none⟩) :: undef :: undef :: .bool false :: .float .f32 r0 :: .int .i64 r1 :: undef :: undef :: .tuple #[.float .f32 r0, .int .i64 r1] :: .agg (fls x0) :: .agg (fls x0) :: .agg (vls 400 (flw x1)) :: .agg (vls 400 (flw x1)) :: .float .f32 x2 :: .int .i64 x3 :: .tuple #[.float .f32 r0, .int .i64 r1] :: .float .f32 r0 :: .int .i64 r1 :: undef :: .agg (fls x0) :: .agg (fls x0) :: .agg (vls 400 (flw x1)) :: .agg (vls 400 (flw x1)) :: .float .f32 x2 :: .int .i64 x3 :: .tuple #[.float .f32 r0, .int .i64 r1] :: undef :: undef :: undef :: undef :: undef :: undef :: undef :: undef :: undef :: undef :: undef :: undef :: undef :: []).toArray, defers := [] } #[true, true, true, true, true, true, true, false, false, false, false, false] (.tuple #[.float .f32 r0, .int .i64 r1]) k2 rfl (by rfl) 51 #[.agg (fls x0), .agg (vls 400 (flw x1)), .float .f32 x2, .int .i64 x3] (run_iRainMade4 _ _ _ rfl _ _ rfl _ _ rfl _ _ rfl _ _ _ _ _ _) (by rfl) (by rfl) (HI.out _) (fun w3 k3 => ?_) AllReadyH.nil
    refine ⟨k3, ?_⟩
    refine take_val 7 { tmps := (.agg (fls x0) :: .agg (vls 400 (flw x1)) :: .float .f32 x2 :: .int .i64 x3 :: .pointer (some ⟨w.heap.size, 0, none⟩) :: .pointer (some ⟨w.heap.size + 1, 0, none⟩) :: undef :: undef :: .bool false :: .float .f32 r0 :: .int .i64 r1 :: undef :: undef :: .tuple #[.float .f32 r0, .int .i64 r1] :: .agg (fls x0) :: .agg (fls x0) :: .agg (vls 400 (flw x1)) :: .agg (vls 400 (flw x1)) :: .float .f32 x2 :: .int .i64 x3 :: .tuple #[.float .f32 r0, .int .i64 r1] :: .float .f32 r0 :: .int .i64 r1 :: .tuple #[.float .f32 r0, .int .i64 r1] :: .agg (fls x0) :: .agg (fls x0) :: .agg (vls 400 (flw x1)) :: .agg (vls 400 (flw x1)) :: .float .f32 x2 :: .int .i64 x3 :: .tuple #[.float .f32 r0, .int .i64 r1] :: undef :: undef :: undef :: undef :: undef :: undef :: undef :: undef :: undef :: undef :: undef :: undef :: undef :: []).toArray, defers := [] } #[true, true, true, true, true, true, true, true, false, false, false, false] (.tuple #[.float .f32 r0, .int .i64 r1]) rfl (by rfl) (by kernel_rfl) (by kernel_rfl) (by kernel_rfl) (fun w => by rfl) (by rfl) (by rfl) (k3) ?_
    refine take_val 8 { tmps := (.agg (fls x0) :: .agg (vls 400 (flw x1)) :: .float .f32 x2 :: .int .i64 x3 :: .pointer (some ⟨w.heap.size, 0, none⟩) :: .pointer (some ⟨w.heap.size + 1, 0, none⟩) :: undef :: undef :: .bool false :: .float .f32 r0 :: .int .i64 r1 :: undef :: undef :: .tuple #[.float .f32 r0, .int .i64 r1] :: .agg (fls x0) :: .agg (fls x0) :: .agg (vls 400 (flw x1)) :: .agg (vls 400 (flw x1)) :: .float .f32 x2 :: .int .i64 x3 :: .tuple #[.float .f32 r0, .int .i64 r1] :: .float .f32 r0 :: .int .i64 r1 :: .tuple #[.float .f32 r0, .int .i64 r1] :: .agg (fls x0) :: .agg (fls x0) :: .agg (vls 400 (flw x1)) :: .agg (vls 400 (flw x1)) :: .float .f32 x2 :: .int .i64 x3 :: .tuple #[.float .f32 r0, .int .i64 r1] :: .float .f32 r0 :: undef :: undef :: undef :: undef :: undef :: undef :: undef :: undef :: undef :: undef :: undef :: undef :: []).toArray, defers := [] } #[true, true, true, true, true, true, true, true, true, false, false, false] (.float .f32 r0) rfl (by rfl) (by kernel_rfl) (by kernel_rfl) (by kernel_rfl) (fun w => by rfl) (by rfl) (by rfl) (k3) ?_
    refine take_val 9 { tmps := (.agg (fls x0) :: .agg (vls 400 (flw x1)) :: .float .f32 x2 :: .int .i64 x3 :: .pointer (some ⟨w.heap.size, 0, none⟩) :: .pointer (some ⟨w.heap.size + 1, 0, none⟩) :: undef :: undef :: .bool false :: .float .f32 r0 :: .int .i64 r1 :: undef :: undef :: .tuple #[.float .f32 r0, .int .i64 r1] :: .agg (fls x0) :: .agg (fls x0) :: .agg (vls 400 (flw x1)) :: .agg (vls 400 (flw x1)) :: .float .f32 x2 :: .int .i64 x3 :: .tuple #[.float .f32 r0, .int .i64 r1] :: .float .f32 r0 :: .int .i64 r1 :: .tuple #[.float .f32 r0, .int .i64 r1] :: .agg (fls x0) :: .agg (fls x0) :: .agg (vls 400 (flw x1)) :: .agg (vls 400 (flw x1)) :: .float .f32 x2 :: .int .i64 x3 :: .tuple #[.float .f32 r0, .int .i64 r1] :: .float .f32 r0 :: .int .i64 r1 :: undef :: undef :: undef :: undef :: undef :: undef :: undef :: undef :: undef :: undef :: undef :: []).toArray, defers := [] } #[true, true, true, true, true, true, true, true, true, true, false, false] (.int .i64 r1) rfl (by rfl) (by kernel_rfl) (by kernel_rfl) (by kernel_rfl) (fun w => by rfl) (by rfl) (by rfl) (k3) ?_
    refine take_val 10 { tmps := (.agg (fls x0) :: .agg (vls 400 (flw x1)) :: .float .f32 x2 :: .int .i64 x3 :: .pointer (some ⟨w.heap.size, 0, none⟩) :: .pointer (some ⟨w.heap.size + 1, 0, none⟩) :: undef :: undef :: .bool false :: .float .f32 r0 :: .int .i64 r1 :: .float .f32 r0 :: undef :: .tuple #[.float .f32 r0, .int .i64 r1] :: .agg (fls x0) :: .agg (fls x0) :: .agg (vls 400 (flw x1)) :: .agg (vls 400 (flw x1)) :: .float .f32 x2 :: .int .i64 x3 :: .tuple #[.float .f32 r0, .int .i64 r1] :: .float .f32 r0 :: .int .i64 r1 :: .tuple #[.float .f32 r0, .int .i64 r1] :: .agg (fls x0) :: .agg (fls x0) :: .agg (vls 400 (flw x1)) :: .agg (vls 400 (flw x1)) :: .float .f32 x2 :: .int .i64 x3 :: .tuple #[.float .f32 r0, .int .i64 r1] :: .float .f32 r0 :: .int .i64 r1 :: undef :: undef :: undef :: undef :: undef :: undef :: undef :: undef :: undef :: undef :: undef :: []).toArray, defers := [] } #[true, true, true, true, true, true, true, true, true, true, true, false] (.float .f32 r0) rfl (by rfl) (by kernel_rfl) (by kernel_rfl) (by kernel_rfl) (fun w => by rfl) (by rfl) (by rfl) (k3) ?_
    refine take_val 11 { tmps := (.agg (fls x0) :: .agg (vls 400 (flw x1)) :: .float .f32 x2 :: .int .i64 x3 :: .pointer (some ⟨w.heap.size, 0, none⟩) :: .pointer (some ⟨w.heap.size + 1, 0, none⟩) :: undef :: undef :: .bool false :: .float .f32 r0 :: .int .i64 r1 :: .float .f32 r0 :: .int .i64 r1 :: .tuple #[.float .f32 r0, .int .i64 r1] :: .agg (fls x0) :: .agg (fls x0) :: .agg (vls 400 (flw x1)) :: .agg (vls 400 (flw x1)) :: .float .f32 x2 :: .int .i64 x3 :: .tuple #[.float .f32 r0, .int .i64 r1] :: .float .f32 r0 :: .int .i64 r1 :: .tuple #[.float .f32 r0, .int .i64 r1] :: .agg (fls x0) :: .agg (fls x0) :: .agg (vls 400 (flw x1)) :: .agg (vls 400 (flw x1)) :: .float .f32 x2 :: .int .i64 x3 :: .tuple #[.float .f32 r0, .int .i64 r1] :: .float .f32 r0 :: .int .i64 r1 :: undef :: undef :: undef :: undef :: undef :: undef :: undef :: undef :: undef :: undef :: undef :: []).toArray, defers := [] } #[true, true, true, true, true, true, true, true, true, true, true, true] (.int .i64 r1) rfl (by rfl) (by kernel_rfl) (by kernel_rfl) (by kernel_rfl) (fun w => by rfl) (by rfl) (by rfl) (k3) ?_
    exact wpAnyH_done (by kernel_rfl) (NoPanic.normal (key2  _ (hid k3))) _
  refine region_kept (w0 := w) (l := [(w.heap.size, fls x0, 56), (w.heap.size + 1, vls 400 (flw x1), 57)]) 12 #[false, false, false, false, false, false, false, false, false, false, false, false] (by kernel_rfl) rfl rfl ?_
  have kd := k0.out.drew
  clear k0
  generalize ((w.alloc (.cells (fls x0) 56)).alloc (.cells (vls 400 (flw x1)) 57)).drew = wd at kd ⊢
  refine take_load 0 { tmps := (.agg (fls x0) :: .agg (vls 400 (flw x1)) :: .float .f32 x2 :: .int .i64 x3 :: .pointer (some ⟨w.heap.size, 0, none⟩) :: .pointer (some ⟨w.heap.size + 1, 0, none⟩) :: undef :: undef :: .bool false :: undef :: undef :: undef :: undef :: undef :: .agg (fls x0) :: undef :: undef :: undef :: undef :: undef :: undef :: undef :: undef :: undef :: undef :: undef :: undef :: undef :: undef :: undef :: undef :: undef :: undef :: undef :: undef :: undef :: undef :: undef :: undef :: undef :: undef :: undef :: undef :: undef :: []).toArray, defers := [] } #[true, false, false, false, false, false, false, false, false, false, false, false] rfl (by rfl) (by kernel_rfl) (by kernel_rfl) (by kernel_rfl) 56 _ rfl (w.heap.size) (fls x0) 56 (by rfl) (by simp) _ Try.underlying56 rfl (by rw [fls_size]; exact info_a20) (by rfl) (by rfl) (kd) ?_
  refine take_load 2 { tmps := (.agg (fls x0) :: .agg (vls 400 (flw x1)) :: .float .f32 x2 :: .int .i64 x3 :: .pointer (some ⟨w.heap.size, 0, none⟩) :: .pointer (some ⟨w.heap.size + 1, 0, none⟩) :: undef :: undef :: .bool false :: undef :: undef :: undef :: undef :: undef :: .agg (fls x0) :: undef :: .agg (vls 400 (flw x1)) :: undef :: undef :: undef :: undef :: undef :: undef :: undef :: undef :: undef :: undef :: undef :: undef :: undef :: undef :: undef :: undef :: undef :: undef :: undef :: undef :: undef :: undef :: undef :: undef :: undef :: undef :: undef :: []).toArray, defers := [] } #[true, false, true, false, false, false, false, false, false, false, false, false] rfl (by rfl) (by kernel_rfl) (by kernel_rfl) (by kernel_rfl) 57 _ rfl (w.heap.size + 1) (vls 400 (flw x1)) 57 (by rfl) (by simp) _ Try.underlying57 rfl (by rw [vls_size]; exact info_k20) (by rfl) (by rfl) (kd) ?_
  refine take_val 4 { tmps := (.agg (fls x0) :: .agg (vls 400 (flw x1)) :: .float .f32 x2 :: .int .i64 x3 :: .pointer (some ⟨w.heap.size, 0, none⟩) :: .pointer (some ⟨w.heap.size + 1, 0, none⟩) :: undef :: undef :: .bool false :: undef :: undef :: undef :: undef :: undef :: .agg (fls x0) :: undef :: .agg (vls 400 (flw x1)) :: undef :: .float .f32 x2 :: undef :: undef :: undef :: undef :: undef :: undef :: undef :: undef :: undef :: undef :: undef :: undef :: undef :: undef :: undef :: undef :: undef :: undef :: undef :: undef :: undef :: undef :: undef :: undef :: undef :: []).toArray, defers := [] } #[true, false, true, false, true, false, false, false, false, false, false, false] (.float .f32 x2) rfl (by rfl) (by kernel_rfl) (by kernel_rfl) (by kernel_rfl) (fun w => by rfl) (by rfl) (by rfl) (kd) ?_
  refine take_val 5 { tmps := (.agg (fls x0) :: .agg (vls 400 (flw x1)) :: .float .f32 x2 :: .int .i64 x3 :: .pointer (some ⟨w.heap.size, 0, none⟩) :: .pointer (some ⟨w.heap.size + 1, 0, none⟩) :: undef :: undef :: .bool false :: undef :: undef :: undef :: undef :: undef :: .agg (fls x0) :: undef :: .agg (vls 400 (flw x1)) :: undef :: .float .f32 x2 :: .int .i64 x3 :: undef :: undef :: undef :: undef :: undef :: undef :: undef :: undef :: undef :: undef :: undef :: undef :: undef :: undef :: undef :: undef :: undef :: undef :: undef :: undef :: undef :: undef :: undef :: undef :: []).toArray, defers := [] } #[true, false, true, false, true, true, false, false, false, false, false, false] (.int .i64 x3) rfl (by rfl) (by kernel_rfl) (by kernel_rfl) (by kernel_rfl) (fun w => by rfl) (by rfl) (by rfl) (kd) ?_
  refine wpAnyH_ready (rs := [1]) (by kernel_rfl) (by simp) ?_
  refine callK 1 { tmps := (.agg (fls x0) :: .agg (vls 400 (flw x1)) :: .float .f32 x2 :: .int .i64 x3 :: .pointer (some ⟨w.heap.size, 0, none⟩) :: .pointer (some ⟨w.heap.size + 1, 0, none⟩) :: undef :: undef :: .bool false :: undef :: undef :: undef :: undef :: undef :: .agg (fls x0) :: .agg (fls x0) :: .agg (vls 400 (flw x1)) :: undef :: .float .f32 x2 :: .int .i64 x3 :: undef :: undef :: undef :: undef :: undef :: undef :: undef :: undef :: undef :: undef :: undef :: undef :: undef :: undef :: undef :: undef :: undef :: undef :: undef :: undef :: undef :: undef :: undef :: undef :: []).toArray, defers := [] } #[true, true, true, false, true, true, false, false, false, false, false, false] (.agg (fls x0)) kd rfl (by rfl) 39 #[.agg (fls x0)] (run_toSizes1 _ _ _ rfl _ _ _ _ _ _) (by rfl) (by rfl) (toSizes _ _) (fun w1 k1 => ?_) AllReadyH.nil
  refine ⟨k1, ?_⟩
  refine wpAnyH_ready (rs := [3]) (by kernel_rfl) (by simp) ?_
  refine callK 3 { tmps := (.agg (fls x0) :: .agg (vls 400 (flw x1)) :: .float .f32 x2 :: .int .i64 x3 :: .pointer (some ⟨w.heap.size, 0, none⟩) :: .pointer (some ⟨w.heap.size + 1, 0, none⟩) :: undef :: undef :: .bool false :: undef :: undef :: undef :: undef :: undef :: .agg (fls x0) :: .agg (fls x0) :: .agg (vls 400 (flw x1)) :: .agg (vls 400 (flw x1)) :: .float .f32 x2 :: .int .i64 x3 :: undef :: undef :: undef :: undef :: undef :: undef :: undef :: undef :: undef :: undef :: undef :: undef :: undef :: undef :: undef :: undef :: undef :: undef :: undef :: undef :: undef :: undef :: undef :: undef :: []).toArray, defers := [] } #[true, true, true, true, true, true, false, false, false, false, false, false] (.agg (vls 400 (flw x1))) k1 rfl (by rfl) 40 #[.agg (vls 400 (flw x1))] (run_toKernel1 _ _ _ rfl _ _ _ _ _ _) (by rfl) (by rfl) (toKernel _ _) (fun w2 k2 => ?_) AllReadyH.nil
  refine ⟨k2, ?_⟩
  refine wpAnyH_ready (rs := [6]) (by kernel_rfl) (by simp) ?_
  refine callK 6 { tmps := (.agg (fls x0) :: .agg (vls 400 (flw x1)) :: .float .f32 x2 :: .int .i64 x3 :: .pointer (some ⟨w.heap.size, 0, none⟩) :: .pointer (some ⟨w.heap.size + 1, 0, none⟩) :: undef :: undef :: .bool false :: undef :: undef :: undef :: undef :: undef :: .agg (fls x0) :: .agg (fls x0) :: .agg (vls 400 (flw x1)) :: .agg (vls 400 (flw x1)) :: .float .f32 x2 :: .int .i64 x3 :: .tuple #[.float .f32 r0, .int .i64 r1] :: undef :: undef :: undef :: undef :: undef :: undef :: undef :: undef :: undef :: undef :: undef :: undef :: undef :: undef :: undef :: undef :: undef :: undef :: undef :: undef :: undef :: undef :: undef :: []).toArray, defers := [] } #[true, true, true, true, true, true, true, false, false, false, false, false] (.tuple #[.float .f32 r0, .int .i64 r1]) k2 rfl (by rfl) 50 #[.agg (fls x0), .agg (vls 400 (flw x1)), .float .f32 x2, .int .i64 x3] (run_sRainMade4 _ _ _ rfl _ _ rfl _ _ rfl _ _ rfl _ _ _ _ _ _) (by rfl) (by rfl) (HS.out _) (fun w3 k3 => ?_) AllReadyH.nil
  refine ⟨k3, ?_⟩
  refine take_val 7 { tmps := (.agg (fls x0) :: .agg (vls 400 (flw x1)) :: .float .f32 x2 :: .int .i64 x3 :: .pointer (some ⟨w.heap.size, 0, none⟩) :: .pointer (some ⟨w.heap.size + 1, 0, none⟩) :: undef :: undef :: .bool false :: undef :: undef :: undef :: undef :: .tuple #[.float .f32 r0, .int .i64 r1] :: .agg (fls x0) :: .agg (fls x0) :: .agg (vls 400 (flw x1)) :: .agg (vls 400 (flw x1)) :: .float .f32 x2 :: .int .i64 x3 :: .tuple #[.float .f32 r0, .int .i64 r1] :: undef :: undef :: undef :: undef :: undef :: undef :: undef :: undef :: undef :: undef :: undef :: undef :: undef :: undef :: undef :: undef :: undef :: undef :: undef :: undef :: undef :: undef :: undef :: []).toArray, defers := [] } #[true, true, true, true, true, true, true, true, false, false, false, false] (.tuple #[.float .f32 r0, .int .i64 r1]) rfl (by rfl) (by kernel_rfl) (by kernel_rfl) (by kernel_rfl) (fun w => by rfl) (by rfl) (by rfl) (k3) ?_
  refine take_val 8 { tmps := (.agg (fls x0) :: .agg (vls 400 (flw x1)) :: .float .f32 x2 :: .int .i64 x3 :: .pointer (some ⟨w.heap.size, 0, none⟩) :: .pointer (some ⟨w.heap.size + 1, 0, none⟩) :: undef :: undef :: .bool false :: undef :: undef :: undef :: undef :: .tuple #[.float .f32 r0, .int .i64 r1] :: .agg (fls x0) :: .agg (fls x0) :: .agg (vls 400 (flw x1)) :: .agg (vls 400 (flw x1)) :: .float .f32 x2 :: .int .i64 x3 :: .tuple #[.float .f32 r0, .int .i64 r1] :: .float .f32 r0 :: undef :: undef :: undef :: undef :: undef :: undef :: undef :: undef :: undef :: undef :: undef :: undef :: undef :: undef :: undef :: undef :: undef :: undef :: undef :: undef :: undef :: undef :: []).toArray, defers := [] } #[true, true, true, true, true, true, true, true, true, false, false, false] (.float .f32 r0) rfl (by rfl) (by kernel_rfl) (by kernel_rfl) (by kernel_rfl) (fun w => by rfl) (by rfl) (by rfl) (k3) ?_
  refine take_val 9 { tmps := (.agg (fls x0) :: .agg (vls 400 (flw x1)) :: .float .f32 x2 :: .int .i64 x3 :: .pointer (some ⟨w.heap.size, 0, none⟩) :: .pointer (some ⟨w.heap.size + 1, 0, none⟩) :: undef :: undef :: .bool false :: undef :: undef :: undef :: undef :: .tuple #[.float .f32 r0, .int .i64 r1] :: .agg (fls x0) :: .agg (fls x0) :: .agg (vls 400 (flw x1)) :: .agg (vls 400 (flw x1)) :: .float .f32 x2 :: .int .i64 x3 :: .tuple #[.float .f32 r0, .int .i64 r1] :: .float .f32 r0 :: .int .i64 r1 :: undef :: undef :: undef :: undef :: undef :: undef :: undef :: undef :: undef :: undef :: undef :: undef :: undef :: undef :: undef :: undef :: undef :: undef :: undef :: undef :: undef :: []).toArray, defers := [] } #[true, true, true, true, true, true, true, true, true, true, false, false] (.int .i64 r1) rfl (by rfl) (by kernel_rfl) (by kernel_rfl) (by kernel_rfl) (fun w => by rfl) (by rfl) (by rfl) (k3) ?_
  refine take_val 10 { tmps := (.agg (fls x0) :: .agg (vls 400 (flw x1)) :: .float .f32 x2 :: .int .i64 x3 :: .pointer (some ⟨w.heap.size, 0, none⟩) :: .pointer (some ⟨w.heap.size + 1, 0, none⟩) :: undef :: undef :: .bool false :: .float .f32 r0 :: undef :: undef :: undef :: .tuple #[.float .f32 r0, .int .i64 r1] :: .agg (fls x0) :: .agg (fls x0) :: .agg (vls 400 (flw x1)) :: .agg (vls 400 (flw x1)) :: .float .f32 x2 :: .int .i64 x3 :: .tuple #[.float .f32 r0, .int .i64 r1] :: .float .f32 r0 :: .int .i64 r1 :: undef :: undef :: undef :: undef :: undef :: undef :: undef :: undef :: undef :: undef :: undef :: undef :: undef :: undef :: undef :: undef :: undef :: undef :: undef :: undef :: undef :: []).toArray, defers := [] } #[true, true, true, true, true, true, true, true, true, true, true, false] (.float .f32 r0) rfl (by rfl) (by kernel_rfl) (by kernel_rfl) (by kernel_rfl) (fun w => by rfl) (by rfl) (by rfl) (k3) ?_
  refine take_val 11 { tmps := (.agg (fls x0) :: .agg (vls 400 (flw x1)) :: .float .f32 x2 :: .int .i64 x3 :: .pointer (some ⟨w.heap.size, 0, none⟩) :: .pointer (some ⟨w.heap.size + 1, 0, none⟩) :: undef :: undef :: .bool false :: .float .f32 r0 :: .int .i64 r1 :: undef :: undef :: .tuple #[.float .f32 r0, .int .i64 r1] :: .agg (fls x0) :: .agg (fls x0) :: .agg (vls 400 (flw x1)) :: .agg (vls 400 (flw x1)) :: .float .f32 x2 :: .int .i64 x3 :: .tuple #[.float .f32 r0, .int .i64 r1] :: .float .f32 r0 :: .int .i64 r1 :: undef :: undef :: undef :: undef :: undef :: undef :: undef :: undef :: undef :: undef :: undef :: undef :: undef :: undef :: undef :: undef :: undef :: undef :: undef :: undef :: undef :: []).toArray, defers := [] } #[true, true, true, true, true, true, true, true, true, true, true, true] (.int .i64 r1) rfl (by rfl) (by kernel_rfl) (by kernel_rfl) (by kernel_rfl) (fun w => by rfl) (by rfl) (by rfl) (k3) ?_
  exact wpAnyH_done (by kernel_rfl) (NoPanic.normal (key1  _ (hid k3))) _

theorem lawRainMade (c : Nat → Nat) (hw : ∀ i, i < 20 → c i < 4294967296) (kk : Nat → Nat) (hb : ∀ i, i < 400 → kk i < 4294967296) (t : Nat) (hl : t < 4294967296) (q : Int) (_h1 : -9223372036854775808 ≤ q) (_h2 : q ≤ 9223372036854775807) (w : World) :
    Calls Try.prog 11 #[.agg (fls c), .agg (vls 400 (flw kk)), .float .f32 t, .int .i64 q] w fun e w' => e = .returned (.bool true) ∧ Below w.heap.size w w' := by
  have z0 : (0 : Nat) < 4294967296 := by decide
  have f0 : finB 0 = true := by decide
  by_cases h : Amts c ∧ KOk kk ∧ amtB t = true
  · obtain ⟨hc, hk, ht⟩ := h
    have hS0 := fun gc gk T1 T2 w h1 h2 => sColl_ok c kk t hc hb hk (amt_lt ht) true ht gc gk T1 T2 w h1 h2
    have hI0 := iColl_ok c kk t hc hb hk (amt_lt ht) true ht
    rw [if_pos rfl] at hI0
    simp only [if_true] at hS0
    obtain ⟨res, n, hI, hS, g0, g1⟩ := collide_in c kk t hc hb hk ht
    by_cases hq : 0 ≤ q ∧ q < 20
    · obtain ⟨b0, e0, i0, s0, x0, y0⟩ := atLeast_any c hc q hq
      by_cases hn : n = 0
      · obtain ⟨b1, e1, i1, s1, x1, y1⟩ := atLeast_any res (g0 hn) q hq
        by_cases he0 : e0 = 0
        · by_cases he1 : e1 = 0
          · have hsp := spend_amt (v := b1) (g := b0) (x1 he1)
            exact coreRainMade c kk t q (spendF b1 b0) (amt_lt hsp) (amt_fin hsp) 0
              (sRain c kk t q 0 hS0 b0 e0 (fun _ => s0) res n (fun _ => hS) b1 e1 (fun _ _ => s1) _ 0 (fun h => absurd rfl h) (fun _ h => absurd hq h) (fun _ _ h => absurd hn h) (fun _ _ _ h => absurd he0 h) (fun _ _ _ _ h => absurd he1 h) (fun _ _ _ _ _ => ⟨x0 he0, x1 he1, rfl, rfl⟩))
              (iRain c kk t q 0 hI0 b0 e0 (fun _ => i0) res n (fun _ => hI) b1 e1 (fun _ _ => i1) _ 0 (fun h => absurd rfl h) (fun _ h => absurd he0 h) (fun _ _ h => absurd hn h) (fun _ _ _ h => absurd he1 h) (fun _ _ _ _ => ⟨x0 he0, x1 he1, rfl, rfl⟩)) w
          · exact coreRainMade c kk t q 0 z0 f0 e1
              (sRain c kk t q 0 hS0 b0 e0 (fun _ => s0) res n (fun _ => hS) b1 e1 (fun _ _ => s1) _ e1 (fun h => absurd rfl h) (fun _ h => absurd hq h) (fun _ _ h => absurd hn h) (fun _ _ _ h => absurd he0 h) (fun _ _ _ _ _ => ⟨rfl, rfl⟩) (fun _ _ _ _ h => absurd h he1))
              (iRain c kk t q 0 hI0 b0 e0 (fun _ => i0) res n (fun _ => hI) b1 e1 (fun _ _ => i1) _ e1 (fun h => absurd rfl h) (fun _ h => absurd he0 h) (fun _ _ h => absurd hn h) (fun _ _ _ _ => ⟨rfl, rfl⟩) (fun _ _ _ h => absurd h he1)) w
        · exact coreRainMade c kk t q 0 z0 f0 e0
            (sRain c kk t q 0 hS0 b0 e0 (fun _ => s0) res n (fun _ => hS) b1 e1 (fun _ _ => s1) _ e0 (fun h => absurd rfl h) (fun _ h => absurd hq h) (fun _ _ h => absurd hn h) (fun _ _ _ _ => ⟨rfl, rfl⟩) (fun _ _ _ h => absurd h he0) (fun _ _ _ h => absurd h he0))
            (iRain c kk t q 0 hI0 b0 e0 (fun _ => i0) res n (fun _ => hI) b1 e1 (fun _ _ => i1) _ e0 (fun h => absurd rfl h) (fun _ _ => ⟨rfl, rfl⟩) (fun _ h => absurd h he0) (fun _ h => absurd h he0) (fun _ h => absurd h he0)) w
      · obtain ⟨rfl, _⟩ := g1 hn
        by_cases he0 : e0 = 0
        · exact coreRainMade c kk t q 0 z0 f0 4
            (sRain c kk t q 0 hS0 b0 e0 (fun _ => s0) res 4 (fun _ => hS) 0 0 (fun _ h => absurd h hn) _ 4 (fun h => absurd rfl h) (fun _ h => absurd hq h) (fun _ _ _ => ⟨rfl, rfl⟩) (fun _ _ h => absurd h hn) (fun _ _ h => absurd h hn) (fun _ _ h => absurd h hn))
            (iRain c kk t q 0 hI0 b0 e0 (fun _ => i0) res 4 (fun _ => hI) 0 0 (fun _ h => absurd h hn) _ 4 (fun h => absurd rfl h) (fun _ h => absurd he0 h) (fun _ _ _ => ⟨rfl, rfl⟩) (fun _ _ h => absurd h hn) (fun _ _ h => absurd h hn)) w
        · obtain rfl := y0 he0
          exact coreRainMade c kk t q 0 z0 f0 4
            (sRain c kk t q 0 hS0 b0 4 (fun _ => s0) res 4 (fun _ => hS) 0 0 (fun _ h => absurd h hn) _ 4 (fun h => absurd rfl h) (fun _ h => absurd hq h) (fun _ _ _ => ⟨rfl, rfl⟩) (fun _ _ h => absurd h hn) (fun _ _ h => absurd h hn) (fun _ _ h => absurd h hn))
            (iRain c kk t q 0 hI0 b0 4 (fun _ => i0) res 4 (fun _ => hI) 0 0 (fun _ h => absurd h hn) _ 4 (fun h => absurd rfl h) (fun _ _ => ⟨rfl, rfl⟩) (fun _ h => absurd h he0) (fun _ h => absurd h he0) (fun _ h => absurd h he0)) w
    · exact coreRainMade c kk t q 0 z0 f0 2
        (sRain c kk t q 0 hS0 0 2 (fun _ => sAtLeast_range c hc q hq) res n (fun _ => hS) 0 2 (fun _ h => sAtLeast_range res (g0 h) q hq) _ 2 (fun h => absurd rfl h) (fun _ _ => ⟨rfl, rfl⟩) (fun _ h => absurd h hq) (fun _ h => absurd h hq) (fun _ h => absurd h hq) (fun _ h => absurd h hq))
        (iRain c kk t q 0 hI0 0 2 (fun _ => iAtLeast_range c hc q hq) res n (fun _ => hI) 0 2 (fun _ h => iAtLeast_range res (g0 h) q hq) _ 2 (fun h => absurd rfl h) (fun _ _ => ⟨rfl, rfl⟩) (fun _ h => absurd h (by decide)) (fun _ h => absurd h (by decide)) (fun _ h => absurd h (by decide))) w
  · obtain ⟨p, hp, hS, hI⟩ := ask_cases c kk hw hb t hl h
    have hpz : p ≠ 0 := by omega
    exact coreRainMade c kk t q 0 z0 f0 p
      (sRain c kk t q p hS 0 0 (fun h => absurd h hpz) c 0 (fun h => absurd h hpz) 0 0 (fun h => absurd h hpz) _ p (fun _ => ⟨rfl, rfl⟩) (fun h => absurd h hpz) (fun h => absurd h hpz) (fun h => absurd h hpz) (fun h => absurd h hpz) (fun h => absurd h hpz))
      (iRain c kk t q p hI 0 0 (fun h => absurd h hpz) c 0 (fun h => absurd h hpz) 0 0 (fun h => absurd h hpz) _ p (fun _ => ⟨rfl, rfl⟩) (fun h => absurd h hpz) (fun h => absurd h hpz) (fun h => absurd h hpz) (fun h => absurd h hpz)) w
end Go.Proofs.Ytgmcpbhjcfiikaa

namespace Go.Proofs.Ytgmcpbhjcfiikaa.fnExactRainMade
open Go.RowKit Go.Fl Go.ChangeShapes Go.WideShapes Go.ChangeAt

set_option maxHeartbeats 2000000 in
theorem closed : joinedFacts Try.prog 11 Try.f11 Rows.fnExactRainMadeSpec Rows.fnExactRainMadeRow = true := by
  unfold joinedFacts
  simp only [Bool.and_eq_true]
  exact ⟨⟨⟨⟨⟨⟨⟨⟨⟨⟨⟨⟨⟨⟨⟨⟨⟨⟨⟨⟨⟨⟨⟨⟨⟨⟨⟨⟨⟨⟨⟨(by as_aux_lemma => kernel_rfl),
    laid⟩,
    rowed⟩,
    (by as_aux_lemma => kernel_rfl)⟩,
    (by as_aux_lemma => kernel_rfl)⟩,
    (by as_aux_lemma => kernel_rfl)⟩,
    (by rw [no_stops]; rfl)⟩,
    (by as_aux_lemma => kernel_rfl)⟩,
    (by rw [no_knobs]; rfl)⟩,
    (by as_aux_lemma => kernel_rfl)⟩,
    (by as_aux_lemma => kernel_rfl)⟩,
    (by as_aux_lemma => kernel_rfl)⟩,
    (by as_aux_lemma => kernel_rfl)⟩,
    (by as_aux_lemma => kernel_rfl)⟩,
    (by as_aux_lemma => kernel_rfl)⟩,
    (by as_aux_lemma => kernel_rfl)⟩,
    (by as_aux_lemma => kernel_rfl)⟩,
    (by as_aux_lemma => kernel_rfl)⟩,
    (by as_aux_lemma => kernel_rfl)⟩,
    (by as_aux_lemma => kernel_rfl)⟩,
    (by as_aux_lemma => kernel_rfl)⟩,
    (by as_aux_lemma => kernel_rfl)⟩,
    (show (Rows.fnExactRainMadeRow.plainKeys == Try.prog.plainKeys) = true by rw [plain_keys]; rfl)⟩,
    (by as_aux_lemma => kernel_rfl)⟩,
    stops_heard⟩,
    may_enter⟩,
    (show (Rows.fnExactRainMadeRow.lifted == Try.prog.liftsFinal) = true by rw [lifts_final]; rfl)⟩,
    (show (Try.prog.make == some Rows.fnExactRainMadeRow.make) = true by rw [made]; rfl)⟩,
    (by as_aux_lemma => kernel_rfl)⟩,
    (by as_aux_lemma => kernel_rfl)⟩,
    (by as_aux_lemma => kernel_rfl)⟩,
    (by as_aux_lemma => kernel_rfl)⟩

set_option maxRecDepth 100000 in
theorem lifted (os : Os) (started : os.Started) (H : Type) (enc : TypeId × Value → H) :
    ReturnsInHanded {} Try.checked os 11 .any (Rows.fnExactRainMadeSpec.pre6 enc Try.prog Try.f11 Rows.fnExactRainMadeRow.domain false) (Rows.fnExactRainMadeSpec.post enc Try.prog Try.f11 false true false false) := by
  refine LawFrame.lifted (C := Try.checked) (fn := Try.f11) (n := 4) (tb := 4) started own (by kernel_rfl) Try.func11 laid ?_ rfl rfl ?_ rfl Try.underlying4
    (ChangeSpec.witness6 (enc := enc) (C := Try.checked) false ⟨#[], #[.agg (Array.replicate 20 (.float .f32 0)), .agg (Array.replicate 400 (.float .f32 0)), .float .f32 0, .int .i64 0], []⟩ 8 (by kernel_rfl) (by kernel_rfl) (by kernel_rfl) (by kernel_rfl)) ?_
  · intro t ht
    simp only [Try.params11, List.mem_cons, List.not_mem_nil, or_false] at ht
    rcases ht with rfl | rfl | rfl | rfl <;> first | exact rda | exact rdf | exact rdi | exact rdk
  · intro ds hd
    match ds, hd with
    | [_, _, _, _], _ => rfl
  · intro W base args ds ps hval hn _
    obtain ⟨v0, v1, v2, v3, rfl⟩ : ∃ v0 v1 v2 v3, args = #[v0, v1, v2, v3] := arr4 hn
    obtain ⟨c0, rfl, hb0⟩ := open_fls Try.underlying56 Try.underlying23 cells20 types20 (hval 0 56 v0 rfl rfl)
    obtain ⟨c1, rfl, hb1⟩ := open_floats Try.underlying57 rfl Try.underlying23 cells400 types400 (hval 1 57 v1 rfl rfl)
    obtain ⟨c2, rfl, hb2⟩ := open_f32 Try.underlying23 (hval 2 23 v2 rfl rfl)
    obtain ⟨c3, rfl, hb3, hc3⟩ := open_i64 Try.underlying2 (hval 3 2 v3 rfl rfl)
    exact lawRainMade c0 hb0 c1 hb1 c2 hb2 c3 hb3 hc3 W

theorem over : Rows.fnExactRainMadeRow.holds Try.pinned (OpenSpec.ofChange Rows.fnExactRainMadeSpec) :=
  OpenClaim.holds_of_wide 11 Try.f11 rfl rfl rfl rfl rfl rfl rfl ⟨rfl, rfl, rfl, rfl, rfl⟩ rfl rfl rfl rfl rfl (by kernel_rfl) Try.func11 closed
    (of_decide_eq_true (by kernel_rfl)) (by unfold Func.isWrapper; rw [if_neg (by decide +kernel)]; exact ⟨rfl, rfl⟩)
    (fun os started H enc _ => lifted os started H enc)

theorem proved : Rows.FnExactRainMadeSaid := over
#print axioms proved
end Go.Proofs.Ytgmcpbhjcfiikaa.fnExactRainMade
