import Derived.Test.YtgmcpbhjcfiikaaUCollideSteps
import Derived.Test.YtgmcpbhjcfiikaaCCollideSteps
import Derived.Test.YtgmcpbhjcfiikaaChecked
import Derived.Test.YtgmcpbhjcfiikaaRows
import Derived.Laws.FloatArith
import Derived.ProofKit
import Derived.WalkKit
import Derived.WalkLawsBesides
import Derived.WalkSpells
import Derived.Deep.QuietTactic
import Derived.BigQuiet
import Derived.Deep.RegionHeld3
import Derived.ChangeKeysEq
import Derived.Laws.BitsAllLaws
import Derived.Deep.MidRow
import Derived.Deep.WholeRow
import Derived.StillTailTactics
import Derived.Deep.Slices
import Derived.ChangeSame
import Derived.OrdersIn
import Derived.ControlIn
import Derived.RangeFuncSeq
import Derived.RangeFuncNested
import Derived.ArgAppend
import Derived.OwnWalkIn
import Derived.TacticsInMore
import Derived.Below
import Derived.Laws.AppendOwn
import Derived.Scope
import Derived.OpenShut
/- The law FnExactCollideSteps of chapter 1: at every argument the call returns true, and what was there before it is as it was. -/
namespace Go.Proofs.Ytgmcpbhjcfiikaa
open Go.RowKit Go.Fl

/-- One step of colliding, as both tell it. -/
def Stp (kk : Nat → Nat) (t : Nat) (c res : Nat → Nat) (n : Int) : Prop := (∀ w, Calls Try.prog 47 #[.agg (fls (c)), .agg (vls 400 (flw kk)), .float .f32 t] w fun e w' => e = .returned (.tuple #[.agg (fls (res)), .int .i64 n]) ∧ Below w.heap.size w w') ∧ (∀ w, ∀ gc gk T1 T2, arrAt w gc c T1 → vAt w gk 400 (flw kk) T2 → Calls Try.prog 118 #[.pointer (some ⟨gc, 0, none⟩), .pointer (some ⟨gk, 0, none⟩), .float .f32 t] w fun e w' => e = .returned (.tuple #[.agg (fls (res)), .int .i64 n]) ∧ Below w.heap.size w w')

/-- The steps up to the first one that fails. -/
structure Steps (kk : Nat → Nat) (t N : Nat) (s : Nat → Nat → Nat) (m : Nat) : Prop where
  le : m ≤ N
  amt : ∀ i, i ≤ m → Amts (s i)
  step : ∀ i, i < m → Stp kk t (s i) (s (i + 1)) 0
  stop : m < N → Stp kk t (s m) (fun _ => 0) 4

theorem steps_seq {kk : Nat → Nat} {t : Nat} (hb : ∀ i, i < 400 → kk i < 4294967296) (hk : KOk kk) (ht : amtB t = true) : ∀ (N : Nat) (c : Nat → Nat), Amts c → ∃ s m, s 0 = c ∧ Steps kk t N s m
  | 0, c, hc => ⟨fun _ => c, 0, rfl, ⟨Nat.le_refl _, fun _ _ => hc, fun i hi => by omega, fun h => by omega⟩⟩
  | N + 1, c, hc => by
    obtain ⟨res, n, hI, hS, h0, h1⟩ := collide_in c kk t hc hb hk ht
    by_cases hn : n = 0
    · subst hn
      obtain ⟨s, m, rfl, H⟩ := steps_seq hb hk ht N res (h0 rfl)
      refine ⟨fun i => match i with | 0 => c | i + 1 => s i, m + 1, rfl, ⟨Nat.succ_le_succ H.le, fun i hi => ?_, fun i hi => ?_, fun h => H.stop (by omega)⟩⟩
      · cases i with
        | zero => exact hc
        | succ i => exact H.amt i (by omega)
      · cases i with
        | zero => exact ⟨hI, fun w gc gk T1 T2 => hS w gc gk T1 T2⟩
        | succ i => exact H.step i (by omega)
    · obtain ⟨rfl, rfl⟩ := h1 hn
      exact ⟨fun _ => c, 0, rfl, ⟨Nat.zero_le _, fun _ _ => hc, fun i hi => by omega, fun _ => ⟨hI, fun w gc gk T1 T2 => hS w gc gk T1 T2⟩⟩⟩

set_option maxHeartbeats 2000000 in
set_option maxRecDepth 100000 in
theorem iSteps_ok (c kk : Nat → Nat) (t : Nat) (hc : Amts c) (hb : ∀ i, i < 400 → kk i < 4294967296) (hkk : KOk kk) (ht : amtB t = true) (N : Nat) (hN : N ≤ 200) (s : Nat → Nat → Nat) (m : Nat) (hs : s 0 = c) (H : Steps kk t N s m)
    (res : Nat → Nat) (n : Int) (h0 : m = N → res = s N ∧ n = 0) (h1 : m < N → res = (fun _ => 0) ∧ n = 4) (w : World) :
    Calls Try.prog 49 #[.agg (fls c), .agg (vls 400 (flw kk)), .float .f32 t, .int .i64 (N : Int)] w fun e w' => e = .returned (.tuple #[.agg (fls res), .int .i64 n]) ∧ Below w.heap.size w w' := by
  have k0 : Hid (Kept w [(w.heap.size + 1 + 1, fls fun _ => 0, 61), (w.heap.size + 1, vls 400 (flw kk), 58), (w.heap.size, fls c, 61)] (((w.alloc (.cells (fls c) 61)).alloc (.cells (vls 400 (flw kk)) 58)).alloc (.cells (fls fun _ => 0) 61))) := hid (((((Kept.nil w).push _ _).push _ _).push _ _).sub (by simp))
  have HCk := hid (iColl_ok c kk t hc hb hkk (amt_lt ht) true ht)
  have HH := hid H
  have HS := hid hs
  have HN := hid hN
  have H0 := hid h0
  have H1 := hid h1
  have g1 : ¬ (N : Int) < 0 := by omega
  have g2 : ¬ (N : Int) > 200 := by omega
  clear hc hb hkk ht H hs hN h0 h1
  go_enter Try.func49, Try.ntmps49
  go_wp2_with (first | (refine wpList_load_row rfl 61 _ rfl (w.heap.size) rfl 61 (fls c) (0, 0) _ (k0.out.at (x := (w.heap.size, fls c, 61)) (by simp)) Try.underlying61 rfl (by rw [fls_size]; exact info_arr) ?_) | (refine wpList_load_row rfl 58 _ rfl (w.heap.size + 1) rfl 58 (vls 400 (flw kk)) (0, 0) _ (k0.out.at (x := (w.heap.size + 1, vls 400 (flw kk), 58)) (by simp)) Try.underlying58 rfl (by rw [vls_size]; exact info_kern) ?_))
  refine (HCk.out _).mono ?_
  rintro e w1 ⟨rfl, hb1⟩
  have kk1 := k0.out.stay hb1
  have k1 : Hid (Kept w ((w1.heap.size, fls fun _ => 0, 61) :: [(w.heap.size + 1 + 1, fls fun _ => 0, 61), (w.heap.size + 1, vls 400 (flw kk), 58), (w.heap.size, fls c, 61)]) (w1.alloc (.cells (fls fun _ => 0) 61))) := hid (kk1.push _ _)
  have H2 := hid kk1.size
  have N2 := hid kk1.fresh
  have k1' := hid kk1
  clear kk1 hb1 k0 HCk
  rw [if_pos trivial]
  go_wp2_with (first | (refine wpList_load_row rfl 61 _ rfl (w.heap.size) rfl 61 (fls c) (0, 0) _ (k1'.out.at (x := (w.heap.size, fls c, 61)) (by simp)) Try.underlying61 rfl (by rw [fls_size]; exact info_arr) ?_) | (have _t := k1; refine store_kept (w0 := w) (l := [(w.heap.size + 1 + 1, fls fun _ => 0, 61), (w.heap.size + 1, vls 400 (flw kk), 58), (w.heap.size, fls c, 61)]) rfl 61 _ _ rfl (w1.heap.size) (fls c) rfl rfl 61 (fls fun _ => 0) k1.out H2.out N2.out (by rw [fls_size]; exact info_arr) (by simp) (fls_one _) (fun w2 k2 => ?_); replace k2 := hid k2; clear k1))
  clear k1' g1 g2
  go_loopw [29] (fun i wr => ∃ k : Nat, k ≤ m ∧ i = .int .i64 k ∧ Hid (Kept w ((w1.heap.size, fls (s k), 61) :: [(w.heap.size + 1 + 1, fls fun _ => 0, 61), (w.heap.size + 1, vls 400 (flw kk), 58), (w.heap.size, fls c, 61)]) wr)) (fun i _ => N - (intOf i).toNat)
  case atStart => exact ⟨0, Nat.zero_le _, rfl, by rw [HS.out]; exact k2⟩
  case round =>
    obtain ⟨k, hk, rfl, h3⟩ := hrel
    clear k2
    have hle := HH.out.le
    by_cases hlt : k < m
    · have hk3 : (k : Int) < (N : Int) := by omega
      have HC := hid (HH.out.step k hlt).1
      have HLT := hid hlt
      have HKN := hid (show k < N by omega)
      clear hlt hk hle
      go_wp2_with (first | (refine wpList_load_row rfl 61 _ rfl (w1.heap.size) rfl 61 (fls (s k)) (0, 0) _ (h3.out.at (x := (w1.heap.size, fls (s k), 61)) (by simp)) Try.underlying61 rfl (by rw [fls_size]; exact info_arr) ?_) | (refine wpList_load_row rfl 58 _ rfl (w.heap.size + 1) rfl 58 (vls 400 (flw kk)) (0, 0) _ (h3.out.at (x := (w.heap.size + 1, vls 400 (flw kk), 58)) (by simp)) Try.underlying58 rfl (by rw [vls_size]; exact info_kern) ?_))
      refine (HC.out _).mono ?_
      rintro e w3 ⟨rfl, hb3⟩
      have k4 := hid (h3.out.stay hb3)
      clear h3 hb3 HC
      go_wp2_with (have _t := k4; refine store_kept (w0 := w) (l := [(w.heap.size + 1 + 1, fls fun _ => 0, 61), (w.heap.size + 1, vls 400 (flw kk), 58), (w.heap.size, fls c, 61)]) rfl 61 _ _ rfl (w1.heap.size) (fls (s (k + 1))) rfl rfl 61 (fls (s k)) k4.out H2.out N2.out (by rw [fls_size]; exact info_arr) (by simp) (fls_one _) (fun w5 k5 => ?_); replace k5 := hid k5; clear k4)
      have hw : IntKind.i64.wrap ((k : Int) + 1) = (k : Int) + 1 := by have := HKN.out; have := HN.out; rw [IntKind.wrap_i64]; omega
      go_wp2
      go_roundw
      case rel => exact ⟨k + 1, HLT.out, by go_num, k5⟩
      case measure => have := HKN.out; have := HN.out; simp [intOf]; omega
    · obtain rfl : k = m := by omega
      by_cases hkn : k < N
      · have hk3 : (k : Int) < (N : Int) := by omega
        have HC := hid (HH.out.stop hkn).1
        obtain ⟨rfl, rfl⟩ := H1.out hkn
        clear H0 H1 hlt hk hle hkn
        go_wp2_with (first | (refine wpList_load_row rfl 61 _ rfl (w1.heap.size) rfl 61 (fls (s k)) (0, 0) _ (h3.out.at (x := (w1.heap.size, fls (s k), 61)) (by simp)) Try.underlying61 rfl (by rw [fls_size]; exact info_arr) ?_) | (refine wpList_load_row rfl 58 _ rfl (w.heap.size + 1) rfl 58 (vls 400 (flw kk)) (0, 0) _ (h3.out.at (x := (w.heap.size + 1, vls 400 (flw kk), 58)) (by simp)) Try.underlying58 rfl (by rw [vls_size]; exact info_kern) ?_))
        refine (HC.out _).mono ?_
        rintro e w3 ⟨rfl, hb3⟩
        have k4 := hid (h3.out.stay hb3)
        clear h3 hb3 HC
        go_wp2_with (first | (have _t := k4; refine store_kept (w0 := w) (l := [(w.heap.size + 1 + 1, fls fun _ => 0, 61), (w.heap.size + 1, vls 400 (flw kk), 58), (w.heap.size, fls c, 61)]) rfl 61 _ _ rfl (w1.heap.size) (fls fun _ => 0) rfl rfl 61 (fls (s k)) k4.out H2.out N2.out (by rw [fls_size]; exact info_arr) (by simp) (fls_one _) (fun w5 k5 => ?_); replace k5 := hid k5; clear k4; have A3 := hid (show arrAt w5 (w.heap.size + 1 + 1) (fun _ => 0) 61 from k5.out.at (x := (w.heap.size + 1 + 1, fls fun _ => 0, 61)) (by simp)); have b3 := k5.out.1; clear k5) | (have _t := A3; refine wpList_store_row rfl 61 _ _ rfl (w.heap.size + 1 + 1) (fls fun _ => 0) rfl rfl 61 _ A3.out (by rw [fls_size]; exact info_arr) (by simp) (fls_one _) ?_))
        exact bodyPost_ret (results_row_tmp rfl _ _ (w.heap.size + 1 + 1) 61 (fls fun _ => 0) (0, 0) _ rfl (A3.out.setRow (fun _ => 0)) Try.underlying61 rfl (by rw [fls_size]; exact info_arr)) rfl ⟨rfl, below_row b3 (by omega) _⟩
      · obtain rfl : k = N := by omega
        obtain ⟨hr, rfl⟩ := H0.out rfl
        have hr2 := hr.symm
        subst hr2
        have hk3 : ¬ (k : Int) < (k : Int) := by omega
        have A3 := hid (show arrAt wr (w.heap.size + 1 + 1) (fun _ => 0) 61 from h3.out.at (x := (w.heap.size + 1 + 1, fls fun _ => 0, 61)) (by simp))
        have b3 := h3.out.1
        clear H0 H1 hlt hk hle hkn hr
        go_wp2_with (first | (refine wpList_load_row rfl 61 _ rfl (w1.heap.size) rfl 61 (fls (s k)) (0, 0) _ (h3.out.at (x := (w1.heap.size, fls (s k), 61)) (by simp)) Try.underlying61 rfl (by rw [fls_size]; exact info_arr) ?_) | (have _t := A3; refine wpList_store_row rfl 61 _ _ rfl (w.heap.size + 1 + 1) (fls (s k)) rfl rfl 61 _ A3.out (by rw [fls_size]; exact info_arr) (by simp) (fls_one _) ?_))
        exact bodyPost_ret (results_row_tmp rfl _ _ (w.heap.size + 1 + 1) 61 (fls (s k)) (0, 0) _ rfl (A3.out.setRow (s k)) Try.underlying61 rfl (by rw [fls_size]; exact info_arr)) rfl ⟨rfl, below_row b3 (by omega) _⟩

set_option maxHeartbeats 2000000 in
set_option maxRecDepth 100000 in
theorem sSteps_ok (c kk : Nat → Nat) (t : Nat) (hc : Amts c) (hb : ∀ i, i < 400 → kk i < 4294967296) (hkk : KOk kk) (ht : amtB t = true) (N : Nat) (hN : N ≤ 200) (s : Nat → Nat → Nat) (m : Nat) (hs : s 0 = c) (H : Steps kk t N s m)
    (res : Nat → Nat) (n : Int) (h0 : m = N → res = s N ∧ n = 0) (h1 : m < N → res = (fun _ => 0) ∧ n = 4) (w : World) :
    Calls Try.prog 48 #[.agg (fls c), .agg (vls 400 (flw kk)), .float .f32 t, .int .i64 (N : Int)] w fun e w' => e = .returned (.tuple #[.agg (fls res), .int .i64 n]) ∧ Below w.heap.size w w' := by
  have k0 : Hid (Kept w [(w.heap.size + 1 + 1, fls fun _ => 0, 61), (w.heap.size + 1, vls 400 (flw kk), 58), (w.heap.size, fls c, 61)] (((w.alloc (.cells (fls c) 61)).alloc (.cells (vls 400 (flw kk)) 58)).alloc (.cells (fls fun _ => 0) 61))) := hid (((((Kept.nil w).push _ _).push _ _).push _ _).sub (by simp))
  have HCk := hid (fun gc gk T1 T2 w h1 h2 => sColl_ok c kk t hc hb hkk (amt_lt ht) true ht gc gk T1 T2 w h1 h2)
  have HH := hid H
  have HS := hid hs
  have HN := hid hN
  have H0 := hid h0
  have H1 := hid h1
  clear hc hb hkk ht H hs hN h0 h1
  go_enter Try.func48, Try.ntmps48
  go_wp2_with fail
  refine (HCk.out _ _ _ _ _ (k0.out.at (x := (w.heap.size, fls c, 61)) (by simp)) (k0.out.at (x := (w.heap.size + 1, vls 400 (flw kk), 58)) (by simp))).mono ?_
  rintro e w1 ⟨rfl, hb1⟩
  have k1 := hid (k0.out.stay hb1)
  clear k0 hb1 HCk
  rw [if_pos trivial]
  go_wp2_with fail
  refine (l00In_t N 0 200 (by omega) (by have := HN.out; omega) _).mono ?_
  rintro e w2 ⟨rfl, rfl⟩
  have kk2 := k1.out
  have k2 : Hid (Kept w ((w.heap.size, fls (s 0), 61) :: [(w.heap.size + 1 + 1, fls fun _ => 0, 61), (w.heap.size + 1, vls 400 (flw kk), 58)]) w1) := hid (by rw [HS.out]; exact kk2.sub (by simp))
  clear k1 kk2
  go_wp2_with fail
  go_loopw [11] (fun i wr => ∃ k : Nat, k ≤ m ∧ i = .int .i64 k ∧ Hid (Kept w ((w.heap.size, fls (s k), 61) :: [(w.heap.size + 1 + 1, fls fun _ => 0, 61), (w.heap.size + 1, vls 400 (flw kk), 58)]) wr)) (fun i _ => N - (intOf i).toNat)
  case atStart => exact ⟨0, Nat.zero_le _, rfl, k2⟩
  case round =>
    obtain ⟨k, hk, rfl, h3⟩ := hrel
    clear k2
    have hle := HH.out.le
    by_cases hlt : k < m
    · have hk3 : (k : Int) < (N : Int) := by omega
      have HC := hid (HH.out.step k hlt).2
      have HLT := hid hlt
      have HKN := hid (show k < N by omega)
      clear hlt hk hle
      go_wp2_with fail
      refine (HC.out _ _ _ _ _ (h3.out.at (x := (w.heap.size, fls (s k), 61)) (by simp)) (h3.out.at (x := (w.heap.size + 1, vls 400 (flw kk), 58)) (by simp))).mono ?_
      rintro e w3 ⟨rfl, hb3⟩
      have kk3 := h3.out.stay hb3
      have k4 : Hid (Kept w ((w3.heap.size, fls fun _ => 0, 61) :: (w.heap.size, fls (s k), 61) :: [(w.heap.size + 1 + 1, fls fun _ => 0, 61), (w.heap.size + 1, vls 400 (flw kk), 58)]) (w3.alloc (.cells (fls fun _ => 0) 61))) := hid (kk3.push _ _)
      have H5 := hid kk3.size
      have N5 := hid kk3.fresh
      have N6 : Hid (∀ y ∈ ((w3.heap.size, fls (s (k + 1)), 61) :: [(w.heap.size + 1 + 1, fls fun _ => 0, 61), (w.heap.size + 1, vls 400 (flw kk), 58)] : List (Nat × Array Value × TypeId)), y.1 ≠ w.heap.size) := hid (by
        intro y hy
        have h8 := Ne.symm (N5.out (w.heap.size, fls (s k), 61) (by simp))
        simp only [List.mem_cons, List.not_mem_nil, or_false] at hy
        rcases hy with rfl | rfl | rfl
        · exact h8
        · show (_ : Nat) ≠ _; omega
        · show (_ : Nat) ≠ _; omega)
      clear h3 hb3 HC kk3
      have hkb : k < 200 := by have := HKN.out; have := HN.out; omega
      go_wp2_with (first | (have _t := k4; refine store_kept (w0 := w) (l := ((w.heap.size, fls (s k), 61) :: [(w.heap.size + 1 + 1, fls fun _ => 0, 61), (w.heap.size + 1, vls 400 (flw kk), 58)])) rfl 61 _ _ rfl (w3.heap.size) (fls (s (k + 1))) rfl rfl 61 (fls fun _ => 0) k4.out H5.out N5.out (by rw [fls_size]; exact info_arr) (by simp) (fls_one _) (fun w5 k5 => ?_); replace k5 := hid k5; clear k4) | (have _t := k5; refine wpList_load_row rfl 61 _ rfl (w3.heap.size) rfl 61 (fls (s (k + 1))) (0, 0) _ (k5.out.at (x := (w3.heap.size, fls (s (k + 1)), 61)) (by simp)) Try.underlying61 rfl (by rw [fls_size]; exact info_arr) ?_; have k5b := hid (k5.out.sub (l' := (w.heap.size, fls (s k), 61) :: (w3.heap.size, fls (s (k + 1)), 61) :: [(w.heap.size + 1 + 1, fls fun _ => 0, 61), (w.heap.size + 1, vls 400 (flw kk), 58)]) (by simp)); clear k5) | (have _t := k5b; refine store_kept (w0 := w) (l := ((w3.heap.size, fls (s (k + 1)), 61) :: [(w.heap.size + 1 + 1, fls fun _ => 0, 61), (w.heap.size + 1, vls 400 (flw kk), 58)])) rfl 61 _ _ rfl (w.heap.size) (fls (s (k + 1))) rfl rfl 61 (fls (s k)) k5b.out (Nat.le_refl _) N6.out (by rw [fls_size]; exact info_arr) (by simp) (fls_one _) (fun w6 k6 => ?_); replace k6 := hid k6; clear k5b))
      have k7 := hid (k6.out.sub (l' := (w.heap.size, fls (s (k + 1)), 61) :: [(w.heap.size + 1 + 1, fls fun _ => 0, 61), (w.heap.size + 1, vls 400 (flw kk), 58)]) (by simp))
      clear k6
      go_wp2
      go_roundw
      case rel => exact ⟨k + 1, HLT.out, by go_num, k7⟩
      case measure => have := HKN.out; simp [intOf]; omega
    · obtain rfl : k = m := by omega
      by_cases hkn : k < N
      · have hk3 : (k : Int) < (N : Int) := by omega
        have HC := hid (HH.out.stop hkn).2
        obtain ⟨rfl, rfl⟩ := H1.out hkn
        clear H0 H1 hlt hk hle hkn
        go_wp2_with fail
        refine (HC.out _ _ _ _ _ (h3.out.at (x := (w.heap.size, fls (s k), 61)) (by simp)) (h3.out.at (x := (w.heap.size + 1, vls 400 (flw kk), 58)) (by simp))).mono ?_
        rintro e w3 ⟨rfl, hb3⟩
        have kk3 := h3.out.stay hb3
        have k4 : Hid (Kept w ((w3.heap.size, fls fun _ => 0, 61) :: (w.heap.size, fls (s k), 61) :: [(w.heap.size + 1 + 1, fls fun _ => 0, 61), (w.heap.size + 1, vls 400 (flw kk), 58)]) (w3.alloc (.cells (fls fun _ => 0) 61))) := hid (kk3.push _ _)
        have H5 := hid kk3.size
        have N5 := hid kk3.fresh
        clear h3 hb3 HC kk3
        go_wp2_with (first | (have _t := k4; refine store_kept (w0 := w) (l := ((w.heap.size, fls (s k), 61) :: [(w.heap.size + 1 + 1, fls fun _ => 0, 61), (w.heap.size + 1, vls 400 (flw kk), 58)])) rfl 61 _ _ rfl (w3.heap.size) (fls fun _ => 0) rfl rfl 61 (fls fun _ => 0) k4.out H5.out N5.out (by rw [fls_size]; exact info_arr) (by simp) (fls_one _) (fun w5 k5 => ?_); replace k5 := hid k5; clear k4; have A3 := hid (show arrAt w5 (w.heap.size + 1 + 1) (fun _ => 0) 61 from k5.out.at (x := (w.heap.size + 1 + 1, fls fun _ => 0, 61)) (by simp)); have b3 := k5.out.1; clear k5) | (have _t := A3; refine wpList_store_row rfl 61 _ _ rfl (w.heap.size + 1 + 1) (fls fun _ => 0) rfl rfl 61 _ A3.out (by rw [fls_size]; exact info_arr) (by simp) (fls_one _) ?_))
        exact bodyPost_ret (results_row_tmp rfl _ _ (w.heap.size + 1 + 1) 61 (fls fun _ => 0) (0, 0) _ rfl (A3.out.setRow (fun _ => 0)) Try.underlying61 rfl (by rw [fls_size]; exact info_arr)) rfl ⟨rfl, below_row b3 (by omega) _⟩
      · obtain rfl : k = N := by omega
        obtain ⟨hr, rfl⟩ := H0.out rfl
        have hr2 := hr.symm
        subst hr2
        have hk3 : ¬ (k : Int) < (k : Int) := by omega
        have A3 := hid (show arrAt wr (w.heap.size + 1 + 1) (fun _ => 0) 61 from h3.out.at (x := (w.heap.size + 1 + 1, fls fun _ => 0, 61)) (by simp))
        have b3 := h3.out.1
        clear H0 H1 hlt hk hle hkn hr
        go_wp2_with (first | (refine wpList_load_row rfl 61 _ rfl (w.heap.size) rfl 61 (fls (s k)) (0, 0) _ (h3.out.at (x := (w.heap.size, fls (s k), 61)) (by simp)) Try.underlying61 rfl (by rw [fls_size]; exact info_arr) ?_) | (have _t := A3; refine wpList_store_row rfl 61 _ _ rfl (w.heap.size + 1 + 1) (fls (s k)) rfl rfl 61 _ A3.out (by rw [fls_size]; exact info_arr) (by simp) (fls_one _) ?_))
        exact bodyPost_ret (results_row_tmp rfl _ _ (w.heap.size + 1 + 1) 61 (fls (s k)) (0, 0) _ rfl (A3.out.setRow (s k)) Try.underlying61 rfl (by rw [fls_size]; exact info_arr)) rfl ⟨rfl, below_row b3 (by omega) _⟩

set_option maxHeartbeats 1000000 in
set_option maxRecDepth 100000 in
theorem iSteps_bad (c kk : Nat → Nat) (t : Nat) (q p : Int) (hp : p = 1 ∨ p = 2) (hI : ∀ w, Calls Try.prog 109 #[.agg (fls c), .agg (vls 400 (flw kk)), .float .f32 t] w fun e w' => e = .returned (.int .i64 p) ∧ Below w.heap.size w w') (w : World) :
    Calls Try.prog 49 #[.agg (fls c), .agg (vls 400 (flw kk)), .float .f32 t, .int .i64 q] w fun e w' => e = .returned (.tuple #[.agg (fls fun _ => 0), .int .i64 p]) ∧ Below w.heap.size w w' := by
  have k0 : Hid (Kept w [(w.heap.size + 1 + 1, fls fun _ => 0, 61), (w.heap.size + 1, vls 400 (flw kk), 58), (w.heap.size, fls c, 61)] (((w.alloc (.cells (fls c) 61)).alloc (.cells (vls 400 (flw kk)) 58)).alloc (.cells (fls fun _ => 0) 61))) := hid (((((Kept.nil w).push _ _).push _ _).push _ _).sub (by simp))
  have HCk := hid hI
  have hcz : ¬ p = 0 := by omega
  clear hI hp
  go_enter Try.func49, Try.ntmps49
  go_wp2_with (first | (refine wpList_load_row rfl 61 _ rfl (w.heap.size) rfl 61 (fls c) (0, 0) _ (k0.out.at (x := (w.heap.size, fls c, 61)) (by simp)) Try.underlying61 rfl (by rw [fls_size]; exact info_arr) ?_) | (refine wpList_load_row rfl 58 _ rfl (w.heap.size + 1) rfl 58 (vls 400 (flw kk)) (0, 0) _ (k0.out.at (x := (w.heap.size + 1, vls 400 (flw kk), 58)) (by simp)) Try.underlying58 rfl (by rw [vls_size]; exact info_kern) ?_))
  refine (HCk.out _).mono ?_
  rintro e w1 ⟨rfl, hb1⟩
  have k1 := hid (k0.out.stay hb1)
  have A3 := hid (show arrAt w1 (w.heap.size + 1 + 1) (fun _ => 0) 61 from k1.out.at (x := (w.heap.size + 1 + 1, fls fun _ => 0, 61)) (by simp))
  have b3 := k1.out.1
  clear k0 k1 hb1 HCk
  go_wp2_with (have _t := A3; refine wpList_store_row rfl 61 _ _ rfl (w.heap.size + 1 + 1) (fls fun _ => 0) rfl rfl 61 _ A3.out (by rw [fls_size]; exact info_arr) (by simp) (fls_one _) ?_)
  exact bodyPost_ret (results_row_tmp rfl _ _ (w.heap.size + 1 + 1) 61 (fls fun _ => 0) (0, 0) _ rfl (A3.out.setRow (fun _ => 0)) Try.underlying61 rfl (by rw [fls_size]; exact info_arr)) rfl ⟨rfl, below_row b3 (by omega) _⟩

set_option maxHeartbeats 1000000 in
set_option maxRecDepth 100000 in
theorem iSteps_range (c kk : Nat → Nat) (t : Nat) (hc : Amts c) (hb : ∀ i, i < 400 → kk i < 4294967296) (hkk : KOk kk) (ht : amtB t = true) (q : Int) (hq : ¬ (0 ≤ q ∧ q ≤ 200)) (w : World) :
    Calls Try.prog 49 #[.agg (fls c), .agg (vls 400 (flw kk)), .float .f32 t, .int .i64 q] w fun e w' => e = .returned (.tuple #[.agg (fls fun _ => 0), .int .i64 2]) ∧ Below w.heap.size w w' := by
  have k0 : Hid (Kept w [(w.heap.size + 1 + 1, fls fun _ => 0, 61), (w.heap.size + 1, vls 400 (flw kk), 58), (w.heap.size, fls c, 61)] (((w.alloc (.cells (fls c) 61)).alloc (.cells (vls 400 (flw kk)) 58)).alloc (.cells (fls fun _ => 0) 61))) := hid (((((Kept.nil w).push _ _).push _ _).push _ _).sub (by simp))
  have HCk := hid (iColl_ok c kk t hc hb hkk (amt_lt ht) true ht)
  clear hc hb hkk ht
  go_enter Try.func49, Try.ntmps49
  go_wp2_with (first | (refine wpList_load_row rfl 61 _ rfl (w.heap.size) rfl 61 (fls c) (0, 0) _ (k0.out.at (x := (w.heap.size, fls c, 61)) (by simp)) Try.underlying61 rfl (by rw [fls_size]; exact info_arr) ?_) | (refine wpList_load_row rfl 58 _ rfl (w.heap.size + 1) rfl 58 (vls 400 (flw kk)) (0, 0) _ (k0.out.at (x := (w.heap.size + 1, vls 400 (flw kk), 58)) (by simp)) Try.underlying58 rfl (by rw [vls_size]; exact info_kern) ?_))
  refine (HCk.out _).mono ?_
  rintro e w1 ⟨rfl, hb1⟩
  have k1 := hid (k0.out.stay hb1)
  have A3 := hid (show arrAt w1 (w.heap.size + 1 + 1) (fun _ => 0) 61 from k1.out.at (x := (w.heap.size + 1 + 1, fls fun _ => 0, 61)) (by simp))
  have b3 := k1.out.1
  clear k0 k1 hb1 HCk
  rw [if_pos trivial]
  by_cases h1 : q < 0
  · clear hq
    go_wp2_with (have _t := A3; refine wpList_store_row rfl 61 _ _ rfl (w.heap.size + 1 + 1) (fls fun _ => 0) rfl rfl 61 _ A3.out (by rw [fls_size]; exact info_arr) (by simp) (fls_one _) ?_)
    exact bodyPost_ret (results_row_tmp rfl _ _ (w.heap.size + 1 + 1) 61 (fls fun _ => 0) (0, 0) _ rfl (A3.out.setRow (fun _ => 0)) Try.underlying61 rfl (by rw [fls_size]; exact info_arr)) rfl ⟨rfl, below_row b3 (by omega) _⟩
  · have h2 : q > 200 := by omega
    clear hq
    go_wp2_with (have _t := A3; refine wpList_store_row rfl 61 _ _ rfl (w.heap.size + 1 + 1) (fls fun _ => 0) rfl rfl 61 _ A3.out (by rw [fls_size]; exact info_arr) (by simp) (fls_one _) ?_)
    exact bodyPost_ret (results_row_tmp rfl _ _ (w.heap.size + 1 + 1) 61 (fls fun _ => 0) (0, 0) _ rfl (A3.out.setRow (fun _ => 0)) Try.underlying61 rfl (by rw [fls_size]; exact info_arr)) rfl ⟨rfl, below_row b3 (by omega) _⟩

set_option maxHeartbeats 1000000 in
set_option maxRecDepth 100000 in
theorem sSteps_bad (c kk : Nat → Nat) (t : Nat) (q p : Int) (hp : p = 1 ∨ p = 2) (hS : ∀ gc gk T1 T2 w, arrAt w gc c T1 → vAt w gk 400 (flw kk) T2 → Calls Try.prog 106 #[.pointer (some ⟨gc, 0, none⟩), .pointer (some ⟨gk, 0, none⟩), .float .f32 t] w fun e w' => e = .returned (.int .i64 p) ∧ Below w.heap.size w w') (w : World) :
    Calls Try.prog 48 #[.agg (fls c), .agg (vls 400 (flw kk)), .float .f32 t, .int .i64 q] w fun e w' => e = .returned (.tuple #[.agg (fls fun _ => 0), .int .i64 p]) ∧ Below w.heap.size w w' := by
  have k0 : Hid (Kept w [(w.heap.size + 1 + 1, fls fun _ => 0, 61), (w.heap.size + 1, vls 400 (flw kk), 58), (w.heap.size, fls c, 61)] (((w.alloc (.cells (fls c) 61)).alloc (.cells (vls 400 (flw kk)) 58)).alloc (.cells (fls fun _ => 0) 61))) := hid (((((Kept.nil w).push _ _).push _ _).push _ _).sub (by simp))
  have HCk := hid hS
  have hcz : ¬ p = 0 := by omega
  clear hS hp
  go_enter Try.func48, Try.ntmps48
  go_wp2_with fail
  refine (HCk.out _ _ _ _ _ (k0.out.at (x := (w.heap.size, fls c, 61)) (by simp)) (k0.out.at (x := (w.heap.size + 1, vls 400 (flw kk), 58)) (by simp))).mono ?_
  rintro e w1 ⟨rfl, hb1⟩
  have k1 := hid (k0.out.stay hb1)
  have A3 := hid (show arrAt w1 (w.heap.size + 1 + 1) (fun _ => 0) 61 from k1.out.at (x := (w.heap.size + 1 + 1, fls fun _ => 0, 61)) (by simp))
  have b3 := k1.out.1
  clear k0 k1 hb1 HCk
  go_wp2_with (have _t := A3; refine wpList_store_row rfl 61 _ _ rfl (w.heap.size + 1 + 1) (fls fun _ => 0) rfl rfl 61 _ A3.out (by rw [fls_size]; exact info_arr) (by simp) (fls_one _) ?_)
  exact bodyPost_ret (results_row_tmp rfl _ _ (w.heap.size + 1 + 1) 61 (fls fun _ => 0) (0, 0) _ rfl (A3.out.setRow (fun _ => 0)) Try.underlying61 rfl (by rw [fls_size]; exact info_arr)) rfl ⟨rfl, below_row b3 (by omega) _⟩

set_option maxHeartbeats 1000000 in
set_option maxRecDepth 100000 in
theorem sSteps_range (c kk : Nat → Nat) (t : Nat) (hc : Amts c) (hb : ∀ i, i < 400 → kk i < 4294967296) (hkk : KOk kk) (ht : amtB t = true) (q : Int) (hq : ¬ (0 ≤ q ∧ q ≤ 200)) (w : World) :
    Calls Try.prog 48 #[.agg (fls c), .agg (vls 400 (flw kk)), .float .f32 t, .int .i64 q] w fun e w' => e = .returned (.tuple #[.agg (fls fun _ => 0), .int .i64 2]) ∧ Below w.heap.size w w' := by
  have k0 : Hid (Kept w [(w.heap.size + 1 + 1, fls fun _ => 0, 61), (w.heap.size + 1, vls 400 (flw kk), 58), (w.heap.size, fls c, 61)] (((w.alloc (.cells (fls c) 61)).alloc (.cells (vls 400 (flw kk)) 58)).alloc (.cells (fls fun _ => 0) 61))) := hid (((((Kept.nil w).push _ _).push _ _).push _ _).sub (by simp))
  have HCk := hid (fun gc gk T1 T2 w h1 h2 => sColl_ok c kk t hc hb hkk (amt_lt ht) true ht gc gk T1 T2 w h1 h2)
  have HQ := hid hq
  clear hc hb hkk ht hq
  go_enter Try.func48, Try.ntmps48
  go_wp2_with fail
  refine (HCk.out _ _ _ _ _ (k0.out.at (x := (w.heap.size, fls c, 61)) (by simp)) (k0.out.at (x := (w.heap.size + 1, vls 400 (flw kk), 58)) (by simp))).mono ?_
  rintro e w1 ⟨rfl, hb1⟩
  have k1 := hid (k0.out.stay hb1)
  clear k0 hb1 HCk
  rw [if_pos trivial]
  go_wp2_with fail
  refine (l00In_f q 0 200 HQ.out _).mono ?_
  rintro e w2 ⟨rfl, rfl⟩
  have A3 := hid (show arrAt w1 (w.heap.size + 1 + 1) (fun _ => 0) 61 from k1.out.at (x := (w.heap.size + 1 + 1, fls fun _ => 0, 61)) (by simp))
  have b3 := k1.out.1
  clear k1
  go_wp2_with (have _t := A3; refine wpList_store_row rfl 61 _ _ rfl (w.heap.size + 1 + 1) (fls fun _ => 0) rfl rfl 61 _ A3.out (by rw [fls_size]; exact info_arr) (by simp) (fls_one _) ?_)
  exact bodyPost_ret (results_row_tmp rfl _ _ (w.heap.size + 1 + 1) 61 (fls fun _ => 0) (0, 0) _ rfl (A3.out.setRow (fun _ => 0)) Try.underlying61 rfl (by rw [fls_size]; exact info_arr)) rfl ⟨rfl, below_row b3 (by omega) _⟩

theorem run_sCollideSteps4 (a : Act) (x0 : Operand) (v0 : Value) (h0 : a.eval x0 = v0) (x1 : Operand) (v1 : Value) (h1 : a.eval x1 = v1) (x2 : Operand) (v2 : Value) (h2 : a.eval x2 = v2) (x3 : Operand) (v3 : Value) (h3 : a.eval x3 = v3) (d : Option Tmp) (ats : Array TypeId) (t : TypeId) (ps : String) (af : Array Edge) (gd : Option (Nat × Bool)) (w : World) :
    (execOp a.eval ⟨d, .call { callee := .value (.func 48), args := #[x0, x1, x2, x3], argTypes := ats }, t, ps, af, gd⟩).run Try.prog w = .ok (.enter 48 #[v0, v1, v2, v3]) w := by
  subst h0 h1 h2 h3
  unfold execOp
  go_simp

theorem run_iCollideSteps4 (a : Act) (x0 : Operand) (v0 : Value) (h0 : a.eval x0 = v0) (x1 : Operand) (v1 : Value) (h1 : a.eval x1 = v1) (x2 : Operand) (v2 : Value) (h2 : a.eval x2 = v2) (x3 : Operand) (v3 : Value) (h3 : a.eval x3 = v3) (d : Option Tmp) (ats : Array TypeId) (t : TypeId) (ps : String) (af : Array Edge) (gd : Option (Nat × Bool)) (w : World) :
    (execOp a.eval ⟨d, .call { callee := .value (.func 49), args := #[x0, x1, x2, x3], argTypes := ats }, t, ps, af, gd⟩).run Try.prog w = .ok (.enter 49 #[v0, v1, v2, v3]) w := by
  subst h0 h1 h2 h3
  unfold execOp
  go_simp

set_option maxRecDepth 100000 in
set_option maxHeartbeats 2000000 in
theorem coreCollideSteps (x0 : Nat → Nat) (x1 : Nat → Nat) (x2 : Nat) (x3 : Int) (r0 : Nat → Nat) (hl0 : ∀ i, i < 20 → r0 i < 4294967296) (hf0 : ∀ i, i < 20 → finB (r0 i) = true) (r1 : Int)
    (hS : ∀ w, Calls Try.prog 48 #[.agg (fls x0), .agg (vls 400 (flw x1)), .float .f32 x2, .int .i64 x3] w fun e w' => e = .returned (.tuple #[.agg (fls r0), .int .i64 r1]) ∧ Below w.heap.size w w')
    (hI : ∀ w, Calls Try.prog 49 #[.agg (fls x0), .agg (vls 400 (flw x1)), .float .f32 x2, .int .i64 x3] w fun e w' => e = .returned (.tuple #[.agg (fls r0), .int .i64 r1]) ∧ Below w.heap.size w w') (w : World) :
    Calls Try.prog 10 #[.agg (fls x0), .agg (vls 400 (flw x1)), .float .f32 x2, .int .i64 x3] w fun e w' => e = .returned (.bool true) ∧ Below w.heap.size w w' := by
  have k0 : Hid (Kept w [(w.heap.size, fls x0, 56), (w.heap.size + 1, vls 400 (flw x1), 57)] ((w.alloc (.cells (fls x0) 56)).alloc (.cells (vls 400 (flw x1)) 57))) := hid ((((Kept.nil w).push (fls x0) 56).push (vls 400 (flw x1)) 57).sub (by simp))
  have HS := hid hS
  have HI := hid hI
  clear hS hI
  have Hl0 := hid hl0
  have Hf0 := hid hf0
  clear hl0 hf0
  go_enter Try.func10, Try.ntmps10
  go_wp2_with fail
  rename_i Q1 K1 hK1
  have key1 : ∀ (a0 : Nat) (w1 : World), Hid (Kept w [(a0, fls r0, 61), (w.heap.size, fls x0, 56), (w.heap.size + 1, vls 400 (flw x1), 57)] w1) → K1 { tmps := (.agg (fls x0) :: .agg (vls 400 (flw x1)) :: .float .f32 x2 :: .int .i64 x3 :: .pointer (some ⟨w.heap.size, 0, none⟩) :: .pointer (some ⟨w.heap.size + 1, 0, none⟩) :: undef :: undef :: .bool false :: .pointer (some ⟨a0, 0, none⟩) :: .int .i64 r1 :: undef :: undef :: .tuple #[.agg (fls r0), .int .i64 r1] :: .agg (fls x0) :: .agg (fls x0) :: .agg (vls 400 (flw x1)) :: .agg (vls 400 (flw x1)) :: .float .f32 x2 :: .int .i64 x3 :: .tuple #[.agg (fls r0), .int .i64 r1] :: .agg (fls r0) :: .int .i64 r1 :: undef :: undef :: undef :: undef :: undef :: undef :: undef :: undef :: undef :: undef :: undef :: undef :: undef :: undef :: undef :: undef :: undef :: undef :: undef :: []).toArray, defers := [] } w1 := by
    intro a0 w1 k1
    clear k0
    go_wp2_with fail
    rename_i K2 hK2
    have key2 : ∀ (b0 : Nat) (w2 : World), Hid (Kept w [(b0, fls r0, 61), (a0, fls r0, 61), (w.heap.size, fls x0, 56), (w.heap.size + 1, vls 400 (flw x1), 57)] w2) → K2 { tmps := (.agg (fls x0) :: .agg (vls 400 (flw x1)) :: .float .f32 x2 :: .int .i64 x3 :: .pointer (some ⟨w.heap.size, 0, none⟩) :: .pointer (some ⟨w.heap.size + 1, 0, none⟩) :: undef :: undef :: .bool false :: .pointer (some ⟨a0, 0, none⟩) :: .int .i64 r1 :: .pointer (some ⟨b0, 0, none⟩) :: .int .i64 r1 :: .tuple #[.agg (fls r0), .int .i64 r1] :: .agg (fls x0) :: .agg (fls x0) :: .agg (vls 400 (flw x1)) :: .agg (vls 400 (flw x1)) :: .float .f32 x2 :: .int .i64 x3 :: .tuple #[.agg (fls r0), .int .i64 r1] :: .agg (fls r0) :: .int .i64 r1 :: .tuple #[.agg (fls r0), .int .i64 r1] :: .agg (fls x0) :: .agg (fls x0) :: .agg (vls 400 (flw x1)) :: .agg (vls 400 (flw x1)) :: .float .f32 x2 :: .int .i64 x3 :: .tuple #[.agg (fls r0), .int .i64 r1] :: .agg (fls r0) :: .int .i64 r1 :: undef :: undef :: undef :: undef :: undef :: undef :: undef :: undef :: undef :: []).toArray, defers := [] } w2 := by
      intro b0 w2 k2
      clear k1 HS HI
      go_wp2_with (first | (refine wpList_load_row rfl 61 _ rfl (b0) rfl 61 (fls r0) (0, 0) _ (k2.out.at (x := (b0, fls r0, 61)) (by simp)) Try.underlying61 rfl (by rw [fls_size]; exact info_arr) ?_) | (refine wpList_load_row rfl 61 _ rfl (a0) rfl 61 (fls r0) (0, 0) _ (k2.out.at (x := (a0, fls r0, 61)) (by simp)) Try.underlying61 rfl (by rw [fls_size]; exact info_arr) ?_))
      refine (eqSizes r0 Hl0.out Hf0.out _).mono ?_
      rintro e w3 ⟨rfl, hb3⟩
      have k3 := hid (k2.out.stay hb3)
      go_wp2
      all_goals go_ret
      all_goals exact ⟨rfl, k3.out.1⟩
    refine region_kept (w0 := w) (l := [(a0, fls r0, 61), (w.heap.size, fls x0, 56), (w.heap.size + 1, vls 400 (flw x1), 57)]) 13 #[false, false, false, false, false, false, false, false, false, false, false, false, false] (by kernel_rfl) rfl rfl ?_
    have kd := k1.out.drew
    clear k1
    generalize w1.drew = wd at kd ⊢
    refine take_load 0 { tmps := (.agg (fls x0) :: .agg (vls 400 (flw x1)) :: .float .f32 x2 :: .int .i64 x3 :: .pointer (some ⟨w.heap.size, 0, none⟩) :: .pointer (some ⟨w.heap.size + 1, 0, none⟩) :: undef :: undef :: .bool false :: .pointer (some ⟨a0, 0, none⟩) :: .int .i64 r1 :: undef :: undef :: .tuple #[.agg (fls r0), .int .i64 r1] :: .agg (fls x0) :: .agg (fls x0) :: .agg (vls 400 (flw x1)) :: .agg (vls 400 (flw x1)) :: .float .f32 x2 :: .int .i64 x3 :: .tuple #[.agg (fls r0), .int .i64 r1] :: .agg (fls r0) :: .int .i64 r1 :: undef :: .agg (fls x0) :: undef :: undef :: undef :: undef :: undef :: undef :: undef :: undef :: undef :: undef :: undef :: undef :: undef :: undef :: undef :: undef :: undef :: []).toArray, defers := [] } #[true, false, false, false, false, false, false, false, false, false, false, false, false] rfl (by rfl) (by kernel_rfl) (by kernel_rfl) (by kernel_rfl) 56 _ rfl (w.heap.size) (fls x0) 56 (by rfl) (by simp) _ Try.underlying56 rfl (by rw [fls_size]; exact info_a20) (by rfl) (by rfl) (kd) ?_
    refine take_load 2 { tmps := (.agg (fls x0) :: .agg (vls 400 (flw x1)) :: .float .f32 x2 :: .int .i64 x3 :: .pointer (some ⟨w.heap.size, 0, none⟩) :: .pointer (some ⟨w.heap.size + 1, 0, none⟩) :: undef :: undef :: .bool false :: .pointer (some ⟨a0, 0, none⟩) :: .int .i64 r1 :: undef :: undef :: .tuple #[.agg (fls r0), .int .i64 r1] :: .agg (fls x0) :: .agg (fls x0) :: .agg (vls 400 (flw x1)) :: .agg (vls 400 (flw x1)) :: .float .f32 x2 :: .int .i64 x3 :: .tuple #[.agg (fls r0), .int .i64 r1] :: .agg (fls r0) :: .int .i64 r1 :: undef :: .agg (fls x0) :: undef :: .agg (vls 400 (flw x1)) :: undef :: undef :: undef :: undef :: undef :: undef :: undef :: undef :: undef :: undef :: undef :: undef :: undef :: undef :: undef :: []).toArray, defers := [] } #[true, false, true, false, false, false, false, false, false, false, false, false, false] rfl (by rfl) (by kernel_rfl) (by kernel_rfl) (by kernel_rfl) 57 _ rfl (w.heap.size + 1) (vls 400 (flw x1)) 57 (by rfl) (by simp) _ Try.underlying57 rfl (by rw [vls_size]; exact info_k20) (by rfl) (by rfl) (kd) ?_
    refine take_val 4 { tmps := (.agg (fls x0) :: .agg (vls 400 (flw x1)) :: .float .f32 x2 :: .int .i64 x3 :: .pointer (some ⟨w.heap.size, 0, none⟩) :: .pointer (some ⟨w.heap.size + 1, 0, none⟩) :: undef :: undef :: .bool false :: .pointer (some ⟨a0, 0, none⟩) :: .int .i64 r1 :: undef :: undef :: .tuple #[.agg (fls r0), .int .i64 r1] :: .agg (fls x0) :: .agg (fls x0) :: .agg (vls 400 (flw x1)) :: .agg (vls 400 (flw x1)) :: .float .f32 x2 :: .int .i64 x3 :: .tuple #[.agg (fls r0), .int .i64 r1] :: .agg (fls r0) :: .int .i64 r1 :: undef :: .agg (fls x0) :: undef :: .agg (vls 400 (flw x1)) :: undef :: .float .f32 x2 :: undef :: undef :: undef :: undef :: undef :: undef :: undef :: undef :: undef :: undef :: undef :: undef :: undef :: []).toArray, defers := [] } #[true, false, true, false, true, false, false, false, false, false, false, false, false] (.float .f32 x2) rfl (by rfl) (by kernel_rfl) (by kernel_rfl) (by kernel_rfl) (fun w => by rfl) (by rfl) (by rfl) (kd) ?_
    refine take_val 5 { tmps := (.agg (fls x0) :: .agg (vls 400 (flw x1)) :: .float .f32 x2 :: .int .i64 x3 :: .pointer (some ⟨w.heap.size, 0, none⟩) :: .pointer (some ⟨w.heap.size + 1, 0, none⟩) :: undef :: undef :: .bool false :: .pointer (some ⟨a0, 0, none⟩) :: .int .i64 r1 :: undef :: undef :: .tuple #[.agg (fls r0), .int .i64 r1] :: .agg (fls x0) :: .agg (fls x0) :: .agg (vls 400 (flw x1)) :: .agg (vls 400 (flw x1)) :: .float .f32 x2 :: .int .i64 x3 :: .tuple #[.agg (fls r0), .int .i64 r1] :: .agg (fls r0) :: .int .i64 r1 :: undef :: .agg (fls x0) :: undef :: .agg (vls 400 (flw x1)) :: undef :: .float .f32 x2 :: .int .i64 x3 :: undef :: undef :: undef :: undef :: undef :: undef :: undef :: undef :: undef :: undef :: undef :: undef :: []).toArray, defers := [] } #[true, false, true, false, true, true, false, false, false, false, false, false, false] (.int .i64 x3) rfl (by rfl) (by kernel_rfl) (by kernel_rfl) (by kernel_rfl) (fun w => by rfl) (by rfl) (by rfl) (kd) ?_
    refine wpAnyH_ready (rs := [1, 10]) (by kernel_rfl) (by simp) ?_
    refine callK 1 { tmps := (.agg (fls x0) :: .agg (vls 400 (flw x1)) :: .float .f32 x2 :: .int .i64 x3 :: .pointer (some ⟨w.heap.size, 0, none⟩) :: .pointer (some ⟨w.heap.size + 1, 0, none⟩) :: undef :: undef :: .bool false :: .pointer (some ⟨a0, 0, none⟩) :: .int .i64 r1 :: undef :: undef :: .tuple #[.agg (fls r0), .int .i64 r1] :: .agg (fls x0) :: .agg (fls x0) :: .agg (vls 400 (flw x1)) :: .agg (vls 400 (flw x1)) :: .float .f32 x2 :: .int .i64 x3 :: .tuple #[.agg (fls r0), .int .i64 r1] :: .agg (fls r0) :: .int .i64 r1 :: undef :: .agg (fls x0) :: .agg (fls x0) :: .agg (vls 400 (flw x1)) :: undef :: .float .f32 x2 :: .int .i64 x3 :: undef :: undef :: undef :: undef :: undef :: undef :: undef :: undef :: undef :: undef :: undef :: undef :: []).toArray, defers := [] } #[true, true, true, false, true, true, false, false, false, false, false, false, false] (.agg (fls x0)) kd rfl (by rfl) 39 #[.agg (fls x0)] (run_toSizes1 _ _ _ rfl _ _ _ _ _ _) (by rfl) (by rfl) (toSizes _ _) (fun w1 k1 => ?_) ?_
    · refine ⟨k1, ?_⟩
      refine wpAnyH_ready (rs := [3, 10]) (by kernel_rfl) (by simp) ?_
      refine callK 3 { tmps := (.agg (fls x0) :: .agg (vls 400 (flw x1)) :: .float .f32 x2 :: .int .i64 x3 :: .pointer (some ⟨w.heap.size, 0, none⟩) :: .pointer (some ⟨w.heap.size + 1, 0, none⟩) :: undef :: undef :: .bool false :: .pointer (some ⟨a0, 0, none⟩) :: .int .i64 r1 :: undef :: undef :: .tuple #[.agg (fls r0), .int .i64 r1] :: .agg (fls x0) :: .agg (fls x0) :: .agg (vls 400 (flw x1)) :: .agg (vls 400 (flw x1)) :: .float .f32 x2 :: .int .i64 x3 :: .tuple #[.agg (fls r0), .int .i64 r1] :: .agg (fls r0) :: .int .i64 r1 :: undef :: .agg (fls x0) :: .agg (fls x0) :: .agg (vls 400 (flw x1)) :: .agg (vls 400 (flw x1)) :: .float .f32 x2 :: .int .i64 x3 :: undef :: undef :: undef :: undef :: undef :: undef :: undef :: undef :: undef :: undef :: undef :: undef :: []).toArray, defers := [] } #[true, true, true, true, true, true, false, false, false, false, false, false, false] (.agg (vls 400 (flw x1))) k1 rfl (by rfl) 40 #[.agg (vls 400 (flw x1))] (run_toKernel1 _ _ _ rfl _ _ _ _ _ _) (by rfl) (by rfl) (toKernel _ _) (fun w2 k2 => ?_) ?_
      · refine ⟨k2, ?_⟩
        refine wpAnyH_ready (rs := [6, 10]) (by kernel_rfl) (by simp) ?_
        refine callK 6 { tmps := (.agg (fls x0) :: .agg (vls 400 (flw x1)) :: .float .f32 x2 :: .int .i64 x3 :: .pointer (some ⟨w.heap.size, 0, none⟩) :: .pointer (some ⟨w.heap.size + 1, 0, none⟩) :: undef :: undef :: .bool false :: .pointer (some ⟨a0, 0, none⟩) :: .int .i64 r1 :: undef :: undef :: .tuple #[.agg (fls r0), .int .i64 r1] :: .agg (fls x0) :: .agg (fls x0) :: .agg (vls 400 (flw x1)) :: .agg (vls 400 (flw x1)) :: .float .f32 x2 :: .int .i64 x3 :: .tuple #[.agg (fls r0), .int .i64 r1] :: .agg (fls r0) :: .int .i64 r1 :: undef :: .agg (fls x0) :: .agg (fls x0) :: .agg (vls 400 (flw x1)) :: .agg (vls 400 (flw x1)) :: .float .f32 x2 :: .int .i64 x3 :: .tuple #[.agg (fls r0), .int .i64 r1] :: undef :: undef :: undef :: undef :: undef :: undef :: undef :: undef :: undef :: undef :: undef :: []).toArray, defers := [] } #[true, true, true, true, true, true, true, false, false, false, false, false, false] (.tuple #[.agg (fls r0), .int .i64 r1]) k2 rfl (by rfl) 49 #[.agg (fls x0), .agg (vls 400 (flw x1)), .float .f32 x2, .int .i64 x3] (run_iCollideSteps4 _ _ _ rfl _ _ rfl _ _ rfl _ _ rfl _ _ _ _ _ _) (by rfl) (by rfl) (HI.out _) (fun w3 k3 => ?_) ?_
        · refine ⟨k3, ?_⟩
          refine take_val 7 { tmps := (.agg (fls x0) :: .agg (vls 400 (flw x1)) :: .float .f32 x2 :: .int .i64 x3 :: .pointer (some ⟨w.heap.size, 0, none⟩) :: .pointer (some ⟨w.heap.size + 1, 0, none⟩) :: undef :: undef :: .bool false :: .pointer (some ⟨a0, 0, none⟩) :: .int .i64 r1 :: undef :: undef :: .tuple #[.agg (fls r0), .int .i64 r1] :: .agg (fls x0) :: .agg (fls x0) :: .agg (vls 400 (flw x1)) :: .agg (vls 400 (flw x1)) :: .float .f32 x2 :: .int .i64 x3 :: .tuple #[.agg (fls r0), .int .i64 r1] :: .agg (fls r0) :: .int .i64 r1 :: .tuple #[.agg (fls r0), .int .i64 r1] :: .agg (fls x0) :: .agg (fls x0) :: .agg (vls 400 (flw x1)) :: .agg (vls 400 (flw x1)) :: .float .f32 x2 :: .int .i64 x3 :: .tuple #[.agg (fls r0), .int .i64 r1] :: undef :: undef :: undef :: undef :: undef :: undef :: undef :: undef :: undef :: undef :: undef :: []).toArray, defers := [] } #[true, true, true, true, true, true, true, true, false, false, false, false, false] (.tuple #[.agg (fls r0), .int .i64 r1]) rfl (by rfl) (by kernel_rfl) (by kernel_rfl) (by kernel_rfl) (fun w => by rfl) (by rfl) (by rfl) (k3) ?_
          refine take_val 8 { tmps := (.agg (fls x0) :: .agg (vls 400 (flw x1)) :: .float .f32 x2 :: .int .i64 x3 :: .pointer (some ⟨w.heap.size, 0, none⟩) :: .pointer (some ⟨w.heap.size + 1, 0, none⟩) :: undef :: undef :: .bool false :: .pointer (some ⟨a0, 0, none⟩) :: .int .i64 r1 :: undef :: undef :: .tuple #[.agg (fls r0), .int .i64 r1] :: .agg (fls x0) :: .agg (fls x0) :: .agg (vls 400 (flw x1)) :: .agg (vls 400 (flw x1)) :: .float .f32 x2 :: .int .i64 x3 :: .tuple #[.agg (fls r0), .int .i64 r1] :: .agg (fls r0) :: .int .i64 r1 :: .tuple #[.agg (fls r0), .int .i64 r1] :: .agg (fls x0) :: .agg (fls x0) :: .agg (vls 400 (flw x1)) :: .agg (vls 400 (flw x1)) :: .float .f32 x2 :: .int .i64 x3 :: .tuple #[.agg (fls r0), .int .i64 r1] :: .agg (fls r0) :: undef :: undef :: undef :: undef :: undef :: undef :: undef :: undef :: undef :: undef :: []).toArray, defers := [] } #[true, true, true, true, true, true, true, true, true, false, false, false, false] (.agg (fls r0)) rfl (by rfl) (by kernel_rfl) (by kernel_rfl) (by kernel_rfl) (fun w => by rfl) (by rfl) (by rfl) (k3) ?_
          refine take_val 9 { tmps := (.agg (fls x0) :: .agg (vls 400 (flw x1)) :: .float .f32 x2 :: .int .i64 x3 :: .pointer (some ⟨w.heap.size, 0, none⟩) :: .pointer (some ⟨w.heap.size + 1, 0, none⟩) :: undef :: undef :: .bool false :: .pointer (some ⟨a0, 0, none⟩) :: .int .i64 r1 :: undef :: undef :: .tuple #[.agg (fls r0), .int .i64 r1] :: .agg (fls x0) :: .agg (fls x0) :: .agg (vls 400 (flw x1)) :: .agg (vls 400 (flw x1)) :: .float .f32 x2 :: .int .i64 x3 :: .tuple #[.agg (fls r0), .int .i64 r1] :: .agg (fls r0) :: .int .i64 r1 :: .tuple #[.agg (fls r0), .int .i64 r1] :: .agg (fls x0) :: .agg (fls x0) :: .agg (vls 400 (flw x1)) :: .agg (vls 400 (flw x1)) :: .float .f32 x2 :: .int .i64 x3 :: .tuple #[.agg (fls r0), .int .i64 r1] :: .agg (fls r0) :: .int .i64 r1 :: undef :: undef :: undef :: undef :: undef :: undef :: undef :: undef :: undef :: []).toArray, defers := [] } #[true, true, true, true, true, true, true, true, true, true, false, false, false] (.int .i64 r1) rfl (by rfl) (by kernel_rfl) (by kernel_rfl) (by kernel_rfl) (fun w => by rfl) (by rfl) (by rfl) (k3) ?_
          refine wpAnyH_ready (rs := [10]) (by kernel_rfl) (by simp) ?_
          refine allocK 10 (fun g4 => { tmps := (.agg (fls x0) :: .agg (vls 400 (flw x1)) :: .float .f32 x2 :: .int .i64 x3 :: .pointer (some ⟨w.heap.size, 0, none⟩) :: .pointer (some ⟨w.heap.size + 1, 0, none⟩) :: undef :: undef :: .bool false :: .pointer (some ⟨a0, 0, none⟩) :: .int .i64 r1 :: .pointer (some ⟨g4, 0, none⟩) :: undef :: .tuple #[.agg (fls r0), .int .i64 r1] :: .agg (fls x0) :: .agg (fls x0) :: .agg (vls 400 (flw x1)) :: .agg (vls 400 (flw x1)) :: .float .f32 x2 :: .int .i64 x3 :: .tuple #[.agg (fls r0), .int .i64 r1] :: .agg (fls r0) :: .int .i64 r1 :: .tuple #[.agg (fls r0), .int .i64 r1] :: .agg (fls x0) :: .agg (fls x0) :: .agg (vls 400 (flw x1)) :: .agg (vls 400 (flw x1)) :: .float .f32 x2 :: .int .i64 x3 :: .tuple #[.agg (fls r0), .int .i64 r1] :: .agg (fls r0) :: .int .i64 r1 :: undef :: undef :: undef :: undef :: undef :: undef :: undef :: undef :: undef :: []).toArray, defers := [] }) #[true, true, true, true, true, true, true, true, true, true, true, false, false] k3 rfl (by rfl) (fls fun _ => 0) 61 (alloc_sizes _ _ _ _ _ _ _) (fun g => by rfl) (by rfl) (fun w4 g4 k4 hB4 hn4 => ?_) AllReadyH.nil
          refine ⟨k4.tail, ?_⟩
          refine wpAnyH_ready (rs := [11]) (by kernel_rfl) (by simp) ?_
          refine storeK 11 { tmps := (.agg (fls x0) :: .agg (vls 400 (flw x1)) :: .float .f32 x2 :: .int .i64 x3 :: .pointer (some ⟨w.heap.size, 0, none⟩) :: .pointer (some ⟨w.heap.size + 1, 0, none⟩) :: undef :: undef :: .bool false :: .pointer (some ⟨a0, 0, none⟩) :: .int .i64 r1 :: .pointer (some ⟨g4, 0, none⟩) :: undef :: .tuple #[.agg (fls r0), .int .i64 r1] :: .agg (fls x0) :: .agg (fls x0) :: .agg (vls 400 (flw x1)) :: .agg (vls 400 (flw x1)) :: .float .f32 x2 :: .int .i64 x3 :: .tuple #[.agg (fls r0), .int .i64 r1] :: .agg (fls r0) :: .int .i64 r1 :: .tuple #[.agg (fls r0), .int .i64 r1] :: .agg (fls x0) :: .agg (fls x0) :: .agg (vls 400 (flw x1)) :: .agg (vls 400 (flw x1)) :: .float .f32 x2 :: .int .i64 x3 :: .tuple #[.agg (fls r0), .int .i64 r1] :: .agg (fls r0) :: .int .i64 r1 :: undef :: undef :: undef :: undef :: undef :: undef :: undef :: undef :: undef :: []).toArray, defers := [] } #[true, true, true, true, true, true, true, true, true, true, true, true, false] k4 hB4 hn4 rfl (by rfl) 61 _ _ rfl (fls r0) (by rfl) (by rfl) (by rw [fls_size]; exact info_arr) (by simp) (fls_one _) (by rfl) (by rfl) (fun w5 k5 => ?_) AllReadyH.nil
          refine ⟨k5.tail, ?_⟩
          refine take_val 12 { tmps := (.agg (fls x0) :: .agg (vls 400 (flw x1)) :: .float .f32 x2 :: .int .i64 x3 :: .pointer (some ⟨w.heap.size, 0, none⟩) :: .pointer (some ⟨w.heap.size + 1, 0, none⟩) :: undef :: undef :: .bool false :: .pointer (some ⟨a0, 0, none⟩) :: .int .i64 r1 :: .pointer (some ⟨g4, 0, none⟩) :: .int .i64 r1 :: .tuple #[.agg (fls r0), .int .i64 r1] :: .agg (fls x0) :: .agg (fls x0) :: .agg (vls 400 (flw x1)) :: .agg (vls 400 (flw x1)) :: .float .f32 x2 :: .int .i64 x3 :: .tuple #[.agg (fls r0), .int .i64 r1] :: .agg (fls r0) :: .int .i64 r1 :: .tuple #[.agg (fls r0), .int .i64 r1] :: .agg (fls x0) :: .agg (fls x0) :: .agg (vls 400 (flw x1)) :: .agg (vls 400 (flw x1)) :: .float .f32 x2 :: .int .i64 x3 :: .tuple #[.agg (fls r0), .int .i64 r1] :: .agg (fls r0) :: .int .i64 r1 :: undef :: undef :: undef :: undef :: undef :: undef :: undef :: undef :: undef :: []).toArray, defers := [] } #[true, true, true, true, true, true, true, true, true, true, true, true, true] (.int .i64 r1) rfl (by rfl) (by kernel_rfl) (by kernel_rfl) (by kernel_rfl) (fun w => by rfl) (by rfl) (by rfl) (k5.tail) ?_
          exact wpAnyH_done (by kernel_rfl) (NoPanic.normal (key2 g4 _ (hid k5))) _
        refine allocK 10 (fun g6 => { tmps := (.agg (fls x0) :: .agg (vls 400 (flw x1)) :: .float .f32 x2 :: .int .i64 x3 :: .pointer (some ⟨w.heap.size, 0, none⟩) :: .pointer (some ⟨w.heap.size + 1, 0, none⟩) :: undef :: undef :: .bool false :: .pointer (some ⟨a0, 0, none⟩) :: .int .i64 r1 :: .pointer (some ⟨g6, 0, none⟩) :: undef :: .tuple #[.agg (fls r0), .int .i64 r1] :: .agg (fls x0) :: .agg (fls x0) :: .agg (vls 400 (flw x1)) :: .agg (vls 400 (flw x1)) :: .float .f32 x2 :: .int .i64 x3 :: .tuple #[.agg (fls r0), .int .i64 r1] :: .agg (fls r0) :: .int .i64 r1 :: undef :: .agg (fls x0) :: .agg (fls x0) :: .agg (vls 400 (flw x1)) :: .agg (vls 400 (flw x1)) :: .float .f32 x2 :: .int .i64 x3 :: undef :: undef :: undef :: undef :: undef :: undef :: undef :: undef :: undef :: undef :: undef :: undef :: []).toArray, defers := [] }) #[true, true, true, true, true, true, false, false, false, false, true, false, false] k2 rfl (by rfl) (fls fun _ => 0) 61 (alloc_sizes _ _ _ _ _ _ _) (fun g => by rfl) (by rfl) (fun w6 g6 k6 hB6 hn6 => ?_) AllReadyH.nil
        refine ⟨k6.tail, ?_⟩
        refine wpAnyH_ready (rs := [6]) (by kernel_rfl) (by simp) ?_
        refine callK 6 { tmps := (.agg (fls x0) :: .agg (vls 400 (flw x1)) :: .float .f32 x2 :: .int .i64 x3 :: .pointer (some ⟨w.heap.size, 0, none⟩) :: .pointer (some ⟨w.heap.size + 1, 0, none⟩) :: undef :: undef :: .bool false :: .pointer (some ⟨a0, 0, none⟩) :: .int .i64 r1 :: .pointer (some ⟨g6, 0, none⟩) :: undef :: .tuple #[.agg (fls r0), .int .i64 r1] :: .agg (fls x0) :: .agg (fls x0) :: .agg (vls 400 (flw x1)) :: .agg (vls 400 (flw x1)) :: .float .f32 x2 :: .int .i64 x3 :: .tuple #[.agg (fls r0), .int .i64 r1] :: .agg (fls r0) :: .int .i64 r1 :: undef :: .agg (fls x0) :: .agg (fls x0) :: .agg (vls 400 (flw x1)) :: .agg (vls 400 (flw x1)) :: .float .f32 x2 :: .int .i64 x3 :: .tuple #[.agg (fls r0), .int .i64 r1] :: undef :: undef :: undef :: undef :: undef :: undef :: undef :: undef :: undef :: undef :: undef :: []).toArray, defers := [] } #[true, true, true, true, true, true, true, false, false, false, true, false, false] (.tuple #[.agg (fls r0), .int .i64 r1]) k6 rfl (by rfl) 49 #[.agg (fls x0), .agg (vls 400 (flw x1)), .float .f32 x2, .int .i64 x3] (run_iCollideSteps4 _ _ _ rfl _ _ rfl _ _ rfl _ _ rfl _ _ _ _ _ _) (by rfl) (by rfl) (HI.out _) (fun w7 k7 => ?_) AllReadyH.nil
        refine ⟨k7.tail, ?_⟩
        refine take_val 7 { tmps := (.agg (fls x0) :: .agg (vls 400 (flw x1)) :: .float .f32 x2 :: .int .i64 x3 :: .pointer (some ⟨w.heap.size, 0, none⟩) :: .pointer (some ⟨w.heap.size + 1, 0, none⟩) :: undef :: undef :: .bool false :: .pointer (some ⟨a0, 0, none⟩) :: .int .i64 r1 :: .pointer (some ⟨g6, 0, none⟩) :: undef :: .tuple #[.agg (fls r0), .int .i64 r1] :: .agg (fls x0) :: .agg (fls x0) :: .agg (vls 400 (flw x1)) :: .agg (vls 400 (flw x1)) :: .float .f32 x2 :: .int .i64 x3 :: .tuple #[.agg (fls r0), .int .i64 r1] :: .agg (fls r0) :: .int .i64 r1 :: .tuple #[.agg (fls r0), .int .i64 r1] :: .agg (fls x0) :: .agg (fls x0) :: .agg (vls 400 (flw x1)) :: .agg (vls 400 (flw x1)) :: .float .f32 x2 :: .int .i64 x3 :: .tuple #[.agg (fls r0), .int .i64 r1] :: undef :: undef :: undef :: undef :: undef :: undef :: undef :: undef :: undef :: undef :: undef :: []).toArray, defers := [] } #[true, true, true, true, true, true, true, true, false, false, true, false, false] (.tuple #[.agg (fls r0), .int .i64 r1]) rfl (by rfl) (by kernel_rfl) (by kernel_rfl) (by kernel_rfl) (fun w => by rfl) (by rfl) (by rfl) (k7.tail) ?_
        refine take_val 8 { tmps := (.agg (fls x0) :: .agg (vls 400 (flw x1)) :: .float .f32 x2 :: .int .i64 x3 :: .pointer (some ⟨w.heap.size, 0, none⟩) :: .pointer (some ⟨w.heap.size + 1, 0, none⟩) :: undef :: undef :: .bool false :: .pointer (some ⟨a0, 0, none⟩) :: .int .i64 r1 :: .pointer (some ⟨g6, 0, none⟩) :: undef :: .tuple #[.agg (fls r0), .int .i64 r1] :: .agg (fls x0) :: .agg (fls x0) :: .agg (vls 400 (flw x1)) :: .agg (vls 400 (flw x1)) :: .float .f32 x2 :: .int .i64 x3 :: .tuple #[.agg (fls r0), .int .i64 r1] :: .agg (fls r0) :: .int .i64 r1 :: .tuple #[.agg (fls r0), .int .i64 r1] :: .agg (fls x0) :: .agg (fls x0) :: .agg (vls 400 (flw x1)) :: .agg (vls 400 (flw x1)) :: .float .f32 x2 :: .int .i64 x3 :: .tuple #[.agg (fls r0), .int .i64 r1] :: .agg (fls r0) :: undef :: undef :: undef :: undef :: undef :: undef :: undef :: undef :: undef :: undef :: []).toArray, defers := [] } #[true, true, true, true, true, true, true, true, true, false, true, false, false] (.agg (fls r0)) rfl (by rfl) (by kernel_rfl) (by kernel_rfl) (by kernel_rfl) (fun w => by rfl) (by rfl) (by rfl) (k7.tail) ?_
        refine take_val 9 { tmps := (.agg (fls x0) :: .agg (vls 400 (flw x1)) :: .float .f32 x2 :: .int .i64 x3 :: .pointer (some ⟨w.heap.size, 0, none⟩) :: .pointer (some ⟨w.heap.size + 1, 0, none⟩) :: undef :: undef :: .bool false :: .pointer (some ⟨a0, 0, none⟩) :: .int .i64 r1 :: .pointer (some ⟨g6, 0, none⟩) :: undef :: .tuple #[.agg (fls r0), .int .i64 r1] :: .agg (fls x0) :: .agg (fls x0) :: .agg (vls 400 (flw x1)) :: .agg (vls 400 (flw x1)) :: .float .f32 x2 :: .int .i64 x3 :: .tuple #[.agg (fls r0), .int .i64 r1] :: .agg (fls r0) :: .int .i64 r1 :: .tuple #[.agg (fls r0), .int .i64 r1] :: .agg (fls x0) :: .agg (fls x0) :: .agg (vls 400 (flw x1)) :: .agg (vls 400 (flw x1)) :: .float .f32 x2 :: .int .i64 x3 :: .tuple #[.agg (fls r0), .int .i64 r1] :: .agg (fls r0) :: .int .i64 r1 :: undef :: undef :: undef :: undef :: undef :: undef :: undef :: undef :: undef :: []).toArray, defers := [] } #[true, true, true, true, true, true, true, true, true, true, true, false, false] (.int .i64 r1) rfl (by rfl) (by kernel_rfl) (by kernel_rfl) (by kernel_rfl) (fun w => by rfl) (by rfl) (by rfl) (k7.tail) ?_
        refine wpAnyH_ready (rs := [11]) (by kernel_rfl) (by simp) ?_
        refine storeK 11 { tmps := (.agg (fls x0) :: .agg (vls 400 (flw x1)) :: .float .f32 x2 :: .int .i64 x3 :: .pointer (some ⟨w.heap.size, 0, none⟩) :: .pointer (some ⟨w.heap.size + 1, 0, none⟩) :: undef :: undef :: .bool false :: .pointer (some ⟨a0, 0, none⟩) :: .int .i64 r1 :: .pointer (some ⟨g6, 0, none⟩) :: undef :: .tuple #[.agg (fls r0), .int .i64 r1] :: .agg (fls x0) :: .agg (fls x0) :: .agg (vls 400 (flw x1)) :: .agg (vls 400 (flw x1)) :: .float .f32 x2 :: .int .i64 x3 :: .tuple #[.agg (fls r0), .int .i64 r1] :: .agg (fls r0) :: .int .i64 r1 :: .tuple #[.agg (fls r0), .int .i64 r1] :: .agg (fls x0) :: .agg (fls x0) :: .agg (vls 400 (flw x1)) :: .agg (vls 400 (flw x1)) :: .float .f32 x2 :: .int .i64 x3 :: .tuple #[.agg (fls r0), .int .i64 r1] :: .agg (fls r0) :: .int .i64 r1 :: undef :: undef :: undef :: undef :: undef :: undef :: undef :: undef :: undef :: []).toArray, defers := [] } #[true, true, true, true, true, true, true, true, true, true, true, true, false] k7 hB6 hn6 rfl (by rfl) 61 _ _ rfl (fls r0) (by rfl) (by rfl) (by rw [fls_size]; exact info_arr) (by simp) (fls_one _) (by rfl) (by rfl) (fun w8 k8 => ?_) AllReadyH.nil
        refine ⟨k8.tail, ?_⟩
        refine take_val 12 { tmps := (.agg (fls x0) :: .agg (vls 400 (flw x1)) :: .float .f32 x2 :: .int .i64 x3 :: .pointer (some ⟨w.heap.size, 0, none⟩) :: .pointer (some ⟨w.heap.size + 1, 0, none⟩) :: undef :: undef :: .bool false :: .pointer (some ⟨a0, 0, none⟩) :: .int .i64 r1 :: .pointer (some ⟨g6, 0, none⟩) :: .int .i64 r1 :: .tuple #[.agg (fls r0), .int .i64 r1] :: .agg (fls x0) :: .agg (fls x0) :: .agg (vls 400 (flw x1)) :: .agg (vls 400 (flw x1)) :: .float .f32 x2 :: .int .i64 x3 :: .tuple #[.agg (fls r0), .int .i64 r1] :: .agg (fls r0) :: .int .i64 r1 :: .tuple #[.agg (fls r0), .int .i64 r1] :: .agg (fls x0) :: .agg (fls x0) :: .agg (vls 400 (flw x1)) :: .agg (vls 400 (flw x1)) :: .float .f32 x2 :: .int .i64 x3 :: .tuple #[.agg (fls r0), .int .i64 r1] :: .agg (fls r0) :: .int .i64 r1 :: undef :: undef :: undef :: undef :: undef :: undef :: undef :: undef :: undef :: []).toArray, defers := [] } #[true, true, true, true, true, true, true, true, true, true, true, true, true] (.int .i64 r1) rfl (by rfl) (by kernel_rfl) (by kernel_rfl) (by kernel_rfl) (fun w => by rfl) (by rfl) (by rfl) (k8.tail) ?_
        exact wpAnyH_done (by kernel_rfl) (NoPanic.normal (key2 g6 _ (hid k8))) _
      refine allocK 10 (fun g9 => { tmps := (.agg (fls x0) :: .agg (vls 400 (flw x1)) :: .float .f32 x2 :: .int .i64 x3 :: .pointer (some ⟨w.heap.size, 0, none⟩) :: .pointer (some ⟨w.heap.size + 1, 0, none⟩) :: undef :: undef :: .bool false :: .pointer (some ⟨a0, 0, none⟩) :: .int .i64 r1 :: .pointer (some ⟨g9, 0, none⟩) :: undef :: .tuple #[.agg (fls r0), .int .i64 r1] :: .agg (fls x0) :: .agg (fls x0) :: .agg (vls 400 (flw x1)) :: .agg (vls 400 (flw x1)) :: .float .f32 x2 :: .int .i64 x3 :: .tuple #[.agg (fls r0), .int .i64 r1] :: .agg (fls r0) :: .int .i64 r1 :: undef :: .agg (fls x0) :: .agg (fls x0) :: .agg (vls 400 (flw x1)) :: undef :: .float .f32 x2 :: .int .i64 x3 :: undef :: undef :: undef :: undef :: undef :: undef :: undef :: undef :: undef :: undef :: undef :: undef :: []).toArray, defers := [] }) #[true, true, true, false, true, true, false, false, false, false, true, false, false] k1 rfl (by rfl) (fls fun _ => 0) 61 (alloc_sizes _ _ _ _ _ _ _) (fun g => by rfl) (by rfl) (fun w9 g9 k9 hB9 hn9 => ?_) AllReadyH.nil
      refine ⟨k9.tail, ?_⟩
      refine wpAnyH_ready (rs := [3]) (by kernel_rfl) (by simp) ?_
      refine callK 3 { tmps := (.agg (fls x0) :: .agg (vls 400 (flw x1)) :: .float .f32 x2 :: .int .i64 x3 :: .pointer (some ⟨w.heap.size, 0, none⟩) :: .pointer (some ⟨w.heap.size + 1, 0, none⟩) :: undef :: undef :: .bool false :: .pointer (some ⟨a0, 0, none⟩) :: .int .i64 r1 :: .pointer (some ⟨g9, 0, none⟩) :: undef :: .tuple #[.agg (fls r0), .int .i64 r1] :: .agg (fls x0) :: .agg (fls x0) :: .agg (vls 400 (flw x1)) :: .agg (vls 400 (flw x1)) :: .float .f32 x2 :: .int .i64 x3 :: .tuple #[.agg (fls r0), .int .i64 r1] :: .agg (fls r0) :: .int .i64 r1 :: undef :: .agg (fls x0) :: .agg (fls x0) :: .agg (vls 400 (flw x1)) :: .agg (vls 400 (flw x1)) :: .float .f32 x2 :: .int .i64 x3 :: undef :: undef :: undef :: undef :: undef :: undef :: undef :: undef :: undef :: undef :: undef :: undef :: []).toArray, defers := [] } #[true, true, true, true, true, true, false, false, false, false, true, false, false] (.agg (vls 400 (flw x1))) k9 rfl (by rfl) 40 #[.agg (vls 400 (flw x1))] (run_toKernel1 _ _ _ rfl _ _ _ _ _ _) (by rfl) (by rfl) (toKernel _ _) (fun w10 k10 => ?_) AllReadyH.nil
      refine ⟨k10.tail, ?_⟩
      refine wpAnyH_ready (rs := [6]) (by kernel_rfl) (by simp) ?_
      refine callK 6 { tmps := (.agg (fls x0) :: .agg (vls 400 (flw x1)) :: .float .f32 x2 :: .int .i64 x3 :: .pointer (some ⟨w.heap.size, 0, none⟩) :: .pointer (some ⟨w.heap.size + 1, 0, none⟩) :: undef :: undef :: .bool false :: .pointer (some ⟨a0, 0, none⟩) :: .int .i64 r1 :: .pointer (some ⟨g9, 0, none⟩) :: undef :: .tuple #[.agg (fls r0), .int .i64 r1] :: .agg (fls x0) :: .agg (fls x0) :: .agg (vls 400 (flw x1)) :: .agg (vls 400 (flw x1)) :: .float .f32 x2 :: .int .i64 x3 :: .tuple #[.agg (fls r0), .int .i64 r1] :: .agg (fls r0) :: .int .i64 r1 :: undef :: .agg (fls x0) :: .agg (fls x0) :: .agg (vls 400 (flw x1)) :: .agg (vls 400 (flw x1)) :: .float .f32 x2 :: .int .i64 x3 :: .tuple #[.agg (fls r0), .int .i64 r1] :: undef :: undef :: undef :: undef :: undef :: undef :: undef :: undef :: undef :: undef :: undef :: []).toArray, defers := [] } #[true, true, true, true, true, true, true, false, false, false, true, false, false] (.tuple #[.agg (fls r0), .int .i64 r1]) k10 rfl (by rfl) 49 #[.agg (fls x0), .agg (vls 400 (flw x1)), .float .f32 x2, .int .i64 x3] (run_iCollideSteps4 _ _ _ rfl _ _ rfl _ _ rfl _ _ rfl _ _ _ _ _ _) (by rfl) (by rfl) (HI.out _) (fun w11 k11 => ?_) AllReadyH.nil
      refine ⟨k11.tail, ?_⟩
      refine take_val 7 { tmps := (.agg (fls x0) :: .agg (vls 400 (flw x1)) :: .float .f32 x2 :: .int .i64 x3 :: .pointer (some ⟨w.heap.size, 0, none⟩) :: .pointer (some ⟨w.heap.size + 1, 0, none⟩) :: undef :: undef :: .bool false :: .pointer (some ⟨a0, 0, none⟩) :: .int .i64 r1 :: .pointer (some ⟨g9, 0, none⟩) :: undef :: .tuple #[.agg (fls r0), .int .i64 r1] :: .agg (fls x0) :: .agg (fls x0) :: .agg (vls 400 (flw x1)) :: .agg (vls 400 (flw x1)) :: .float .f32 x2 :: .int .i64 x3 :: .tuple #[.agg (fls r0), .int .i64 r1] :: .agg (fls r0) :: .int .i64 r1 :: .tuple #[.agg (fls r0), .int .i64 r1] :: .agg (fls x0) :: .agg (fls x0) :: .agg (vls 400 (flw x1)) :: .agg (vls 400 (flw x1)) :: .float .f32 x2 :: .int .i64 x3 :: .tuple #[.agg (fls r0), .int .i64 r1] :: undef :: undef :: undef :: undef :: undef :: undef :: undef :: undef :: undef :: undef :: undef :: []).toArray, defers := [] } #[true, true, true, true, true, true, true, true, false, false, true, false, false] (.tuple #[.agg (fls r0), .int .i64 r1]) rfl (by rfl) (by kernel_rfl) (by kernel_rfl) (by kernel_rfl) (fun w => by rfl) (by rfl) (by rfl) (k11.tail) ?_
      refine take_val 8 { tmps := (.agg (fls x0) :: .agg (vls 400 (flw x1)) :: .float .f32 x2 :: .int .i64 x3 :: .pointer (some ⟨w.heap.size, 0, none⟩) :: .pointer (some ⟨w.heap.size + 1, 0, none⟩) :: undef :: undef :: .bool false :: .pointer (some ⟨a0, 0, none⟩) :: .int .i64 r1 :: .pointer (some ⟨g9, 0, none⟩) :: undef :: .tuple #[.agg (fls r0), .int .i64 r1] :: .agg (fls x0) :: .agg (fls x0) :: .agg (vls 400 (flw x1)) :: .agg (vls 400 (flw x1)) :: .float .f32 x2 :: .int .i64 x3 :: .tuple #[.agg (fls r0), .int .i64 r1] :: .agg (fls r0) :: .int .i64 r1 :: .tuple #[.agg (fls r0), .int .i64 r1] :: .agg (fls x0) :: .agg (fls x0) :: .agg (vls 400 (flw x1)) :: .agg (vls 400 (flw x1)) :: .float .f32 x2 :: .int .i64 x3 :: .tuple #[.agg (fls r0), .int .i64 r1] :: .agg (fls r0) :: undef :: undef :: undef :: undef :: undef :: undef :: undef :: undef :: undef :: undef :: []).toArray, defers := [] } #[true, true, true, true, true, true, true, true, true, false, true, false, false] (.agg (fls r0)) rfl (by rfl) (by kernel_rfl) (by kernel_rfl) (by kernel_rfl) (fun w => by rfl) (by rfl) (by rfl) (k11.tail) ?_
      refine take_val 9 { tmps := (.agg (fls x0) :: .agg (vls 400 (flw x1)) :: .float .f32 x2 :: .int .i64 x3 :: .pointer (some ⟨w.heap.size, 0, none⟩) :: .pointer (some ⟨w.heap.size + 1, 0, none⟩) :: undef :: undef :: .bool false :: .pointer (some ⟨a0, 0, none⟩) :: .int .i64 r1 :: .pointer (some ⟨g9, 0, none⟩) :: undef :: .tuple #[.agg (fls r0), .int .i64 r1] :: .agg (fls x0) :: .agg (fls x0) :: .agg (vls 400 (flw x1)) :: .agg (vls 400 (flw x1)) :: .float .f32 x2 :: .int .i64 x3 :: .tuple #[.agg (fls r0), .int .i64 r1] :: .agg (fls r0) :: .int .i64 r1 :: .tuple #[.agg (fls r0), .int .i64 r1] :: .agg (fls x0) :: .agg (fls x0) :: .agg (vls 400 (flw x1)) :: .agg (vls 400 (flw x1)) :: .float .f32 x2 :: .int .i64 x3 :: .tuple #[.agg (fls r0), .int .i64 r1] :: .agg (fls r0) :: .int .i64 r1 :: undef :: undef :: undef :: undef :: undef :: undef :: undef :: undef :: undef :: []).toArray, defers := [] } #[true, true, true, true, true, true, true, true, true, true, true, false, false] (.int .i64 r1) rfl (by rfl) (by kernel_rfl) (by kernel_rfl) (by kernel_rfl) (fun w => by rfl) (by rfl) (by rfl) (k11.tail) ?_
      refine wpAnyH_ready (rs := [11]) (by kernel_rfl) (by simp) ?_
      refine storeK 11 { tmps := (.agg (fls x0) :: .agg (vls 400 (flw x1)) :: .float .f32 x2 :: .int .i64 x3 :: .pointer (some ⟨w.heap.size, 0, none⟩) :: .pointer (some ⟨w.heap.size + 1, 0, none⟩) :: undef :: undef :: .bool false :: .pointer (some ⟨a0, 0, none⟩) :: .int .i64 r1 :: .pointer (some ⟨g9, 0, none⟩) :: undef :: .tuple #[.agg (fls r0), .int .i64 r1] :: .agg (fls x0) :: .agg (fls x0) :: .agg (vls 400 (flw x1)) :: .agg (vls 400 (flw x1)) :: .float .f32 x2 :: .int .i64 x3 :: .tuple #[.agg (fls r0), .int .i64 r1] :: .agg (fls r0) :: .int .i64 r1 :: .tuple #[.agg (fls r0), .int .i64 r1] :: .agg (fls x0) :: .agg (fls x0) :: .agg (vls 400 (flw x1)) :: .agg (vls 400 (flw x1)) :: .float .f32 x2 :: .int .i64 x3 :: .tuple #[.agg (fls r0), .int .i64 r1] :: .agg (fls r0) :: .int .i64 r1 :: undef :: undef :: undef :: undef :: undef :: undef :: undef :: undef :: undef :: []).toArray, defers := [] } #[true, true, true, true, true, true, true, true, true, true, true, true, false] k11 hB9 hn9 rfl (by rfl) 61 _ _ rfl (fls r0) (by rfl) (by rfl) (by rw [fls_size]; exact info_arr) (by simp) (fls_one _) (by rfl) (by rfl) (fun w12 k12 => ?_) AllReadyH.nil
      refine ⟨k12.tail, ?_⟩
      refine take_val 12 { tmps := (.agg (fls x0) :: .agg (vls 400 (flw x1)) :: .float .f32 x2 :: .int .i64 x3 :: .pointer (some ⟨w.heap.size, 0, none⟩) :: .pointer (some ⟨w.heap.size + 1, 0, none⟩) :: undef :: undef :: .bool false :: .pointer (some ⟨a0, 0, none⟩) :: .int .i64 r1 :: .pointer (some ⟨g9, 0, none⟩) :: .int .i64 r1 :: .tuple #[.agg (fls r0), .int .i64 r1] :: .agg (fls x0) :: .agg (fls x0) :: .agg (vls 400 (flw x1)) :: .agg (vls 400 (flw x1)) :: .float .f32 x2 :: .int .i64 x3 :: .tuple #[.agg (fls r0), .int .i64 r1] :: .agg (fls r0) :: .int .i64 r1 :: .tuple #[.agg (fls r0), .int .i64 r1] :: .agg (fls x0) :: .agg (fls x0) :: .agg (vls 400 (flw x1)) :: .agg (vls 400 (flw x1)) :: .float .f32 x2 :: .int .i64 x3 :: .tuple #[.agg (fls r0), .int .i64 r1] :: .agg (fls r0) :: .int .i64 r1 :: undef :: undef :: undef :: undef :: undef :: undef :: undef :: undef :: undef :: []).toArray, defers := [] } #[true, true, true, true, true, true, true, true, true, true, true, true, true] (.int .i64 r1) rfl (by rfl) (by kernel_rfl) (by kernel_rfl) (by kernel_rfl) (fun w => by rfl) (by rfl) (by rfl) (k12.tail) ?_
      exact wpAnyH_done (by kernel_rfl) (NoPanic.normal (key2 g9 _ (hid k12))) _
    refine allocK 10 (fun g13 => { tmps := (.agg (fls x0) :: .agg (vls 400 (flw x1)) :: .float .f32 x2 :: .int .i64 x3 :: .pointer (some ⟨w.heap.size, 0, none⟩) :: .pointer (some ⟨w.heap.size + 1, 0, none⟩) :: undef :: undef :: .bool false :: .pointer (some ⟨a0, 0, none⟩) :: .int .i64 r1 :: .pointer (some ⟨g13, 0, none⟩) :: undef :: .tuple #[.agg (fls r0), .int .i64 r1] :: .agg (fls x0) :: .agg (fls x0) :: .agg (vls 400 (flw x1)) :: .agg (vls 400 (flw x1)) :: .float .f32 x2 :: .int .i64 x3 :: .tuple #[.agg (fls r0), .int .i64 r1] :: .agg (fls r0) :: .int .i64 r1 :: undef :: .agg (fls x0) :: undef :: .agg (vls 400 (flw x1)) :: undef :: .float .f32 x2 :: .int .i64 x3 :: undef :: undef :: undef :: undef :: undef :: undef :: undef :: undef :: undef :: undef :: undef :: undef :: []).toArray, defers := [] }) #[true, false, true, false, true, true, false, false, false, false, true, false, false] kd rfl (by rfl) (fls fun _ => 0) 61 (alloc_sizes _ _ _ _ _ _ _) (fun g => by rfl) (by rfl) (fun w13 g13 k13 hB13 hn13 => ?_) AllReadyH.nil
    refine ⟨k13.tail, ?_⟩
    refine wpAnyH_ready (rs := [1]) (by kernel_rfl) (by simp) ?_
    refine callK 1 { tmps := (.agg (fls x0) :: .agg (vls 400 (flw x1)) :: .float .f32 x2 :: .int .i64 x3 :: .pointer (some ⟨w.heap.size, 0, none⟩) :: .pointer (some ⟨w.heap.size + 1, 0, none⟩) :: undef :: undef :: .bool false :: .pointer (some ⟨a0, 0, none⟩) :: .int .i64 r1 :: .pointer (some ⟨g13, 0, none⟩) :: undef :: .tuple #[.agg (fls r0), .int .i64 r1] :: .agg (fls x0) :: .agg (fls x0) :: .agg (vls 400 (flw x1)) :: .agg (vls 400 (flw x1)) :: .float .f32 x2 :: .int .i64 x3 :: .tuple #[.agg (fls r0), .int .i64 r1] :: .agg (fls r0) :: .int .i64 r1 :: undef :: .agg (fls x0) :: .agg (fls x0) :: .agg (vls 400 (flw x1)) :: undef :: .float .f32 x2 :: .int .i64 x3 :: undef :: undef :: undef :: undef :: undef :: undef :: undef :: undef :: undef :: undef :: undef :: undef :: []).toArray, defers := [] } #[true, true, true, false, true, true, false, false, false, false, true, false, false] (.agg (fls x0)) k13 rfl (by rfl) 39 #[.agg (fls x0)] (run_toSizes1 _ _ _ rfl _ _ _ _ _ _) (by rfl) (by rfl) (toSizes _ _) (fun w14 k14 => ?_) AllReadyH.nil
    refine ⟨k14.tail, ?_⟩
    refine wpAnyH_ready (rs := [3]) (by kernel_rfl) (by simp) ?_
    refine callK 3 { tmps := (.agg (fls x0) :: .agg (vls 400 (flw x1)) :: .float .f32 x2 :: .int .i64 x3 :: .pointer (some ⟨w.heap.size, 0, none⟩) :: .pointer (some ⟨w.heap.size + 1, 0, none⟩) :: undef :: undef :: .bool false :: .pointer (some ⟨a0, 0, none⟩) :: .int .i64 r1 :: .pointer (some ⟨g13, 0, none⟩) :: undef :: .tuple #[.agg (fls r0), .int .i64 r1] :: .agg (fls x0) :: .agg (fls x0) :: .agg (vls 400 (flw x1)) :: .agg (vls 400 (flw x1)) :: .float .f32 x2 :: .int .i64 x3 :: .tuple #[.agg (fls r0), .int .i64 r1] :: .agg (fls r0) :: .int .i64 r1 :: undef :: .agg (fls x0) :: .agg (fls x0) :: .agg (vls 400 (flw x1)) :: .agg (vls 400 (flw x1)) :: .float .f32 x2 :: .int .i64 x3 :: undef :: undef :: undef :: undef :: undef :: undef :: undef :: undef :: undef :: undef :: undef :: undef :: []).toArray, defers := [] } #[true, true, true, true, true, true, false, false, false, false, true, false, false] (.agg (vls 400 (flw x1))) k14 rfl (by rfl) 40 #[.agg (vls 400 (flw x1))] (run_toKernel1 _ _ _ rfl _ _ _ _ _ _) (by rfl) (by rfl) (toKernel _ _) (fun w15 k15 => ?_) AllReadyH.nil
    refine ⟨k15.tail, ?_⟩
    refine wpAnyH_ready (rs := [6]) (by kernel_rfl) (by simp) ?_
    refine callK 6 { tmps := (.agg (fls x0) :: .agg (vls 400 (flw x1)) :: .float .f32 x2 :: .int .i64 x3 :: .pointer (some ⟨w.heap.size, 0, none⟩) :: .pointer (some ⟨w.heap.size + 1, 0, none⟩) :: undef :: undef :: .bool false :: .pointer (some ⟨a0, 0, none⟩) :: .int .i64 r1 :: .pointer (some ⟨g13, 0, none⟩) :: undef :: .tuple #[.agg (fls r0), .int .i64 r1] :: .agg (fls x0) :: .agg (fls x0) :: .agg (vls 400 (flw x1)) :: .agg (vls 400 (flw x1)) :: .float .f32 x2 :: .int .i64 x3 :: .tuple #[.agg (fls r0), .int .i64 r1] :: .agg (fls r0) :: .int .i64 r1 :: undef :: .agg (fls x0) :: .agg (fls x0) :: .agg (vls 400 (flw x1)) :: .agg (vls 400 (flw x1)) :: .float .f32 x2 :: .int .i64 x3 :: .tuple #[.agg (fls r0), .int .i64 r1] :: undef :: undef :: undef :: undef :: undef :: undef :: undef :: undef :: undef :: undef :: undef :: []).toArray, defers := [] } #[true, true, true, true, true, true, true, false, false, false, true, false, false] (.tuple #[.agg (fls r0), .int .i64 r1]) k15 rfl (by rfl) 49 #[.agg (fls x0), .agg (vls 400 (flw x1)), .float .f32 x2, .int .i64 x3] (run_iCollideSteps4 _ _ _ rfl _ _ rfl _ _ rfl _ _ rfl _ _ _ _ _ _) (by rfl) (by rfl) (HI.out _) (fun w16 k16 => ?_) AllReadyH.nil
    refine ⟨k16.tail, ?_⟩
    refine take_val 7 { tmps := (.agg (fls x0) :: .agg (vls 400 (flw x1)) :: .float .f32 x2 :: .int .i64 x3 :: .pointer (some ⟨w.heap.size, 0, none⟩) :: .pointer (some ⟨w.heap.size + 1, 0, none⟩) :: undef :: undef :: .bool false :: .pointer (some ⟨a0, 0, none⟩) :: .int .i64 r1 :: .pointer (some ⟨g13, 0, none⟩) :: undef :: .tuple #[.agg (fls r0), .int .i64 r1] :: .agg (fls x0) :: .agg (fls x0) :: .agg (vls 400 (flw x1)) :: .agg (vls 400 (flw x1)) :: .float .f32 x2 :: .int .i64 x3 :: .tuple #[.agg (fls r0), .int .i64 r1] :: .agg (fls r0) :: .int .i64 r1 :: .tuple #[.agg (fls r0), .int .i64 r1] :: .agg (fls x0) :: .agg (fls x0) :: .agg (vls 400 (flw x1)) :: .agg (vls 400 (flw x1)) :: .float .f32 x2 :: .int .i64 x3 :: .tuple #[.agg (fls r0), .int .i64 r1] :: undef :: undef :: undef :: undef :: undef :: undef :: undef :: undef :: undef :: undef :: undef :: []).toArray, defers := [] } #[true, true, true, true, true, true, true, true, false, false, true, false, false] (.tuple #[.agg (fls r0), .int .i64 r1]) rfl (by rfl) (by kernel_rfl) (by kernel_rfl) (by kernel_rfl) (fun w => by rfl) (by rfl) (by rfl) (k16.tail) ?_
    refine take_val 8 { tmps := (.agg (fls x0) :: .agg (vls 400 (flw x1)) :: .float .f32 x2 :: .int .i64 x3 :: .pointer (some ⟨w.heap.size, 0, none⟩) :: .pointer (some ⟨w.heap.size + 1, 0, none⟩) :: undef :: undef :: .bool false :: .pointer (some ⟨a0, 0, none⟩) :: .int .i64 r1 :: .pointer (some ⟨g13, 0, none⟩) :: undef :: .tuple #[.agg (fls r0), .int .i64 r1] :: .agg (fls x0) :: .agg (fls x0) :: .agg (vls 400 (flw x1)) :: .agg (vls 400 (flw x1)) :: .float .f32 x2 :: .int .i64 x3 :: .tuple #[.agg (fls r0), .int .i64 r1] :: .agg (fls r0) :: .int .i64 r1 :: .tuple #[.agg (fls r0), .int .i64 r1] :: .agg (fls x0) :: .agg (fls x0) :: .agg (vls 400 (flw x1)) :: .agg (vls 400 (flw x1)) :: .float .f32 x2 :: .int .i64 x3 :: .tuple #[.agg (fls r0), .int .i64 r1] :: .agg (fls r0) :: undef :: undef :: undef :: undef :: undef :: undef :: undef :: undef :: undef :: undef :: []).toArray, defers := [] } #[true, true, true, true, true, true, true, true, true, false, true, false, false] (.agg (fls r0)) rfl (by rfl) (by kernel_rfl) (by kernel_rfl) (by kernel_rfl) (fun w => by rfl) (by rfl) (by rfl) (k16.tail) ?_
    refine take_val 9 { tmps := (.agg (fls x0) :: .agg (vls 400 (flw x1)) :: .float .f32 x2 :: .int .i64 x3 :: .pointer (some ⟨w.heap.size, 0, none⟩) :: .pointer (some ⟨w.heap.size + 1, 0, none⟩) :: undef :: undef :: .bool false :: .pointer (some ⟨a0, 0, none⟩) :: .int .i64 r1 :: .pointer (some ⟨g13, 0, none⟩) :: undef :: .tuple #[.agg (fls r0), .int .i64 r1] :: .agg (fls x0) :: .agg (fls x0) :: .agg (vls 400 (flw x1)) :: .agg (vls 400 (flw x1)) :: .float .f32 x2 :: .int .i64 x3 :: .tuple #[.agg (fls r0), .int .i64 r1] :: .agg (fls r0) :: .int .i64 r1 :: .tuple #[.agg (fls r0), .int .i64 r1] :: .agg (fls x0) :: .agg (fls x0) :: .agg (vls 400 (flw x1)) :: .agg (vls 400 (flw x1)) :: .float .f32 x2 :: .int .i64 x3 :: .tuple #[.agg (fls r0), .int .i64 r1] :: .agg (fls r0) :: .int .i64 r1 :: undef :: undef :: undef :: undef :: undef :: undef :: undef :: undef :: undef :: []).toArray, defers := [] } #[true, true, true, true, true, true, true, true, true, true, true, false, false] (.int .i64 r1) rfl (by rfl) (by kernel_rfl) (by kernel_rfl) (by kernel_rfl) (fun w => by rfl) (by rfl) (by rfl) (k16.tail) ?_
    refine wpAnyH_ready (rs := [11]) (by kernel_rfl) (by simp) ?_
    refine storeK 11 { tmps := (.agg (fls x0) :: .agg (vls 400 (flw x1)) :: .float .f32 x2 :: .int .i64 x3 :: .pointer (some ⟨w.heap.size, 0, none⟩) :: .pointer (some ⟨w.heap.size + 1, 0, none⟩) :: undef :: undef :: .bool false :: .pointer (some ⟨a0, 0, none⟩) :: .int .i64 r1 :: .pointer (some ⟨g13, 0, none⟩) :: undef :: .tuple #[.agg (fls r0), .int .i64 r1] :: .agg (fls x0) :: .agg (fls x0) :: .agg (vls 400 (flw x1)) :: .agg (vls 400 (flw x1)) :: .float .f32 x2 :: .int .i64 x3 :: .tuple #[.agg (fls r0), .int .i64 r1] :: .agg (fls r0) :: .int .i64 r1 :: .tuple #[.agg (fls r0), .int .i64 r1] :: .agg (fls x0) :: .agg (fls x0) :: .agg (vls 400 (flw x1)) :: .agg (vls 400 (flw x1)) :: .float .f32 x2 :: .int .i64 x3 :: .tuple #[.agg (fls r0), .int .i64 r1] :: .agg (fls r0) :: .int .i64 r1 :: undef :: undef :: undef :: undef :: undef :: undef :: undef :: undef :: undef :: []).toArray, defers := [] } #[true, true, true, true, true, true, true, true, true, true, true, true, false] k16 hB13 hn13 rfl (by rfl) 61 _ _ rfl (fls r0) (by rfl) (by rfl) (by rw [fls_size]; exact info_arr) (by simp) (fls_one _) (by rfl) (by rfl) (fun w17 k17 => ?_) AllReadyH.nil
    refine ⟨k17.tail, ?_⟩
    refine take_val 12 { tmps := (.agg (fls x0) :: .agg (vls 400 (flw x1)) :: .float .f32 x2 :: .int .i64 x3 :: .pointer (some ⟨w.heap.size, 0, none⟩) :: .pointer (some ⟨w.heap.size + 1, 0, none⟩) :: undef :: undef :: .bool false :: .pointer (some ⟨a0, 0, none⟩) :: .int .i64 r1 :: .pointer (some ⟨g13, 0, none⟩) :: .int .i64 r1 :: .tuple #[.agg (fls r0), .int .i64 r1] :: .agg (fls x0) :: .agg (fls x0) :: .agg (vls 400 (flw x1)) :: .agg (vls 400 (flw x1)) :: .float .f32 x2 :: .int .i64 x3 :: .tuple #[.agg (fls r0), .int .i64 r1] :: .agg (fls r0) :: .int .i64 r1 :: .tuple #[.agg (fls r0), .int .i64 r1] :: .agg (fls x0) :: .agg (fls x0) :: .agg (vls 400 (flw x1)) :: .agg (vls 400 (flw x1)) :: .float .f32 x2 :: .int .i64 x3 :: .tuple #[.agg (fls r0), .int .i64 r1] :: .agg (fls r0) :: .int .i64 r1 :: undef :: undef :: undef :: undef :: undef :: undef :: undef :: undef :: undef :: []).toArray, defers := [] } #[true, true, true, true, true, true, true, true, true, true, true, true, true] (.int .i64 r1) rfl (by rfl) (by kernel_rfl) (by kernel_rfl) (by kernel_rfl) (fun w => by rfl) (by rfl) (by rfl) (k17.tail) ?_
    exact wpAnyH_done (by kernel_rfl) (NoPanic.normal (key2 g13 _ (hid k17))) _
  refine region_kept (w0 := w) (l := [(w.heap.size, fls x0, 56), (w.heap.size + 1, vls 400 (flw x1), 57)]) 13 #[false, false, false, false, false, false, false, false, false, false, false, false, false] (by kernel_rfl) rfl rfl ?_
  have kd := k0.out.drew
  clear k0
  generalize ((w.alloc (.cells (fls x0) 56)).alloc (.cells (vls 400 (flw x1)) 57)).drew = wd at kd ⊢
  refine take_load 0 { tmps := (.agg (fls x0) :: .agg (vls 400 (flw x1)) :: .float .f32 x2 :: .int .i64 x3 :: .pointer (some ⟨w.heap.size, 0, none⟩) :: .pointer (some ⟨w.heap.size + 1, 0, none⟩) :: undef :: undef :: .bool false :: undef :: undef :: undef :: undef :: undef :: .agg (fls x0) :: undef :: undef :: undef :: undef :: undef :: undef :: undef :: undef :: undef :: undef :: undef :: undef :: undef :: undef :: undef :: undef :: undef :: undef :: undef :: undef :: undef :: undef :: undef :: undef :: undef :: undef :: undef :: []).toArray, defers := [] } #[true, false, false, false, false, false, false, false, false, false, false, false, false] rfl (by rfl) (by kernel_rfl) (by kernel_rfl) (by kernel_rfl) 56 _ rfl (w.heap.size) (fls x0) 56 (by rfl) (by simp) _ Try.underlying56 rfl (by rw [fls_size]; exact info_a20) (by rfl) (by rfl) (kd) ?_
  refine take_load 2 { tmps := (.agg (fls x0) :: .agg (vls 400 (flw x1)) :: .float .f32 x2 :: .int .i64 x3 :: .pointer (some ⟨w.heap.size, 0, none⟩) :: .pointer (some ⟨w.heap.size + 1, 0, none⟩) :: undef :: undef :: .bool false :: undef :: undef :: undef :: undef :: undef :: .agg (fls x0) :: undef :: .agg (vls 400 (flw x1)) :: undef :: undef :: undef :: undef :: undef :: undef :: undef :: undef :: undef :: undef :: undef :: undef :: undef :: undef :: undef :: undef :: undef :: undef :: undef :: undef :: undef :: undef :: undef :: undef :: undef :: []).toArray, defers := [] } #[true, false, true, false, false, false, false, false, false, false, false, false, false] rfl (by rfl) (by kernel_rfl) (by kernel_rfl) (by kernel_rfl) 57 _ rfl (w.heap.size + 1) (vls 400 (flw x1)) 57 (by rfl) (by simp) _ Try.underlying57 rfl (by rw [vls_size]; exact info_k20) (by rfl) (by rfl) (kd) ?_
  refine take_val 4 { tmps := (.agg (fls x0) :: .agg (vls 400 (flw x1)) :: .float .f32 x2 :: .int .i64 x3 :: .pointer (some ⟨w.heap.size, 0, none⟩) :: .pointer (some ⟨w.heap.size + 1, 0, none⟩) :: undef :: undef :: .bool false :: undef :: undef :: undef :: undef :: undef :: .agg (fls x0) :: undef :: .agg (vls 400 (flw x1)) :: undef :: .float .f32 x2 :: undef :: undef :: undef :: undef :: undef :: undef :: undef :: undef :: undef :: undef :: undef :: undef :: undef :: undef :: undef :: undef :: undef :: undef :: undef :: undef :: undef :: undef :: undef :: []).toArray, defers := [] } #[true, false, true, false, true, false, false, false, false, false, false, false, false] (.float .f32 x2) rfl (by rfl) (by kernel_rfl) (by kernel_rfl) (by kernel_rfl) (fun w => by rfl) (by rfl) (by rfl) (kd) ?_
  refine take_val 5 { tmps := (.agg (fls x0) :: .agg (vls 400 (flw x1)) :: .float .f32 x2 :: .int .i64 x3 :: .pointer (some ⟨w.heap.size, 0, none⟩) :: .pointer (some ⟨w.heap.size + 1, 0, none⟩) :: undef :: undef :: .bool false :: undef :: undef :: undef :: undef :: undef :: .agg (fls x0) :: undef :: .agg (vls 400 (flw x1)) :: undef :: .float .f32 x2 :: .int .i64 x3 :: undef :: undef :: undef :: undef :: undef :: undef :: undef :: undef :: undef :: undef :: undef :: undef :: undef :: undef :: undef :: undef :: undef :: undef :: undef :: undef :: undef :: undef :: []).toArray, defers := [] } #[true, false, true, false, true, true, false, false, false, false, false, false, false] (.int .i64 x3) rfl (by rfl) (by kernel_rfl) (by kernel_rfl) (by kernel_rfl) (fun w => by rfl) (by rfl) (by rfl) (kd) ?_
  refine wpAnyH_ready (rs := [1, 10]) (by kernel_rfl) (by simp) ?_
  refine callK 1 { tmps := (.agg (fls x0) :: .agg (vls 400 (flw x1)) :: .float .f32 x2 :: .int .i64 x3 :: .pointer (some ⟨w.heap.size, 0, none⟩) :: .pointer (some ⟨w.heap.size + 1, 0, none⟩) :: undef :: undef :: .bool false :: undef :: undef :: undef :: undef :: undef :: .agg (fls x0) :: .agg (fls x0) :: .agg (vls 400 (flw x1)) :: undef :: .float .f32 x2 :: .int .i64 x3 :: undef :: undef :: undef :: undef :: undef :: undef :: undef :: undef :: undef :: undef :: undef :: undef :: undef :: undef :: undef :: undef :: undef :: undef :: undef :: undef :: undef :: undef :: []).toArray, defers := [] } #[true, true, true, false, true, true, false, false, false, false, false, false, false] (.agg (fls x0)) kd rfl (by rfl) 39 #[.agg (fls x0)] (run_toSizes1 _ _ _ rfl _ _ _ _ _ _) (by rfl) (by rfl) (toSizes _ _) (fun w1 k1 => ?_) ?_
  · refine ⟨k1, ?_⟩
    refine wpAnyH_ready (rs := [3, 10]) (by kernel_rfl) (by simp) ?_
    refine callK 3 { tmps := (.agg (fls x0) :: .agg (vls 400 (flw x1)) :: .float .f32 x2 :: .int .i64 x3 :: .pointer (some ⟨w.heap.size, 0, none⟩) :: .pointer (some ⟨w.heap.size + 1, 0, none⟩) :: undef :: undef :: .bool false :: undef :: undef :: undef :: undef :: undef :: .agg (fls x0) :: .agg (fls x0) :: .agg (vls 400 (flw x1)) :: .agg (vls 400 (flw x1)) :: .float .f32 x2 :: .int .i64 x3 :: undef :: undef :: undef :: undef :: undef :: undef :: undef :: undef :: undef :: undef :: undef :: undef :: undef :: undef :: undef :: undef :: undef :: undef :: undef :: undef :: undef :: undef :: []).toArray, defers := [] } #[true, true, true, true, true, true, false, false, false, false, false, false, false] (.agg (vls 400 (flw x1))) k1 rfl (by rfl) 40 #[.agg (vls 400 (flw x1))] (run_toKernel1 _ _ _ rfl _ _ _ _ _ _) (by rfl) (by rfl) (toKernel _ _) (fun w2 k2 => ?_) ?_
    · refine ⟨k2, ?_⟩
      refine wpAnyH_ready (rs := [6, 10]) (by kernel_rfl) (by simp) ?_
      refine callK 6 { tmps := (.agg (fls x0) :: .agg (vls 400 (flw x1)) :: .float .f32 x2 :: .int .i64 x3 :: .pointer (some ⟨w.heap.size, 0, none⟩) :: .pointer (some ⟨w.heap.size + 1, 0, none⟩) :: undef :: undef :: .bool false :: undef :: undef :: undef :: undef :: undef :: .agg (fls x0) :: .agg (fls x0) :: .agg (vls 400 (flw x1)) :: .agg (vls 400 (flw x1)) :: .float .f32 x2 :: .int .i64 x3 :: .tuple #[.agg (fls r0), .int .i64 r1] :: undef :: undef :: undef :: undef :: undef :: undef :: undef :: undef :: undef :: undef :: undef :: undef :: undef :: undef :: undef :: undef :: undef :: undef :: undef :: undef :: undef :: []).toArray, defers := [] } #[true, true, true, true, true, true, true, false, false, false, false, false, false] (.tuple #[.agg (fls r0), .int .i64 r1]) k2 rfl (by rfl) 48 #[.agg (fls x0), .agg (vls 400 (flw x1)), .float .f32 x2, .int .i64 x3] (run_sCollideSteps4 _ _ _ rfl _ _ rfl _ _ rfl _ _ rfl _ _ _ _ _ _) (by rfl) (by rfl) (HS.out _) (fun w3 k3 => ?_) ?_
      · refine ⟨k3, ?_⟩
        refine take_val 7 { tmps := (.agg (fls x0) :: .agg (vls 400 (flw x1)) :: .float .f32 x2 :: .int .i64 x3 :: .pointer (some ⟨w.heap.size, 0, none⟩) :: .pointer (some ⟨w.heap.size + 1, 0, none⟩) :: undef :: undef :: .bool false :: undef :: undef :: undef :: undef :: .tuple #[.agg (fls r0), .int .i64 r1] :: .agg (fls x0) :: .agg (fls x0) :: .agg (vls 400 (flw x1)) :: .agg (vls 400 (flw x1)) :: .float .f32 x2 :: .int .i64 x3 :: .tuple #[.agg (fls r0), .int .i64 r1] :: undef :: undef :: undef :: undef :: undef :: undef :: undef :: undef :: undef :: undef :: undef :: undef :: undef :: undef :: undef :: undef :: undef :: undef :: undef :: undef :: undef :: []).toArray, defers := [] } #[true, true, true, true, true, true, true, true, false, false, false, false, false] (.tuple #[.agg (fls r0), .int .i64 r1]) rfl (by rfl) (by kernel_rfl) (by kernel_rfl) (by kernel_rfl) (fun w => by rfl) (by rfl) (by rfl) (k3) ?_
        refine take_val 8 { tmps := (.agg (fls x0) :: .agg (vls 400 (flw x1)) :: .float .f32 x2 :: .int .i64 x3 :: .pointer (some ⟨w.heap.size, 0, none⟩) :: .pointer (some ⟨w.heap.size + 1, 0, none⟩) :: undef :: undef :: .bool false :: undef :: undef :: undef :: undef :: .tuple #[.agg (fls r0), .int .i64 r1] :: .agg (fls x0) :: .agg (fls x0) :: .agg (vls 400 (flw x1)) :: .agg (vls 400 (flw x1)) :: .float .f32 x2 :: .int .i64 x3 :: .tuple #[.agg (fls r0), .int .i64 r1] :: .agg (fls r0) :: undef :: undef :: undef :: undef :: undef :: undef :: undef :: undef :: undef :: undef :: undef :: undef :: undef :: undef :: undef :: undef :: undef :: undef :: undef :: undef :: []).toArray, defers := [] } #[true, true, true, true, true, true, true, true, true, false, false, false, false] (.agg (fls r0)) rfl (by rfl) (by kernel_rfl) (by kernel_rfl) (by kernel_rfl) (fun w => by rfl) (by rfl) (by rfl) (k3) ?_
        refine take_val 9 { tmps := (.agg (fls x0) :: .agg (vls 400 (flw x1)) :: .float .f32 x2 :: .int .i64 x3 :: .pointer (some ⟨w.heap.size, 0, none⟩) :: .pointer (some ⟨w.heap.size + 1, 0, none⟩) :: undef :: undef :: .bool false :: undef :: undef :: undef :: undef :: .tuple #[.agg (fls r0), .int .i64 r1] :: .agg (fls x0) :: .agg (fls x0) :: .agg (vls 400 (flw x1)) :: .agg (vls 400 (flw x1)) :: .float .f32 x2 :: .int .i64 x3 :: .tuple #[.agg (fls r0), .int .i64 r1] :: .agg (fls r0) :: .int .i64 r1 :: undef :: undef :: undef :: undef :: undef :: undef :: undef :: undef :: undef :: undef :: undef :: undef :: undef :: undef :: undef :: undef :: undef :: undef :: undef :: []).toArray, defers := [] } #[true, true, true, true, true, true, true, true, true, true, false, false, false] (.int .i64 r1) rfl (by rfl) (by kernel_rfl) (by kernel_rfl) (by kernel_rfl) (fun w => by rfl) (by rfl) (by rfl) (k3) ?_
        refine wpAnyH_ready (rs := [10]) (by kernel_rfl) (by simp) ?_
        refine allocK 10 (fun g4 => { tmps := (.agg (fls x0) :: .agg (vls 400 (flw x1)) :: .float .f32 x2 :: .int .i64 x3 :: .pointer (some ⟨w.heap.size, 0, none⟩) :: .pointer (some ⟨w.heap.size + 1, 0, none⟩) :: undef :: undef :: .bool false :: .pointer (some ⟨g4, 0, none⟩) :: undef :: undef :: undef :: .tuple #[.agg (fls r0), .int .i64 r1] :: .agg (fls x0) :: .agg (fls x0) :: .agg (vls 400 (flw x1)) :: .agg (vls 400 (flw x1)) :: .float .f32 x2 :: .int .i64 x3 :: .tuple #[.agg (fls r0), .int .i64 r1] :: .agg (fls r0) :: .int .i64 r1 :: undef :: undef :: undef :: undef :: undef :: undef :: undef :: undef :: undef :: undef :: undef :: undef :: undef :: undef :: undef :: undef :: undef :: undef :: undef :: []).toArray, defers := [] }) #[true, true, true, true, true, true, true, true, true, true, true, false, false] k3 rfl (by rfl) (fls fun _ => 0) 61 (alloc_sizes _ _ _ _ _ _ _) (fun g => by rfl) (by rfl) (fun w4 g4 k4 hB4 hn4 => ?_) AllReadyH.nil
        refine ⟨k4.tail, ?_⟩
        refine wpAnyH_ready (rs := [11]) (by kernel_rfl) (by simp) ?_
        refine storeK 11 { tmps := (.agg (fls x0) :: .agg (vls 400 (flw x1)) :: .float .f32 x2 :: .int .i64 x3 :: .pointer (some ⟨w.heap.size, 0, none⟩) :: .pointer (some ⟨w.heap.size + 1, 0, none⟩) :: undef :: undef :: .bool false :: .pointer (some ⟨g4, 0, none⟩) :: undef :: undef :: undef :: .tuple #[.agg (fls r0), .int .i64 r1] :: .agg (fls x0) :: .agg (fls x0) :: .agg (vls 400 (flw x1)) :: .agg (vls 400 (flw x1)) :: .float .f32 x2 :: .int .i64 x3 :: .tuple #[.agg (fls r0), .int .i64 r1] :: .agg (fls r0) :: .int .i64 r1 :: undef :: undef :: undef :: undef :: undef :: undef :: undef :: undef :: undef :: undef :: undef :: undef :: undef :: undef :: undef :: undef :: undef :: undef :: undef :: []).toArray, defers := [] } #[true, true, true, true, true, true, true, true, true, true, true, true, false] k4 hB4 hn4 rfl (by rfl) 61 _ _ rfl (fls r0) (by rfl) (by rfl) (by rw [fls_size]; exact info_arr) (by simp) (fls_one _) (by rfl) (by rfl) (fun w5 k5 => ?_) AllReadyH.nil
        refine ⟨k5.tail, ?_⟩
        refine take_val 12 { tmps := (.agg (fls x0) :: .agg (vls 400 (flw x1)) :: .float .f32 x2 :: .int .i64 x3 :: .pointer (some ⟨w.heap.size, 0, none⟩) :: .pointer (some ⟨w.heap.size + 1, 0, none⟩) :: undef :: undef :: .bool false :: .pointer (some ⟨g4, 0, none⟩) :: .int .i64 r1 :: undef :: undef :: .tuple #[.agg (fls r0), .int .i64 r1] :: .agg (fls x0) :: .agg (fls x0) :: .agg (vls 400 (flw x1)) :: .agg (vls 400 (flw x1)) :: .float .f32 x2 :: .int .i64 x3 :: .tuple #[.agg (fls r0), .int .i64 r1] :: .agg (fls r0) :: .int .i64 r1 :: undef :: undef :: undef :: undef :: undef :: undef :: undef :: undef :: undef :: undef :: undef :: undef :: undef :: undef :: undef :: undef :: undef :: undef :: undef :: []).toArray, defers := [] } #[true, true, true, true, true, true, true, true, true, true, true, true, true] (.int .i64 r1) rfl (by rfl) (by kernel_rfl) (by kernel_rfl) (by kernel_rfl) (fun w => by rfl) (by rfl) (by rfl) (k5.tail) ?_
        exact wpAnyH_done (by kernel_rfl) (NoPanic.normal (key1 g4 _ (hid k5))) _
      refine allocK 10 (fun g6 => { tmps := (.agg (fls x0) :: .agg (vls 400 (flw x1)) :: .float .f32 x2 :: .int .i64 x3 :: .pointer (some ⟨w.heap.size, 0, none⟩) :: .pointer (some ⟨w.heap.size + 1, 0, none⟩) :: undef :: undef :: .bool false :: .pointer (some ⟨g6, 0, none⟩) :: undef :: undef :: undef :: undef :: .agg (fls x0) :: .agg (fls x0) :: .agg (vls 400 (flw x1)) :: .agg (vls 400 (flw x1)) :: .float .f32 x2 :: .int .i64 x3 :: undef :: undef :: undef :: undef :: undef :: undef :: undef :: undef :: undef :: undef :: undef :: undef :: undef :: undef :: undef :: undef :: undef :: undef :: undef :: undef :: undef :: undef :: []).toArray, defers := [] }) #[true, true, true, true, true, true, false, false, false, false, true, false, false] k2 rfl (by rfl) (fls fun _ => 0) 61 (alloc_sizes _ _ _ _ _ _ _) (fun g => by rfl) (by rfl) (fun w6 g6 k6 hB6 hn6 => ?_) AllReadyH.nil
      refine ⟨k6.tail, ?_⟩
      refine wpAnyH_ready (rs := [6]) (by kernel_rfl) (by simp) ?_
      refine callK 6 { tmps := (.agg (fls x0) :: .agg (vls 400 (flw x1)) :: .float .f32 x2 :: .int .i64 x3 :: .pointer (some ⟨w.heap.size, 0, none⟩) :: .pointer (some ⟨w.heap.size + 1, 0, none⟩) :: undef :: undef :: .bool false :: .pointer (some ⟨g6, 0, none⟩) :: undef :: undef :: undef :: undef :: .agg (fls x0) :: .agg (fls x0) :: .agg (vls 400 (flw x1)) :: .agg (vls 400 (flw x1)) :: .float .f32 x2 :: .int .i64 x3 :: .tuple #[.agg (fls r0), .int .i64 r1] :: undef :: undef :: undef :: undef :: undef :: undef :: undef :: undef :: undef :: undef :: undef :: undef :: undef :: undef :: undef :: undef :: undef :: undef :: undef :: undef :: undef :: []).toArray, defers := [] } #[true, true, true, true, true, true, true, false, false, false, true, false, false] (.tuple #[.agg (fls r0), .int .i64 r1]) k6 rfl (by rfl) 48 #[.agg (fls x0), .agg (vls 400 (flw x1)), .float .f32 x2, .int .i64 x3] (run_sCollideSteps4 _ _ _ rfl _ _ rfl _ _ rfl _ _ rfl _ _ _ _ _ _) (by rfl) (by rfl) (HS.out _) (fun w7 k7 => ?_) AllReadyH.nil
      refine ⟨k7.tail, ?_⟩
      refine take_val 7 { tmps := (.agg (fls x0) :: .agg (vls 400 (flw x1)) :: .float .f32 x2 :: .int .i64 x3 :: .pointer (some ⟨w.heap.size, 0, none⟩) :: .pointer (some ⟨w.heap.size + 1, 0, none⟩) :: undef :: undef :: .bool false :: .pointer (some ⟨g6, 0, none⟩) :: undef :: undef :: undef :: .tuple #[.agg (fls r0), .int .i64 r1] :: .agg (fls x0) :: .agg (fls x0) :: .agg (vls 400 (flw x1)) :: .agg (vls 400 (flw x1)) :: .float .f32 x2 :: .int .i64 x3 :: .tuple #[.agg (fls r0), .int .i64 r1] :: undef :: undef :: undef :: undef :: undef :: undef :: undef :: undef :: undef :: undef :: undef :: undef :: undef :: undef :: undef :: undef :: undef :: undef :: undef :: undef :: undef :: []).toArray, defers := [] } #[true, true, true, true, true, true, true, true, false, false, true, false, false] (.tuple #[.agg (fls r0), .int .i64 r1]) rfl (by rfl) (by kernel_rfl) (by kernel_rfl) (by kernel_rfl) (fun w => by rfl) (by rfl) (by rfl) (k7.tail) ?_
      refine take_val 8 { tmps := (.agg (fls x0) :: .agg (vls 400 (flw x1)) :: .float .f32 x2 :: .int .i64 x3 :: .pointer (some ⟨w.heap.size, 0, none⟩) :: .pointer (some ⟨w.heap.size + 1, 0, none⟩) :: undef :: undef :: .bool false :: .pointer (some ⟨g6, 0, none⟩) :: undef :: undef :: undef :: .tuple #[.agg (fls r0), .int .i64 r1] :: .agg (fls x0) :: .agg (fls x0) :: .agg (vls 400 (flw x1)) :: .agg (vls 400 (flw x1)) :: .float .f32 x2 :: .int .i64 x3 :: .tuple #[.agg (fls r0), .int .i64 r1] :: .agg (fls r0) :: undef :: undef :: undef :: undef :: undef :: undef :: undef :: undef :: undef :: undef :: undef :: undef :: undef :: undef :: undef :: undef :: undef :: undef :: undef :: undef :: []).toArray, defers := [] } #[true, true, true, true, true, true, true, true, true, false, true, false, false] (.agg (fls r0)) rfl (by rfl) (by kernel_rfl) (by kernel_rfl) (by kernel_rfl) (fun w => by rfl) (by rfl) (by rfl) (k7.tail) ?_
      refine take_val 9 { tmps := (.agg (fls x0) :: .agg (vls 400 (flw x1)) :: .float .f32 x2 :: .int .i64 x3 :: .pointer (some ⟨w.heap.size, 0, none⟩) :: .pointer (some ⟨w.heap.size + 1, 0, none⟩) :: undef :: undef :: .bool false :: .pointer (some ⟨g6, 0, none⟩) :: undef :: undef :: undef :: .tuple #[.agg (fls r0), .int .i64 r1] :: .agg (fls x0) :: .agg (fls x0) :: .agg (vls 400 (flw x1)) :: .agg (vls 400 (flw x1)) :: .float .f32 x2 :: .int .i64 x3 :: .tuple #[.agg (fls r0), .int .i64 r1] :: .agg (fls r0) :: .int .i64 r1 :: undef :: undef :: undef :: undef :: undef :: undef :: undef :: undef :: undef :: undef :: undef :: undef :: undef :: undef :: undef :: undef :: undef :: undef :: undef :: []).toArray, defers := [] } #[true, true, true, true, true, true, true, true, true, true, true, false, false] (.int .i64 r1) rfl (by rfl) (by kernel_rfl) (by kernel_rfl) (by kernel_rfl) (fun w => by rfl) (by rfl) (by rfl) (k7.tail) ?_
      refine wpAnyH_ready (rs := [11]) (by kernel_rfl) (by simp) ?_
      refine storeK 11 { tmps := (.agg (fls x0) :: .agg (vls 400 (flw x1)) :: .float .f32 x2 :: .int .i64 x3 :: .pointer (some ⟨w.heap.size, 0, none⟩) :: .pointer (some ⟨w.heap.size + 1, 0, none⟩) :: undef :: undef :: .bool false :: .pointer (some ⟨g6, 0, none⟩) :: undef :: undef :: undef :: .tuple #[.agg (fls r0), .int .i64 r1] :: .agg (fls x0) :: .agg (fls x0) :: .agg (vls 400 (flw x1)) :: .agg (vls 400 (flw x1)) :: .float .f32 x2 :: .int .i64 x3 :: .tuple #[.agg (fls r0), .int .i64 r1] :: .agg (fls r0) :: .int .i64 r1 :: undef :: undef :: undef :: undef :: undef :: undef :: undef :: undef :: undef :: undef :: undef :: undef :: undef :: undef :: undef :: undef :: undef :: undef :: undef :: []).toArray, defers := [] } #[true, true, true, true, true, true, true, true, true, true, true, true, false] k7 hB6 hn6 rfl (by rfl) 61 _ _ rfl (fls r0) (by rfl) (by rfl) (by rw [fls_size]; exact info_arr) (by simp) (fls_one _) (by rfl) (by rfl) (fun w8 k8 => ?_) AllReadyH.nil
      refine ⟨k8.tail, ?_⟩
      refine take_val 12 { tmps := (.agg (fls x0) :: .agg (vls 400 (flw x1)) :: .float .f32 x2 :: .int .i64 x3 :: .pointer (some ⟨w.heap.size, 0, none⟩) :: .pointer (some ⟨w.heap.size + 1, 0, none⟩) :: undef :: undef :: .bool false :: .pointer (some ⟨g6, 0, none⟩) :: .int .i64 r1 :: undef :: undef :: .tuple #[.agg (fls r0), .int .i64 r1] :: .agg (fls x0) :: .agg (fls x0) :: .agg (vls 400 (flw x1)) :: .agg (vls 400 (flw x1)) :: .float .f32 x2 :: .int .i64 x3 :: .tuple #[.agg (fls r0), .int .i64 r1] :: .agg (fls r0) :: .int .i64 r1 :: undef :: undef :: undef :: undef :: undef :: undef :: undef :: undef :: undef :: undef :: undef :: undef :: undef :: undef :: undef :: undef :: undef :: undef :: undef :: []).toArray, defers := [] } #[true, true, true, true, true, true, true, true, true, true, true, true, true] (.int .i64 r1) rfl (by rfl) (by kernel_rfl) (by kernel_rfl) (by kernel_rfl) (fun w => by rfl) (by rfl) (by rfl) (k8.tail) ?_
      exact wpAnyH_done (by kernel_rfl) (NoPanic.normal (key1 g6 _ (hid k8))) _
    refine allocK 10 (fun g9 => { tmps := (.agg (fls x0) :: .agg (vls 400 (flw x1)) :: .float .f32 x2 :: .int .i64 x3 :: .pointer (some ⟨w.heap.size, 0, none⟩) :: .pointer (some ⟨w.heap.size + 1, 0, none⟩) :: undef :: undef :: .bool false :: .pointer (some ⟨g9, 0, none⟩) :: undef :: undef :: undef :: undef :: .agg (fls x0) :: .agg (fls x0) :: .agg (vls 400 (flw x1)) :: undef :: .float .f32 x2 :: .int .i64 x3 :: undef :: undef :: undef :: undef :: undef :: undef :: undef :: undef :: undef :: undef :: undef :: undef :: undef :: undef :: undef :: undef :: undef :: undef :: undef :: undef :: undef :: undef :: []).toArray, defers := [] }) #[true, true, true, false, true, true, false, false, false, false, true, false, false] k1 rfl (by rfl) (fls fun _ => 0) 61 (alloc_sizes _ _ _ _ _ _ _) (fun g => by rfl) (by rfl) (fun w9 g9 k9 hB9 hn9 => ?_) AllReadyH.nil
    refine ⟨k9.tail, ?_⟩
    refine wpAnyH_ready (rs := [3]) (by kernel_rfl) (by simp) ?_
    refine callK 3 { tmps := (.agg (fls x0) :: .agg (vls 400 (flw x1)) :: .float .f32 x2 :: .int .i64 x3 :: .pointer (some ⟨w.heap.size, 0, none⟩) :: .pointer (some ⟨w.heap.size + 1, 0, none⟩) :: undef :: undef :: .bool false :: .pointer (some ⟨g9, 0, none⟩) :: undef :: undef :: undef :: undef :: .agg (fls x0) :: .agg (fls x0) :: .agg (vls 400 (flw x1)) :: .agg (vls 400 (flw x1)) :: .float .f32 x2 :: .int .i64 x3 :: undef :: undef :: undef :: undef :: undef :: undef :: undef :: undef :: undef :: undef :: undef :: undef :: undef :: undef :: undef :: undef :: undef :: undef :: undef :: undef :: undef :: undef :: []).toArray, defers := [] } #[true, true, true, true, true, true, false, false, false, false, true, false, false] (.agg (vls 400 (flw x1))) k9 rfl (by rfl) 40 #[.agg (vls 400 (flw x1))] (run_toKernel1 _ _ _ rfl _ _ _ _ _ _) (by rfl) (by rfl) (toKernel _ _) (fun w10 k10 => ?_) AllReadyH.nil
    refine ⟨k10.tail, ?_⟩
    refine wpAnyH_ready (rs := [6]) (by kernel_rfl) (by simp) ?_
    refine callK 6 { tmps := (.agg (fls x0) :: .agg (vls 400 (flw x1)) :: .float .f32 x2 :: .int .i64 x3 :: .pointer (some ⟨w.heap.size, 0, none⟩) :: .pointer (some ⟨w.heap.size + 1, 0, none⟩) :: undef :: undef :: .bool false :: .pointer (some ⟨g9, 0, none⟩) :: undef :: undef :: undef :: undef :: .agg (fls x0) :: .agg (fls x0) :: .agg (vls 400 (flw x1)) :: .agg (vls 400 (flw x1)) :: .float .f32 x2 :: .int .i64 x3 :: .tuple #[.agg (fls r0), .int .i64 r1] :: undef :: undef :: undef :: undef :: undef :: undef :: undef :: undef :: undef :: undef :: undef :: undef :: undef :: undef :: undef :: undef :: undef :: undef :: undef :: undef :: undef :: []).toArray, defers := [] } #[true, true, true, true, true, true, true, false, false, false, true, false, false] (.tuple #[.agg (fls r0), .int .i64 r1]) k10 rfl (by rfl) 48 #[.agg (fls x0), .agg (vls 400 (flw x1)), .float .f32 x2, .int .i64 x3] (run_sCollideSteps4 _ _ _ rfl _ _ rfl _ _ rfl _ _ rfl _ _ _ _ _ _) (by rfl) (by rfl) (HS.out _) (fun w11 k11 => ?_) AllReadyH.nil
    refine ⟨k11.tail, ?_⟩
    refine take_val 7 { tmps := (.agg (fls x0) :: .agg (vls 400 (flw x1)) :: .float .f32 x2 :: .int .i64 x3 :: .pointer (some ⟨w.heap.size, 0, none⟩) :: .pointer (some ⟨w.heap.size + 1, 0, none⟩) :: undef :: undef :: .bool false :: .pointer (some ⟨g9, 0, none⟩) :: undef :: undef :: undef :: .tuple #[.agg (fls r0), .int .i64 r1] :: .agg (fls x0) :: .agg (fls x0) :: .agg (vls 400 (flw x1)) :: .agg (vls 400 (flw x1)) :: .float .f32 x2 :: .int .i64 x3 :: .tuple #[.agg (fls r0), .int .i64 r1] :: undef :: undef :: undef :: undef :: undef :: undef :: undef :: undef :: undef :: undef :: undef :: undef :: undef :: undef :: undef :: undef :: undef :: undef :: undef :: undef :: undef :: []).toArray, defers := [] } #[true, true, true, true, true, true, true, true, false, false, true, false, false] (.tuple #[.agg (fls r0), .int .i64 r1]) rfl (by rfl) (by kernel_rfl) (by kernel_rfl) (by kernel_rfl) (fun w => by rfl) (by rfl) (by rfl) (k11.tail) ?_
    refine take_val 8 { tmps := (.agg (fls x0) :: .agg (vls 400 (flw x1)) :: .float .f32 x2 :: .int .i64 x3 :: .pointer (some ⟨w.heap.size, 0, none⟩) :: .pointer (some ⟨w.heap.size + 1, 0, none⟩) :: undef :: undef :: .bool false :: .pointer (some ⟨g9, 0, none⟩) :: undef :: undef :: undef :: .tuple #[.agg (fls r0), .int .i64 r1] :: .agg (fls x0) :: .agg (fls x0) :: .agg (vls 400 (flw x1)) :: .agg (vls 400 (flw x1)) :: .float .f32 x2 :: .int .i64 x3 :: .tuple #[.agg (fls r0), .int .i64 r1] :: .agg (fls r0) :: undef :: undef :: undef :: undef :: undef :: undef :: undef :: undef :: undef :: undef :: undef :: undef :: undef :: undef :: undef :: undef :: undef :: undef :: undef :: undef :: []).toArray, defers := [] } #[true, true, true, true, true, true, true, true, true, false, true, false, false] (.agg (fls r0)) rfl (by rfl) (by kernel_rfl) (by kernel_rfl) (by kernel_rfl) (fun w => by rfl) (by rfl) (by rfl) (k11.tail) ?_
    refine take_val 9 { tmps := (.agg (fls x0) :: .agg (vls 400 (flw x1)) :: .float .f32 x2 :: .int .i64 x3 :: .pointer (some ⟨w.heap.size, 0, none⟩) :: .pointer (some ⟨w.heap.size + 1, 0, none⟩) :: undef :: undef :: .bool false :: .pointer (some ⟨g9, 0, none⟩) :: undef :: undef :: undef :: .tuple #[.agg (fls r0), .int .i64 r1] :: .agg (fls x0) :: .agg (fls x0) :: .agg (vls 400 (flw x1)) :: .agg (vls 400 (flw x1)) :: .float .f32 x2 :: .int .i64 x3 :: .tuple #[.agg (fls r0), .int .i64 r1] :: .agg (fls r0) :: .int .i64 r1 :: undef :: undef :: undef :: undef :: undef :: undef :: undef :: undef :: undef :: undef :: undef :: undef :: undef :: undef :: undef :: undef :: undef :: undef :: undef :: []).toArray, defers := [] } #[true, true, true, true, true, true, true, true, true, true, true, false, false] (.int .i64 r1) rfl (by rfl) (by kernel_rfl) (by kernel_rfl) (by kernel_rfl) (fun w => by rfl) (by rfl) (by rfl) (k11.tail) ?_
    refine wpAnyH_ready (rs := [11]) (by kernel_rfl) (by simp) ?_
    refine storeK 11 { tmps := (.agg (fls x0) :: .agg (vls 400 (flw x1)) :: .float .f32 x2 :: .int .i64 x3 :: .pointer (some ⟨w.heap.size, 0, none⟩) :: .pointer (some ⟨w.heap.size + 1, 0, none⟩) :: undef :: undef :: .bool false :: .pointer (some ⟨g9, 0, none⟩) :: undef :: undef :: undef :: .tuple #[.agg (fls r0), .int .i64 r1] :: .agg (fls x0) :: .agg (fls x0) :: .agg (vls 400 (flw x1)) :: .agg (vls 400 (flw x1)) :: .float .f32 x2 :: .int .i64 x3 :: .tuple #[.agg (fls r0), .int .i64 r1] :: .agg (fls r0) :: .int .i64 r1 :: undef :: undef :: undef :: undef :: undef :: undef :: undef :: undef :: undef :: undef :: undef :: undef :: undef :: undef :: undef :: undef :: undef :: undef :: undef :: []).toArray, defers := [] } #[true, true, true, true, true, true, true, true, true, true, true, true, false] k11 hB9 hn9 rfl (by rfl) 61 _ _ rfl (fls r0) (by rfl) (by rfl) (by rw [fls_size]; exact info_arr) (by simp) (fls_one _) (by rfl) (by rfl) (fun w12 k12 => ?_) AllReadyH.nil
    refine ⟨k12.tail, ?_⟩
    refine take_val 12 { tmps := (.agg (fls x0) :: .agg (vls 400 (flw x1)) :: .float .f32 x2 :: .int .i64 x3 :: .pointer (some ⟨w.heap.size, 0, none⟩) :: .pointer (some ⟨w.heap.size + 1, 0, none⟩) :: undef :: undef :: .bool false :: .pointer (some ⟨g9, 0, none⟩) :: .int .i64 r1 :: undef :: undef :: .tuple #[.agg (fls r0), .int .i64 r1] :: .agg (fls x0) :: .agg (fls x0) :: .agg (vls 400 (flw x1)) :: .agg (vls 400 (flw x1)) :: .float .f32 x2 :: .int .i64 x3 :: .tuple #[.agg (fls r0), .int .i64 r1] :: .agg (fls r0) :: .int .i64 r1 :: undef :: undef :: undef :: undef :: undef :: undef :: undef :: undef :: undef :: undef :: undef :: undef :: undef :: undef :: undef :: undef :: undef :: undef :: undef :: []).toArray, defers := [] } #[true, true, true, true, true, true, true, true, true, true, true, true, true] (.int .i64 r1) rfl (by rfl) (by kernel_rfl) (by kernel_rfl) (by kernel_rfl) (fun w => by rfl) (by rfl) (by rfl) (k12.tail) ?_
    exact wpAnyH_done (by kernel_rfl) (NoPanic.normal (key1 g9 _ (hid k12))) _
  refine allocK 10 (fun g13 => { tmps := (.agg (fls x0) :: .agg (vls 400 (flw x1)) :: .float .f32 x2 :: .int .i64 x3 :: .pointer (some ⟨w.heap.size, 0, none⟩) :: .pointer (some ⟨w.heap.size + 1, 0, none⟩) :: undef :: undef :: .bool false :: .pointer (some ⟨g13, 0, none⟩) :: undef :: undef :: undef :: undef :: .agg (fls x0) :: undef :: .agg (vls 400 (flw x1)) :: undef :: .float .f32 x2 :: .int .i64 x3 :: undef :: undef :: undef :: undef :: undef :: undef :: undef :: undef :: undef :: undef :: undef :: undef :: undef :: undef :: undef :: undef :: undef :: undef :: undef :: undef :: undef :: undef :: []).toArray, defers := [] }) #[true, false, true, false, true, true, false, false, false, false, true, false, false] kd rfl (by rfl) (fls fun _ => 0) 61 (alloc_sizes _ _ _ _ _ _ _) (fun g => by rfl) (by rfl) (fun w13 g13 k13 hB13 hn13 => ?_) AllReadyH.nil
  refine ⟨k13.tail, ?_⟩
  refine wpAnyH_ready (rs := [1]) (by kernel_rfl) (by simp) ?_
  refine callK 1 { tmps := (.agg (fls x0) :: .agg (vls 400 (flw x1)) :: .float .f32 x2 :: .int .i64 x3 :: .pointer (some ⟨w.heap.size, 0, none⟩) :: .pointer (some ⟨w.heap.size + 1, 0, none⟩) :: undef :: undef :: .bool false :: .pointer (some ⟨g13, 0, none⟩) :: undef :: undef :: undef :: undef :: .agg (fls x0) :: .agg (fls x0) :: .agg (vls 400 (flw x1)) :: undef :: .float .f32 x2 :: .int .i64 x3 :: undef :: undef :: undef :: undef :: undef :: undef :: undef :: undef :: undef :: undef :: undef :: undef :: undef :: undef :: undef :: undef :: undef :: undef :: undef :: undef :: undef :: undef :: []).toArray, defers := [] } #[true, true, true, false, true, true, false, false, false, false, true, false, false] (.agg (fls x0)) k13 rfl (by rfl) 39 #[.agg (fls x0)] (run_toSizes1 _ _ _ rfl _ _ _ _ _ _) (by rfl) (by rfl) (toSizes _ _) (fun w14 k14 => ?_) AllReadyH.nil
  refine ⟨k14.tail, ?_⟩
  refine wpAnyH_ready (rs := [3]) (by kernel_rfl) (by simp) ?_
  refine callK 3 { tmps := (.agg (fls x0) :: .agg (vls 400 (flw x1)) :: .float .f32 x2 :: .int .i64 x3 :: .pointer (some ⟨w.heap.size, 0, none⟩) :: .pointer (some ⟨w.heap.size + 1, 0, none⟩) :: undef :: undef :: .bool false :: .pointer (some ⟨g13, 0, none⟩) :: undef :: undef :: undef :: undef :: .agg (fls x0) :: .agg (fls x0) :: .agg (vls 400 (flw x1)) :: .agg (vls 400 (flw x1)) :: .float .f32 x2 :: .int .i64 x3 :: undef :: undef :: undef :: undef :: undef :: undef :: undef :: undef :: undef :: undef :: undef :: undef :: undef :: undef :: undef :: undef :: undef :: undef :: undef :: undef :: undef :: undef :: []).toArray, defers := [] } #[true, true, true, true, true, true, false, false, false, false, true, false, false] (.agg (vls 400 (flw x1))) k14 rfl (by rfl) 40 #[.agg (vls 400 (flw x1))] (run_toKernel1 _ _ _ rfl _ _ _ _ _ _) (by rfl) (by rfl) (toKernel _ _) (fun w15 k15 => ?_) AllReadyH.nil
  refine ⟨k15.tail, ?_⟩
  refine wpAnyH_ready (rs := [6]) (by kernel_rfl) (by simp) ?_
  refine callK 6 { tmps := (.agg (fls x0) :: .agg (vls 400 (flw x1)) :: .float .f32 x2 :: .int .i64 x3 :: .pointer (some ⟨w.heap.size, 0, none⟩) :: .pointer (some ⟨w.heap.size + 1, 0, none⟩) :: undef :: undef :: .bool false :: .pointer (some ⟨g13, 0, none⟩) :: undef :: undef :: undef :: undef :: .agg (fls x0) :: .agg (fls x0) :: .agg (vls 400 (flw x1)) :: .agg (vls 400 (flw x1)) :: .float .f32 x2 :: .int .i64 x3 :: .tuple #[.agg (fls r0), .int .i64 r1] :: undef :: undef :: undef :: undef :: undef :: undef :: undef :: undef :: undef :: undef :: undef :: undef :: undef :: undef :: undef :: undef :: undef :: undef :: undef :: undef :: undef :: []).toArray, defers := [] } #[true, true, true, true, true, true, true, false, false, false, true, false, false] (.tuple #[.agg (fls r0), .int .i64 r1]) k15 rfl (by rfl) 48 #[.agg (fls x0), .agg (vls 400 (flw x1)), .float .f32 x2, .int .i64 x3] (run_sCollideSteps4 _ _ _ rfl _ _ rfl _ _ rfl _ _ rfl _ _ _ _ _ _) (by rfl) (by rfl) (HS.out _) (fun w16 k16 => ?_) AllReadyH.nil
  refine ⟨k16.tail, ?_⟩
  refine take_val 7 { tmps := (.agg (fls x0) :: .agg (vls 400 (flw x1)) :: .float .f32 x2 :: .int .i64 x3 :: .pointer (some ⟨w.heap.size, 0, none⟩) :: .pointer (some ⟨w.heap.size + 1, 0, none⟩) :: undef :: undef :: .bool false :: .pointer (some ⟨g13, 0, none⟩) :: undef :: undef :: undef :: .tuple #[.agg (fls r0), .int .i64 r1] :: .agg (fls x0) :: .agg (fls x0) :: .agg (vls 400 (flw x1)) :: .agg (vls 400 (flw x1)) :: .float .f32 x2 :: .int .i64 x3 :: .tuple #[.agg (fls r0), .int .i64 r1] :: undef :: undef :: undef :: undef :: undef :: undef :: undef :: undef :: undef :: undef :: undef :: undef :: undef :: undef :: undef :: undef :: undef :: undef :: undef :: undef :: undef :: []).toArray, defers := [] } #[true, true, true, true, true, true, true, true, false, false, true, false, false] (.tuple #[.agg (fls r0), .int .i64 r1]) rfl (by rfl) (by kernel_rfl) (by kernel_rfl) (by kernel_rfl) (fun w => by rfl) (by rfl) (by rfl) (k16.tail) ?_
  refine take_val 8 { tmps := (.agg (fls x0) :: .agg (vls 400 (flw x1)) :: .float .f32 x2 :: .int .i64 x3 :: .pointer (some ⟨w.heap.size, 0, none⟩) :: .pointer (some ⟨w.heap.size + 1, 0, none⟩) :: undef :: undef :: .bool false :: .pointer (some ⟨g13, 0, none⟩) :: undef :: undef :: undef :: .tuple #[.agg (fls r0), .int .i64 r1] :: .agg (fls x0) :: .agg (fls x0) :: .agg (vls 400 (flw x1)) :: .agg (vls 400 (flw x1)) :: .float .f32 x2 :: .int .i64 x3 :: .tuple #[.agg (fls r0), .int .i64 r1] :: .agg (fls r0) :: undef :: undef :: undef :: undef :: undef :: undef :: undef :: undef :: undef :: undef :: undef :: undef :: undef :: undef :: undef :: undef :: undef :: undef :: undef :: undef :: []).toArray, defers := [] } #[true, true, true, true, true, true, true, true, true, false, true, false, false] (.agg (fls r0)) rfl (by rfl) (by kernel_rfl) (by kernel_rfl) (by kernel_rfl) (fun w => by rfl) (by rfl) (by rfl) (k16.tail) ?_
  refine take_val 9 { tmps := (.agg (fls x0) :: .agg (vls 400 (flw x1)) :: .float .f32 x2 :: .int .i64 x3 :: .pointer (some ⟨w.heap.size, 0, none⟩) :: .pointer (some ⟨w.heap.size + 1, 0, none⟩) :: undef :: undef :: .bool false :: .pointer (some ⟨g13, 0, none⟩) :: undef :: undef :: undef :: .tuple #[.agg (fls r0), .int .i64 r1] :: .agg (fls x0) :: .agg (fls x0) :: .agg (vls 400 (flw x1)) :: .agg (vls 400 (flw x1)) :: .float .f32 x2 :: .int .i64 x3 :: .tuple #[.agg (fls r0), .int .i64 r1] :: .agg (fls r0) :: .int .i64 r1 :: undef :: undef :: undef :: undef :: undef :: undef :: undef :: undef :: undef :: undef :: undef :: undef :: undef :: undef :: undef :: undef :: undef :: undef :: undef :: []).toArray, defers := [] } #[true, true, true, true, true, true, true, true, true, true, true, false, false] (.int .i64 r1) rfl (by rfl) (by kernel_rfl) (by kernel_rfl) (by kernel_rfl) (fun w => by rfl) (by rfl) (by rfl) (k16.tail) ?_
  refine wpAnyH_ready (rs := [11]) (by kernel_rfl) (by simp) ?_
  refine storeK 11 { tmps := (.agg (fls x0) :: .agg (vls 400 (flw x1)) :: .float .f32 x2 :: .int .i64 x3 :: .pointer (some ⟨w.heap.size, 0, none⟩) :: .pointer (some ⟨w.heap.size + 1, 0, none⟩) :: undef :: undef :: .bool false :: .pointer (some ⟨g13, 0, none⟩) :: undef :: undef :: undef :: .tuple #[.agg (fls r0), .int .i64 r1] :: .agg (fls x0) :: .agg (fls x0) :: .agg (vls 400 (flw x1)) :: .agg (vls 400 (flw x1)) :: .float .f32 x2 :: .int .i64 x3 :: .tuple #[.agg (fls r0), .int .i64 r1] :: .agg (fls r0) :: .int .i64 r1 :: undef :: undef :: undef :: undef :: undef :: undef :: undef :: undef :: undef :: undef :: undef :: undef :: undef :: undef :: undef :: undef :: undef :: undef :: undef :: []).toArray, defers := [] } #[true, true, true, true, true, true, true, true, true, true, true, true, false] k16 hB13 hn13 rfl (by rfl) 61 _ _ rfl (fls r0) (by rfl) (by rfl) (by rw [fls_size]; exact info_arr) (by simp) (fls_one _) (by rfl) (by rfl) (fun w17 k17 => ?_) AllReadyH.nil
  refine ⟨k17.tail, ?_⟩
  refine take_val 12 { tmps := (.agg (fls x0) :: .agg (vls 400 (flw x1)) :: .float .f32 x2 :: .int .i64 x3 :: .pointer (some ⟨w.heap.size, 0, none⟩) :: .pointer (some ⟨w.heap.size + 1, 0, none⟩) :: undef :: undef :: .bool false :: .pointer (some ⟨g13, 0, none⟩) :: .int .i64 r1 :: undef :: undef :: .tuple #[.agg (fls r0), .int .i64 r1] :: .agg (fls x0) :: .agg (fls x0) :: .agg (vls 400 (flw x1)) :: .agg (vls 400 (flw x1)) :: .float .f32 x2 :: .int .i64 x3 :: .tuple #[.agg (fls r0), .int .i64 r1] :: .agg (fls r0) :: .int .i64 r1 :: undef :: undef :: undef :: undef :: undef :: undef :: undef :: undef :: undef :: undef :: undef :: undef :: undef :: undef :: undef :: undef :: undef :: undef :: undef :: []).toArray, defers := [] } #[true, true, true, true, true, true, true, true, true, true, true, true, true] (.int .i64 r1) rfl (by rfl) (by kernel_rfl) (by kernel_rfl) (by kernel_rfl) (fun w => by rfl) (by rfl) (by rfl) (k17.tail) ?_
  exact wpAnyH_done (by kernel_rfl) (NoPanic.normal (key1 g13 _ (hid k17))) _

theorem lawCollideSteps (c : Nat → Nat) (hw : ∀ i, i < 20 → c i < 4294967296) (kk : Nat → Nat) (hb : ∀ i, i < 400 → kk i < 4294967296) (t : Nat) (hl : t < 4294967296) (q : Int) (_h1 : -9223372036854775808 ≤ q) (_h2 : q ≤ 9223372036854775807) (w : World) :
    Calls Try.prog 10 #[.agg (fls c), .agg (vls 400 (flw kk)), .float .f32 t, .int .i64 q] w fun e w' => e = .returned (.bool true) ∧ Below w.heap.size w w' := by
  by_cases h : Amts c ∧ KOk kk ∧ amtB t = true
  · obtain ⟨hc, hk, ht⟩ := h
    by_cases hq : 0 ≤ q ∧ q ≤ 200
    · obtain ⟨N, rfl⟩ := Int.eq_ofNat_of_zero_le hq.1
      have hN : N ≤ 200 := by omega
      obtain ⟨s, m, hs, H⟩ := steps_seq hb hk ht N c hc
      rcases Nat.lt_or_eq_of_le H.le with hm | hm
      · exact coreCollideSteps c kk t N (fun _ => 0) (fun _ _ => (by decide : (0 : Nat) < 4294967296)) (fun _ _ => (by decide : finB 0 = true)) 4 (sSteps_ok c kk t hc hb hk ht N hN s m hs H _ 4 (fun h => by omega) (fun _ => ⟨rfl, rfl⟩)) (iSteps_ok c kk t hc hb hk ht N hN s m hs H _ 4 (fun h => by omega) (fun _ => ⟨rfl, rfl⟩)) w
      · have hA := H.amt N (by omega)
        exact coreCollideSteps c kk t N (s N) (fun i hi => amt_lt (hA i hi)) (fun i hi => amt_fin (hA i hi)) 0 (sSteps_ok c kk t hc hb hk ht N hN s m hs H _ 0 (fun _ => ⟨rfl, rfl⟩) (fun h => by omega)) (iSteps_ok c kk t hc hb hk ht N hN s m hs H _ 0 (fun _ => ⟨rfl, rfl⟩) (fun h => by omega)) w
    · exact coreCollideSteps c kk t q (fun _ => 0) (fun _ _ => (by decide : (0 : Nat) < 4294967296)) (fun _ _ => (by decide : finB 0 = true)) 2 (sSteps_range c kk t hc hb hk ht q hq) (iSteps_range c kk t hc hb hk ht q hq) w
  · obtain ⟨p, hp, hS, hI⟩ := ask_cases c kk hw hb t hl h
    exact coreCollideSteps c kk t q (fun _ => 0) (fun _ _ => (by decide : (0 : Nat) < 4294967296)) (fun _ _ => (by decide : finB 0 = true)) p (sSteps_bad c kk t q p hp hS) (iSteps_bad c kk t q p hp hI) w
end Go.Proofs.Ytgmcpbhjcfiikaa

namespace Go.Proofs.Ytgmcpbhjcfiikaa.fnExactCollideSteps
open Go.RowKit Go.Fl Go.ChangeShapes Go.WideShapes Go.ChangeAt

set_option maxHeartbeats 2000000 in
theorem closed : joinedFacts Try.prog 10 Try.f10 Rows.fnExactCollideStepsSpec Rows.fnExactCollideStepsRow = true := by
  unfold joinedFacts
  simp only [Bool.and_eq_true]
  exact ⟨⟨⟨⟨⟨⟨⟨⟨⟨⟨⟨⟨⟨⟨⟨⟨⟨⟨⟨⟨⟨⟨⟨⟨⟨⟨⟨⟨⟨⟨⟨(by as_aux_lemma => kernel_rfl),
    laid⟩,
    rowed⟩,
    (by as_aux_lemma => kernel_rfl)⟩,
    (by as_aux_lemma => kernel_rfl)⟩,
    (by as_aux_lemma => kernel_rfl)⟩,
    (by rw [no_stops]; rfl)⟩,
    (by as_aux_lemma => kernel_rfl)⟩,
    (by rw [no_knobs]; rfl)⟩,
    (by as_aux_lemma => kernel_rfl)⟩,
    (by as_aux_lemma => kernel_rfl)⟩,
    (by as_aux_lemma => kernel_rfl)⟩,
    (by as_aux_lemma => kernel_rfl)⟩,
    (by as_aux_lemma => kernel_rfl)⟩,
    (by as_aux_lemma => kernel_rfl)⟩,
    (by as_aux_lemma => kernel_rfl)⟩,
    (by as_aux_lemma => kernel_rfl)⟩,
    (by as_aux_lemma => kernel_rfl)⟩,
    (by as_aux_lemma => kernel_rfl)⟩,
    (by as_aux_lemma => kernel_rfl)⟩,
    (by as_aux_lemma => kernel_rfl)⟩,
    (by as_aux_lemma => kernel_rfl)⟩,
    (show (Rows.fnExactCollideStepsRow.plainKeys == Try.prog.plainKeys) = true by rw [plain_keys]; rfl)⟩,
    (by as_aux_lemma => kernel_rfl)⟩,
    stops_heard⟩,
    may_enter⟩,
    (show (Rows.fnExactCollideStepsRow.lifted == Try.prog.liftsFinal) = true by rw [lifts_final]; rfl)⟩,
    (show (Try.prog.make == some Rows.fnExactCollideStepsRow.make) = true by rw [made]; rfl)⟩,
    (by as_aux_lemma => kernel_rfl)⟩,
    (by as_aux_lemma => kernel_rfl)⟩,
    (by as_aux_lemma => kernel_rfl)⟩,
    (by as_aux_lemma => kernel_rfl)⟩

set_option maxRecDepth 100000 in
theorem lifted (os : Os) (started : os.Started) (H : Type) (enc : TypeId × Value → H) :
    ReturnsInHanded {} Try.checked os 10 .any (Rows.fnExactCollideStepsSpec.pre6 enc Try.prog Try.f10 Rows.fnExactCollideStepsRow.domain false) (Rows.fnExactCollideStepsSpec.post enc Try.prog Try.f10 false true false false) := by
  refine LawFrame.lifted (C := Try.checked) (fn := Try.f10) (n := 4) (tb := 4) started own (by kernel_rfl) Try.func10 laid ?_ rfl rfl ?_ rfl Try.underlying4
    (ChangeSpec.witness6 (enc := enc) (C := Try.checked) false ⟨#[], #[.agg (Array.replicate 20 (.float .f32 0)), .agg (Array.replicate 400 (.float .f32 0)), .float .f32 0, .int .i64 0], []⟩ 8 (by kernel_rfl) (by kernel_rfl) (by kernel_rfl) (by kernel_rfl)) ?_
  · intro t ht
    simp only [Try.params10, List.mem_cons, List.not_mem_nil, or_false] at ht
    rcases ht with rfl | rfl | rfl | rfl <;> first | exact rda | exact rdf | exact rdi | exact rdk
  · intro ds hd
    match ds, hd with
    | [_, _, _, _], _ => rfl
  · intro W base args ds ps hval hn _
    obtain ⟨v0, v1, v2, v3, rfl⟩ : ∃ v0 v1 v2 v3, args = #[v0, v1, v2, v3] := arr4 hn
    obtain ⟨c0, rfl, hb0⟩ := open_fls Try.underlying56 Try.underlying23 cells20 types20 (hval 0 56 v0 rfl rfl)
    obtain ⟨c1, rfl, hb1⟩ := open_floats Try.underlying57 rfl Try.underlying23 cells400 types400 (hval 1 57 v1 rfl rfl)
    obtain ⟨c2, rfl, hb2⟩ := open_f32 Try.underlying23 (hval 2 23 v2 rfl rfl)
    obtain ⟨c3, rfl, hb3, hc3⟩ := open_i64 Try.underlying2 (hval 3 2 v3 rfl rfl)
    exact lawCollideSteps c0 hb0 c1 hb1 c2 hb2 c3 hb3 hc3 W

theorem over : Rows.fnExactCollideStepsRow.holds Try.pinned (OpenSpec.ofChange Rows.fnExactCollideStepsSpec) :=
  OpenClaim.holds_of_wide 10 Try.f10 rfl rfl rfl rfl rfl rfl rfl ⟨rfl, rfl, rfl, rfl, rfl⟩ rfl rfl rfl rfl rfl (by kernel_rfl) Try.func10 closed
    (of_decide_eq_true (by kernel_rfl)) (by unfold Func.isWrapper; rw [if_neg (by decide +kernel)]; exact ⟨rfl, rfl⟩)
    (fun os started H enc _ => lifted os started H enc)

theorem proved : Rows.FnExactCollideStepsSaid := over
#print axioms proved
end Go.Proofs.Ytgmcpbhjcfiikaa.fnExactCollideSteps
