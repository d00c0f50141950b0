import Derived.Test.YtgmcpbhjcfiikaaUVapourAbove
import Derived.Test.YtgmcpbhjcfiikaaCVapourAbove
import Derived.Test.YtgmcpbhjcfiikaaChecked
import Derived.Test.YtgmcpbhjcfiikaaRows
import Derived.Laws.FloatArith
import Derived.ProofKit
import Derived.WalkKit
import Derived.WalkLawsBesides
import Derived.WalkSpells
import Derived.Deep.QuietTactic
import Derived.BigQuiet
import Derived.Deep.RegionHeld3
import Derived.ChangeKeysEq
import Derived.Laws.BitsAllLaws
import Derived.Deep.MidRow
import Derived.Deep.WholeRow
import Derived.StillTailTactics
import Derived.Deep.Slices
import Derived.ChangeSame
import Derived.OrdersIn
import Derived.ControlIn
import Derived.RangeFuncSeq
import Derived.RangeFuncNested
import Derived.RangeFuncLeaves
import Derived.RangeFuncBox
import Derived.OwnWalkIn
import Derived.TacticsInMore
import Derived.LoopNIn
import Derived.LoopIn
import Derived.Shelf.Abstract
import Derived.ArgAppend
import Derived.Lib.SliceRun
import Derived.Below
import Derived.Laws.AppendOwn
import Derived.OpenShut
/- The law FnExactVapourAbove of chapter 1: at every argument the call returns true, and what was there before it is as it was. -/
namespace Go.Proofs.Ytgmcpbhjcfiikaa
open Go.RowKit Go.Fl

set_option maxHeartbeats 4000000 in
set_option maxRecDepth 100000 in
theorem iVapourAbove (n : Nat) (x : Nat → Nat) (hx : W32 x) (hq : souB n x = true) (h : Nat) (rh rv : Nat) (c : Int) (hr : atR n x h = (rh, rv, c))
    (hM : ∀ k, k + 1 < n → gtH x h k = true → ltH x h (k + 1) = true → AtF x h k) (j : Nat) (hJ : c = 0 → Nx n x h j) (R : Nat) (hR : c ≠ 0 → R = 0) (hR' : c = 0 → smV x h rv j (n - j) = R) (w : World) (s : Value) (hs : Rd w s n x) (hn : n ≤ 1048576) :
    Calls Try.prog 22 #[s, .float .f32 h] w fun e w' => e = .returned (.tuple #[.float .f32 R, .int .i64 c]) ∧ Below w.heap.size w w' := by
  have F := souB_iff.1 hq
  have hlo := F.lo
  have HA := hid (iAirAt n x hx hq h rh rv c hr hM w s hs hn)
  obtain ⟨p, cap, rfl, hcc⟩ := hs
  obtain ⟨b, o, rfl, hcell⟩ := hcc (by omega)
  have HC := hid hcell
  have HF := hid F
  have HN := hid hn
  have HJ := hid hJ
  have HR := hid hr
  have HR1 := hid hR
  have HR2 := hid hR'
  clear hcc hx hq hr hcell F hM hJ hn hlo hR hR'
  refine (callsIn_wide (n := 9)).1 ?_
  refine callsIn_of_wp_marks Try.func22 rfl trivial ?_ rfl
  simp only [Try.ntmps22, List.size_toArray, List.length_cons, List.length_nil, Nat.reduceAdd, Nat.reduceSub, Array.replicate_succ, Array.replicate_zero, List.push_toArray, List.append_toArray, List.nil_append, List.cons_append]
  gi_wp2_with fail
  refine ⟨trivial, ?_⟩
  gi_at_call 79
  refine (callsIn_wide.2 HA.out).mono ?_
  rintro e w1 ⟨rfl, hb1⟩
  have k2 : Hid (Kept w [] w1) := hid ((Kept.nil w).stay hb1)
  have k3 : Hid (Kept w [(w1.heap.size, #[.float .f32 0, .float .f32 0], 44)] (w1.alloc (.cells #[.float .f32 0, .float .f32 0] 44))) := hid (k2.out.push _ _)
  have hge := hid k2.out.size
  have HB1 := hid hb1
  clear hb1 k2 HA
  by_cases hc : c = 0
  · subst hc
    have hR := HR2.out rfl
    subst hR
    clear HR1 HR2
    have hN := hid (HJ.out rfl)
    have HN0 := hN
    have hv := hid (at_vap HF.out HR.out)
    clear HJ HR
    have he1 : (w1.alloc (.cells #[.float .f32 rh, .float .f32 rv] 44)).heap.size = w1.heap.size + 1 := by simp
    have hg8 := hge.out
    have hb9 : Below w.heap.size w (w1.alloc (.cells #[.float .f32 rh, .float .f32 rv] 44)) := HB1.out.alloc hge.out _
    have O0 : Hid (((w1.alloc (.cells #[.float .f32 rh, .float .f32 rv] 44)).alloc (.cells #[.float .f32 h, .float .f32 rh, .float .f32 rv] 111)).ownsRow w.heap.size 111 3 (.slice (some ⟨w1.heap.size + 1, 0, none⟩) 1 1) 1 (wds (abV x h rh rv j) ((0 + 1) * 3))) := hid (by
      refine ⟨rfl, .inr ⟨w1.heap.size + 1, 1, #[.float .f32 h, .float .f32 rh, .float .f32 rv], rfl, by omega, ?_, Nat.le_refl _, by decide, rfl, rfl⟩⟩
      rw [← he1]
      exact heap_alloc_new _ _)
    have B0 := hid (hb9.alloc hb9.size (.cells #[.float .f32 h, .float .f32 rh, .float .f32 rv] 111))
    have hjn := hid (show 1 ≤ j from hN.out.1)
    clear he1 hb9 k3
    gi_wp2_with fail
    gi_loopw [29, 8] (fun i v wr => ∃ (k : Nat) (y : Nat → Nat), k ≤ n ∧ i = .int .i64 k ∧ Hid (∀ q, q < ((k - j) + 1) * 3 → y q = abV x h rh rv j q) ∧ Hid (wr.ownsRow w.heap.size 111 3 v ((k - j) + 1) (wds y (((k - j) + 1) * 3))) ∧ Hid (Below w.heap.size w wr)) (fun i _ _ => n - (intOf i).toNat)
    case atStart =>
      refine ⟨0, abV x h rh rv j, by omega, rfl, hid fun _ _ => rfl, ?_, B0⟩
      rw [Nat.zero_sub]
      exact O0
    case round =>
      obtain ⟨k, y, hk, rfl, hy, hO, hB⟩ := hrel
      clear O0 B0 HB1
      by_cases hlt : k < n
      · have HK := hid hlt
        have hk3 : (k : Int) < (n : Int) := by omega
        have hn9 := HN.out
        have hcw : ∀ j, j < 3 * n → wr.cell? ⟨b, o + j, none⟩ = some (.float .f32 (x j)) := fun j hj => by have h1 := HC.out j hj; rw [hB.out.cell (block_lt_of_cell h1)]; exact h1
        have i1 := fun w => run_indexAt (P := Try.prog) (t := 27) (e := 111) Try.underlying27 info_lev (b := b) (o := o) (n := n) (cap := cap) (k := k) (by omega) w
        have l1 := run_loadAt_mid (P := Try.prog) wr b (o + k * 3) 111 _ _ (row3 hcw hlt) Try.underlying111 rfl info_lev
        have hgt : (FloatKind.f32.format.order (x (k * 3)) h == some .gt) = decide (j ≤ k) := nx_gt HF.out hN.out hlt
        have R3 := row3 hcw hlt
        have c0 := cell0 hcw (i := k) hlt
        have c1 := cell1 hcw (i := k) hlt
        have c2 := cell2 hcw (i := k) hlt
        have hjn2 := hjn
        clear hcw
        by_cases hjk : j ≤ k
        · rw [decide_eq_true hjk] at hgt
          have hk1 : k - j + 1 ≤ 1048576 := by omega
          have he1 : (wr.alloc (.cells #[.float .f32 (x (k * 3)), .float .f32 (x (k * 3 + 1)), .float .f32 (x (k * 3 + 2))] 111)).heap.size = wr.heap.size + 1 := by simp
          have O4 := hid ((hO.out.alloc (.cells #[.float .f32 (x (k * 3)), .float .f32 (x (k * 3 + 1)), .float .f32 (x (k * 3 + 2))] 111)).alloc (.cells #[.float .f32 (x (k * 3)), .float .f32 (x (k * 3 + 1)), .float .f32 (x (k * 3 + 2))] 111))
          have B3 := hB.out.alloc hB.out.size (.cells #[.float .f32 (x (k * 3)), .float .f32 (x (k * 3 + 1)), .float .f32 (x (k * 3 + 2))] 111)
          have B4 := hid (B3.alloc B3.size (.cells #[.float .f32 (x (k * 3)), .float .f32 (x (k * 3 + 1)), .float .f32 (x (k * 3 + 2))] 111))
          have hrow : Hid (((wr.alloc (.cells #[.float .f32 (x (k * 3)), .float .f32 (x (k * 3 + 1)), .float .f32 (x (k * 3 + 2))] 111)).alloc (.cells #[.float .f32 (x (k * 3)), .float .f32 (x (k * 3 + 1)), .float .f32 (x (k * 3 + 2))] 111)).heap[wr.heap.size + 1]? = some (.cells #[.float .f32 (x (k * 3)), .float .f32 (x (k * 3 + 1)), .float .f32 (x (k * 3 + 2))] 111 (0, 0))) := hid (by rw [← he1]; exact heap_alloc_new _ _)
          have HY := hid (three_ab (h := h) (rh := rh) (rv := rv) hjk hy.out)
          have HJK := hid hjk
          clear hy hO hB B3 he1
          gi_wp2_with (refine append_threeIn (w0 := w) rfl _ _ 27 rfl 111 Try.underlying27 infoz_lev _ (k - j + 1) y rfl O4.out B4.out (wr.heap.size + 1) (x (k * 3)) (x (k * 3 + 1)) (x (k * 3 + 2)) rfl hrow.out hk1 (fun v9 w9 O9 B9 => ?_); replace O9 := hid O9; replace B9 := hid B9; clear O4 B4 hrow)
          go_roundw
          case rel => exact ⟨k + 1, _, by omega, by go_num, by rw [show k + 1 - j = k - j + 1 by have := HJK.out; omega]; exact HY, by rw [show k + 1 - j = k - j + 1 by have := HJK.out; omega]; exact O9, B9⟩
          case measure => have := HK.out; simp [intOf]; omega
        · rw [decide_eq_false hjk] at hgt
          gi_wp2
          go_roundw
          case rel => exact ⟨k + 1, y, by omega, by go_num, by rw [show k + 1 - j = k - j by omega]; exact hy, by rw [show k + 1 - j = k - j by omega]; exact hid (hO.out.alloc _), hid (hB.out.alloc hB.out.size _)⟩
          case measure => simp [intOf]; omega
      · obtain rfl : k = n := by omega
        have hjn3 := HN0.out.2.1
        have hjn4 := HN0.out.1
        have hn9 := HN.out
        have hm : k - j + 1 ≤ 1048576 := by omega
        obtain ⟨B, cs, cap', rfl, hwB, L0, K0⟩ := own_kept (by omega) hO.out hB.out
        have L1 := L0.ext (z := abV x h rh rv j) (fun i hi => hy.out i (by omega))
        have RD := hid (K0.at (x := (B, cs, 111)) (by simp))
        have LL := hid L1
        clear hy hO L0 L1 K0
        gi_wp2_with (refine ⟨trivial, ?_⟩; gi_at_call 80; refine (callsIn_wide.2 (iNeighbours _ _ _ _)).mono ?_; rintro e w9 ⟨rfl, rfl⟩)
        have bS0 : Boxed ((wr.alloc (.cells #[.float .f32 0] 23)).alloc (.cells #[.slice (some ⟨B, 0, none⟩) (k - j + 1) cap'] 27)) wr.heap.size 23 (.float .f32 0) := (Boxed.new wr 23 (.float .f32 0)).alloc _
        have bB0 : Boxed ((wr.alloc (.cells #[.float .f32 0] 23)).alloc (.cells #[.slice (some ⟨B, 0, none⟩) (k - j + 1) cap'] 27)) (wr.heap.size + 1) 27 (.slice (some ⟨B, 0, none⟩) (k - j + 1) cap') := by
          have := Boxed.new (wr.alloc (.cells #[.float .f32 0] 23)) 27 (.slice (some ⟨B, 0, none⟩) (k - j + 1) cap')
          rwa [World.size_alloc] at this
        have hsz : ((wr.alloc (.cells #[.float .f32 0] 23)).alloc (.cells #[.slice (some ⟨B, 0, none⟩) (k - j + 1) cap'] 27)).heap.size = wr.heap.size + 1 + 1 := by simp
        have hBr : Below wr.heap.size wr ((wr.alloc (.cells #[.float .f32 0] 23)).alloc (.cells #[.slice (some ⟨B, 0, none⟩) (k - j + 1) cap'] 27)) := ((Below.refl _ wr).alloc (Nat.le_refl _) _).alloc (by simp) _
        have hBW0 := hB.out.trans (hBr.mono hB.out.size)
        have hlB := lt_of_block RD.out
        have RD0 := (hBr.block _ hlB).trans RD.out
        have hBsz := hB.out.size
        clear RD hBr HC hge
        obtain ⟨W0, hW0⟩ : ∃ W0, (wr.alloc (.cells #[.float .f32 0] 23)).alloc (.cells #[.slice (some ⟨B, 0, none⟩) (k - j + 1) cap'] 27) = W0 := ⟨_, rfl⟩
        rw [hW0] at bS0 bB0 hsz hBW0 RD0 ⊢
        clear hW0
        refine wpIn_rangeFunc_ownH (α := Fin (k - j + 1 - 1)) rfl (by decide) (gf := 159) (lb := #[.pointer (some ⟨wr.heap.size + 1, 0, none⟩)]) rfl trivial (Go.Proofs.enters_of Try.func159 (by kernel_rfl) rfl)
          (neighbours_but 8 (wr.heap.size + 1) W0.heap.size wr.heap.size (some ⟨B, 0, none⟩) (k - j + 1) cap' (abV x h rh rv j) hm W0 ⟨by omega, by omega⟩ (Nat.le_refl _) bB0.cell (fun _ => ⟨B, 0, rfl, ⟨by omega, by omega⟩, fun q hq => by rw [Nat.zero_add]; exact LL.out.cell RD0 hq⟩)) BelowBut.t (BelowBut.b (Nat.le_refl _)) (Below.refl _ _) (fun _ => rfl)
          (fun pre W => Boxed W wr.heap.size 23 (.float .f32 (smL (abV x h rh rv j) pre)) ∧ BelowBut wr.heap.size W0.heap.size W0 W ∧ Below w.heap.size w W)
          (fun _ _ _ => False)
          (OwnFrom.and ((boxed_own wr.heap.size 23 (fun (pre : List (Fin (k - j + 1 - 1))) => .float .f32 (smL (abV x h rh rv j) pre))).from _) (OwnFrom.and (ownFrom_but (Nat.le_refl _) (Nat.le_refl _)) (ownFrom_below (Nat.le_refl _) (by omega))))
          (fun c => ownFrom_pure _ (fun _ => False))
          ⟨bS0, BelowBut.refl _ _ _, hBW0⟩
          (fun i a' W => ∃ Bx, W0.heap.size ≤ Bx ∧ W.heap[Bx]? = some (.cells #[.float .f32 (abV x h rh rv j (i.1 * 3)), .float .f32 (abV x h rh rv j (i.1 * 3 + 1)), .float .f32 (abV x h rh rv j (i.1 * 3 + 2)), .float .f32 (abV x h rh rv j ((i.1 + 1) * 3)), .float .f32 (abV x h rh rv j ((i.1 + 1) * 3 + 1)), .float .f32 (abV x h rh rv j ((i.1 + 1) * 3 + 2))] 120 (0, 0)) ∧ a' = { tmps := #[.slice (some ⟨b, o, none⟩) k cap, .float .f32 h, undef, undef, .float .f32 0, .int .i64 0, .pointer (some ⟨w1.heap.size, 0, none⟩), .int .i64 0, .slice (some ⟨B, 0, none⟩) (k - j + 1) cap', undef, u10, .pointer (some ⟨wr.heap.size, 0, none⟩), undef, .pointer (some ⟨Bx, 0, none⟩), .tuple #[.agg #[.float .f32 rh, .float .f32 rv], .int .i64 0], .slice (some ⟨b, o, none⟩) k cap, .float .f32 h, .tuple #[.agg #[.float .f32 rh, .float .f32 rv], .int .i64 0], .agg #[.float .f32 rh, .float .f32 rv], .int .i64 0, .int .i64 0, .bool false, undef, .float .f32 h, .agg #[.float .f32 rh, .float .f32 rv], .agg #[.float .f32 h, .float .f32 rh, .float .f32 rv], .slice (some ⟨w1.heap.size + 1, 0, none⟩) 1 1, .slice (some ⟨b, o, none⟩) k cap, .int .i64 (k : Int), .int .i64 (k : Int), .bool false, u31, u32, u33, u34, u35, u36, u37, u38, u39, u40, u41, .slice (some ⟨B, 0, none⟩) (k - j + 1) cap', .func (.func 159) #[] #[.pointer (some ⟨wr.heap.size + 1, 0, none⟩)], .int .i64 (i.1 : Int), .agg #[.float .f32 (abV x h rh rv j (i.1 * 3)), .float .f32 (abV x h rh rv j (i.1 * 3 + 1)), .float .f32 (abV x h rh rv j (i.1 * 3 + 2)), .float .f32 (abV x h rh rv j ((i.1 + 1) * 3)), .float .f32 (abV x h rh rv j ((i.1 + 1) * 3 + 1)), .float .f32 (abV x h rh rv j ((i.1 + 1) * 3 + 2))], undef, undef, undef, undef, undef], defers := [] })
          (fun i a' _ X Y row hs hg hr => by obtain ⟨Bx, e1, e2, e3⟩ := hs; exact ⟨Bx, e1, row_own Bx 120 (fun (_ : Unit) => _) () X Y row e2 hg (fun r e => (hr r e).2), e3⟩)
          ?assign ?body ?done ?stop
        case assign =>
          rintro l pre i W K ⟨hp, hBu, hBW⟩ hK
          have hS := hBu.size
          unfold encL
          gi_wp2
          exact hK _ _ ((KeepsOthers.alloc _ _).from _) (.of ((Below.refl _ W).alloc (by omega) _)) ⟨hp.alloc _, hBu.trans (.of ((Below.refl _ W).alloc (by omega) _)), hBW.alloc hBW.size _⟩ ⟨W.heap.size, by omega, heap_alloc_new _ _, rfl⟩
        case body =>
          rintro l pre i a' W hl ⟨r', hr⟩ ⟨bS, hBu, hBW⟩ ⟨Bx, hBx, bX, rfl⟩ hlt9
          clear hr
          have hi := i.2
          have LF := lyr_facts (rh := rh) HF.out HN0.out hv.out (k := i.1) (by omega)
          have HV := fun w' => iVapour (abV x h rh rv j (i.1 * 3)) (abV x h rh rv j (i.1 * 3 + 1)) (abV x h rh rv j (i.1 * 3 + 2)) (abV x h rh rv j ((i.1 + 1) * 3)) (abV x h rh rv j ((i.1 + 1) * 3 + 1)) (abV x h rh rv j ((i.1 + 1) * 3 + 2)) LF w'
          have hnn : nnB (smL (abV x h rh rv j) pre) = true := smL_nn HF.out HN0.out hv.out pre
          have r3 := fun w => run_add (P := Try.prog) 23 hnn LF.nn w
          have hBs := hBu.size
          gi_wp2_with fail
          refine regionIn_round l 5 #[false, false, false, false, false] (by kernel_rfl) rfl (by kernel_rfl) rfl rfl ?_
          refine with_name fun G hG => ?_
          have s012 : ∀ Wd, Below W.heap.size W Wd → G 1 #[true, true, true, true, false] ({ tmps := #[.slice (some ⟨b, o, none⟩) k cap, .float .f32 h, undef, undef, .float .f32 0, .int .i64 0, .pointer (some ⟨w1.heap.size, 0, none⟩), .int .i64 0, .slice (some ⟨B, 0, none⟩) (k - j + 1) cap', undef, u10, .pointer (some ⟨wr.heap.size, 0, none⟩), undef, .pointer (some ⟨Bx, 0, none⟩), .tuple #[.agg #[.float .f32 rh, .float .f32 rv], .int .i64 0], .slice (some ⟨b, o, none⟩) k cap, .float .f32 h, .tuple #[.agg #[.float .f32 rh, .float .f32 rv], .int .i64 0], .agg #[.float .f32 rh, .float .f32 rv], .int .i64 0, .int .i64 0, .bool false, undef, .float .f32 h, .agg #[.float .f32 rh, .float .f32 rv], .agg #[.float .f32 h, .float .f32 rh, .float .f32 rv], .slice (some ⟨w1.heap.size + 1, 0, none⟩) 1 1, .slice (some ⟨b, o, none⟩) k cap, .int .i64 (k : Int), .int .i64 (k : Int), .bool false, u31, u32, u33, u34, u35, u36, u37, u38, u39, u40, u41, .slice (some ⟨B, 0, none⟩) (k - j + 1) cap', .func (.func 159) #[] #[.pointer (some ⟨wr.heap.size + 1, 0, none⟩)], .int .i64 (i.1 : Int), .agg #[.float .f32 (abV x h rh rv j (i.1 * 3)), .float .f32 (abV x h rh rv j (i.1 * 3 + 1)), .float .f32 (abV x h rh rv j (i.1 * 3 + 2)), .float .f32 (abV x h rh rv j ((i.1 + 1) * 3)), .float .f32 (abV x h rh rv j ((i.1 + 1) * 3 + 1)), .float .f32 (abV x h rh rv j ((i.1 + 1) * 3 + 2))], .float .f32 (smL (abV x h rh rv j) pre), .agg #[.float .f32 (abV x h rh rv j (i.1 * 3)), .float .f32 (abV x h rh rv j (i.1 * 3 + 1)), .float .f32 (abV x h rh rv j (i.1 * 3 + 2)), .float .f32 (abV x h rh rv j ((i.1 + 1) * 3)), .float .f32 (abV x h rh rv j ((i.1 + 1) * 3 + 1)), .float .f32 (abV x h rh rv j ((i.1 + 1) * 3 + 2))], .float .f32 (lyr (abV x h rh rv j) i.1), .float .f32 (fadd (smL (abV x h rh rv j) pre) (lyr (abV x h rh rv j) i.1)), undef], defers := [] }) Wd := fun Wd hb => by
            rw [← hG]
            have bXd := (hb.block _ (lt_of_block bX)).trans bX
            have bSd : Boxed Wd wr.heap.size 23 (.float .f32 (smL (abV x h rh rv j) pre)) := (hb.block _ bS.lt).trans bS
            refine wpAnyIn_ready (rs := [4]) (by kernel_rfl) (by simp) ?_
            have c0 := bSd.cell
            have f0 := bSd.frozen
            refine storeIn 4 _ (Wd.setCell ⟨wr.heap.size, 0, none⟩ (.float .f32 (fadd (smL (abV x h rh rv j) pre) (lyr (abV x h rh rv j) i.1)))) rfl rfl (by rfl) (by unfold execOp; go_simp) (fun _ _ => trivial) rfl ?_ AllReadyIn.nil
            refine wpAnyIn_done (by kernel_rfl) (NoPanic.normal ?_) _
            have hbm := hb.mono hBs
            gi_wp2
            exact ⟨((⟨hb.size, fun k o _ hk _ => (hb.block k (lt_of_block hk)).trans hk⟩ : KeepsFrom W0.heap.size W Wd)).trans ((KeepsOthers.setCell _ _ _).from _), (BelowBut.of hbm).setCell 0 _, by rw [smL_snoc]; exact bSd.set _, (hBu.trans (.of hbm)).setCell 0 _, (hBW.trans (hb.mono hBW.size)).setCell (p := ⟨wr.heap.size, 0, none⟩) hBsz _⟩
          have s12 : ∀ Wd, Below W.heap.size W Wd → G 3 #[false, true, true, false, false] ({ tmps := #[.slice (some ⟨b, o, none⟩) k cap, .float .f32 h, undef, undef, .float .f32 0, .int .i64 0, .pointer (some ⟨w1.heap.size, 0, none⟩), .int .i64 0, .slice (some ⟨B, 0, none⟩) (k - j + 1) cap', undef, u10, .pointer (some ⟨wr.heap.size, 0, none⟩), undef, .pointer (some ⟨Bx, 0, none⟩), .tuple #[.agg #[.float .f32 rh, .float .f32 rv], .int .i64 0], .slice (some ⟨b, o, none⟩) k cap, .float .f32 h, .tuple #[.agg #[.float .f32 rh, .float .f32 rv], .int .i64 0], .agg #[.float .f32 rh, .float .f32 rv], .int .i64 0, .int .i64 0, .bool false, undef, .float .f32 h, .agg #[.float .f32 rh, .float .f32 rv], .agg #[.float .f32 h, .float .f32 rh, .float .f32 rv], .slice (some ⟨w1.heap.size + 1, 0, none⟩) 1 1, .slice (some ⟨b, o, none⟩) k cap, .int .i64 (k : Int), .int .i64 (k : Int), .bool false, u31, u32, u33, u34, u35, u36, u37, u38, u39, u40, u41, .slice (some ⟨B, 0, none⟩) (k - j + 1) cap', .func (.func 159) #[] #[.pointer (some ⟨wr.heap.size + 1, 0, none⟩)], .int .i64 (i.1 : Int), .agg #[.float .f32 (abV x h rh rv j (i.1 * 3)), .float .f32 (abV x h rh rv j (i.1 * 3 + 1)), .float .f32 (abV x h rh rv j (i.1 * 3 + 2)), .float .f32 (abV x h rh rv j ((i.1 + 1) * 3)), .float .f32 (abV x h rh rv j ((i.1 + 1) * 3 + 1)), .float .f32 (abV x h rh rv j ((i.1 + 1) * 3 + 2))], undef, .agg #[.float .f32 (abV x h rh rv j (i.1 * 3)), .float .f32 (abV x h rh rv j (i.1 * 3 + 1)), .float .f32 (abV x h rh rv j (i.1 * 3 + 2)), .float .f32 (abV x h rh rv j ((i.1 + 1) * 3)), .float .f32 (abV x h rh rv j ((i.1 + 1) * 3 + 1)), .float .f32 (abV x h rh rv j ((i.1 + 1) * 3 + 2))], .float .f32 (lyr (abV x h rh rv j) i.1), undef, undef], defers := [] }) Wd := fun Wd hb => by
            rw [← hG]
            have bXd := (hb.block _ (lt_of_block bX)).trans bX
            have bSd : Boxed Wd wr.heap.size 23 (.float .f32 (smL (abV x h rh rv j) pre)) := (hb.block _ bS.lt).trans bS
            refine wpAnyIn_ready (rs := [0]) (by kernel_rfl) (by simp) ?_
            refine readIn 0 _ _ (.float .f32 (smL (abV x h rh rv j) pre)) rfl rfl (by rfl) (run_load_cell 23 _ ⟨wr.heap.size, 0, none⟩ _ rfl (run_loadVar_one Try.underlying23 rfl bSd.cell)) rfl rfl rfl ?_ AllReadyIn.nil
            simp only [Act.put, List.setIfInBounds_toArray, List.set_cons_zero, List.set_cons_succ]
            refine takeIn 3 _ _ (.float .f32 (fadd (smL (abV x h rh rv j) pre) (lyr (abV x h rh rv j) i.1))) rfl rfl (by rfl) (by kernel_rfl) (by kernel_rfl) (by kernel_rfl) (fun w => run_binop_val _ _ _ _ (by rfl) (by rfl) (by simp [eqGuard]) (r3 w)) (fun _ => rfl) rfl rfl ?_
            simp only [Act.put, List.setIfInBounds_toArray, List.set_cons_zero, List.set_cons_succ]
            exact (hG _ _ _ _).mpr (s012 Wd hb)
          have s01 : ∀ Wd, Below W.heap.size W Wd → G 3 #[true, true, false, false, false] ({ tmps := #[.slice (some ⟨b, o, none⟩) k cap, .float .f32 h, undef, undef, .float .f32 0, .int .i64 0, .pointer (some ⟨w1.heap.size, 0, none⟩), .int .i64 0, .slice (some ⟨B, 0, none⟩) (k - j + 1) cap', undef, u10, .pointer (some ⟨wr.heap.size, 0, none⟩), undef, .pointer (some ⟨Bx, 0, none⟩), .tuple #[.agg #[.float .f32 rh, .float .f32 rv], .int .i64 0], .slice (some ⟨b, o, none⟩) k cap, .float .f32 h, .tuple #[.agg #[.float .f32 rh, .float .f32 rv], .int .i64 0], .agg #[.float .f32 rh, .float .f32 rv], .int .i64 0, .int .i64 0, .bool false, undef, .float .f32 h, .agg #[.float .f32 rh, .float .f32 rv], .agg #[.float .f32 h, .float .f32 rh, .float .f32 rv], .slice (some ⟨w1.heap.size + 1, 0, none⟩) 1 1, .slice (some ⟨b, o, none⟩) k cap, .int .i64 (k : Int), .int .i64 (k : Int), .bool false, u31, u32, u33, u34, u35, u36, u37, u38, u39, u40, u41, .slice (some ⟨B, 0, none⟩) (k - j + 1) cap', .func (.func 159) #[] #[.pointer (some ⟨wr.heap.size + 1, 0, none⟩)], .int .i64 (i.1 : Int), .agg #[.float .f32 (abV x h rh rv j (i.1 * 3)), .float .f32 (abV x h rh rv j (i.1 * 3 + 1)), .float .f32 (abV x h rh rv j (i.1 * 3 + 2)), .float .f32 (abV x h rh rv j ((i.1 + 1) * 3)), .float .f32 (abV x h rh rv j ((i.1 + 1) * 3 + 1)), .float .f32 (abV x h rh rv j ((i.1 + 1) * 3 + 2))], .float .f32 (smL (abV x h rh rv j) pre), .agg #[.float .f32 (abV x h rh rv j (i.1 * 3)), .float .f32 (abV x h rh rv j (i.1 * 3 + 1)), .float .f32 (abV x h rh rv j (i.1 * 3 + 2)), .float .f32 (abV x h rh rv j ((i.1 + 1) * 3)), .float .f32 (abV x h rh rv j ((i.1 + 1) * 3 + 1)), .float .f32 (abV x h rh rv j ((i.1 + 1) * 3 + 2))], undef, undef, undef], defers := [] }) Wd := fun Wd hb => by
            rw [← hG]
            have bXd := (hb.block _ (lt_of_block bX)).trans bX
            have bSd : Boxed Wd wr.heap.size 23 (.float .f32 (smL (abV x h rh rv j) pre)) := (hb.block _ bS.lt).trans bS
            refine wpAnyIn_ready (rs := [2]) (by kernel_rfl) (by simp) ?_
            refine callIn 2 _ _ (.float .f32 (lyr (abV x h rh rv j) i.1)) rfl rfl (by rfl) 81 #[.agg #[.float .f32 (abV x h rh rv j (i.1 * 3)), .float .f32 (abV x h rh rv j (i.1 * 3 + 1)), .float .f32 (abV x h rh rv j (i.1 * 3 + 2)), .float .f32 (abV x h rh rv j ((i.1 + 1) * 3)), .float .f32 (abV x h rh rv j ((i.1 + 1) * 3 + 1)), .float .f32 (abV x h rh rv j ((i.1 + 1) * 3 + 2))]] (by unfold execOp; go_simp) (fun _ _ => trivial) (fun hh => by cases hh) (fun w2 => Below Wd.heap.size Wd w2) (callsIn_wide.2 (HV Wd)) rfl rfl (fun w2 hb2 => ?_) AllReadyIn.nil
            simp only [Act.put, List.setIfInBounds_toArray, List.set_cons_zero, List.set_cons_succ]
            refine takeIn 3 _ _ (.float .f32 (fadd (smL (abV x h rh rv j) pre) (lyr (abV x h rh rv j) i.1))) rfl rfl (by rfl) (by kernel_rfl) (by kernel_rfl) (by kernel_rfl) (fun w => run_binop_val _ _ _ _ (by rfl) (by rfl) (by simp [eqGuard]) (r3 w)) (fun _ => rfl) rfl rfl ?_
            simp only [Act.put, List.setIfInBounds_toArray, List.set_cons_zero, List.set_cons_succ]
            exact (hG _ _ _ _).mpr (s012 w2 (hb.trans (hb2.mono hb.size)))
          have s1 : ∀ Wd, Below W.heap.size W Wd → G 4 #[false, true, false, false, false] ({ tmps := #[.slice (some ⟨b, o, none⟩) k cap, .float .f32 h, undef, undef, .float .f32 0, .int .i64 0, .pointer (some ⟨w1.heap.size, 0, none⟩), .int .i64 0, .slice (some ⟨B, 0, none⟩) (k - j + 1) cap', undef, u10, .pointer (some ⟨wr.heap.size, 0, none⟩), undef, .pointer (some ⟨Bx, 0, none⟩), .tuple #[.agg #[.float .f32 rh, .float .f32 rv], .int .i64 0], .slice (some ⟨b, o, none⟩) k cap, .float .f32 h, .tuple #[.agg #[.float .f32 rh, .float .f32 rv], .int .i64 0], .agg #[.float .f32 rh, .float .f32 rv], .int .i64 0, .int .i64 0, .bool false, undef, .float .f32 h, .agg #[.float .f32 rh, .float .f32 rv], .agg #[.float .f32 h, .float .f32 rh, .float .f32 rv], .slice (some ⟨w1.heap.size + 1, 0, none⟩) 1 1, .slice (some ⟨b, o, none⟩) k cap, .int .i64 (k : Int), .int .i64 (k : Int), .bool false, u31, u32, u33, u34, u35, u36, u37, u38, u39, u40, u41, .slice (some ⟨B, 0, none⟩) (k - j + 1) cap', .func (.func 159) #[] #[.pointer (some ⟨wr.heap.size + 1, 0, none⟩)], .int .i64 (i.1 : Int), .agg #[.float .f32 (abV x h rh rv j (i.1 * 3)), .float .f32 (abV x h rh rv j (i.1 * 3 + 1)), .float .f32 (abV x h rh rv j (i.1 * 3 + 2)), .float .f32 (abV x h rh rv j ((i.1 + 1) * 3)), .float .f32 (abV x h rh rv j ((i.1 + 1) * 3 + 1)), .float .f32 (abV x h rh rv j ((i.1 + 1) * 3 + 2))], undef, .agg #[.float .f32 (abV x h rh rv j (i.1 * 3)), .float .f32 (abV x h rh rv j (i.1 * 3 + 1)), .float .f32 (abV x h rh rv j (i.1 * 3 + 2)), .float .f32 (abV x h rh rv j ((i.1 + 1) * 3)), .float .f32 (abV x h rh rv j ((i.1 + 1) * 3 + 1)), .float .f32 (abV x h rh rv j ((i.1 + 1) * 3 + 2))], undef, undef, undef], defers := [] }) Wd := fun Wd hb => by
            rw [← hG]
            have bXd := (hb.block _ (lt_of_block bX)).trans bX
            have bSd : Boxed Wd wr.heap.size 23 (.float .f32 (smL (abV x h rh rv j) pre)) := (hb.block _ bS.lt).trans bS
            refine wpAnyIn_ready (rs := [0, 2]) (by kernel_rfl) (by simp) ?_
            refine readIn 0 _ _ (.float .f32 (smL (abV x h rh rv j) pre)) rfl rfl (by rfl) (run_load_cell 23 _ ⟨wr.heap.size, 0, none⟩ _ rfl (run_loadVar_one Try.underlying23 rfl bSd.cell)) rfl rfl rfl ?_ ?_
            · simp only [Act.put, List.setIfInBounds_toArray, List.set_cons_zero, List.set_cons_succ]
              exact (hG _ _ _ _).mpr (s01 Wd hb)
            refine callIn 2 _ _ (.float .f32 (lyr (abV x h rh rv j) i.1)) rfl rfl (by rfl) 81 #[.agg #[.float .f32 (abV x h rh rv j (i.1 * 3)), .float .f32 (abV x h rh rv j (i.1 * 3 + 1)), .float .f32 (abV x h rh rv j (i.1 * 3 + 2)), .float .f32 (abV x h rh rv j ((i.1 + 1) * 3)), .float .f32 (abV x h rh rv j ((i.1 + 1) * 3 + 1)), .float .f32 (abV x h rh rv j ((i.1 + 1) * 3 + 2))]] (by unfold execOp; go_simp) (fun _ _ => trivial) (fun hh => by cases hh) (fun w2 => Below Wd.heap.size Wd w2) (callsIn_wide.2 (HV Wd)) rfl rfl (fun w2 hb2 => ?_) AllReadyIn.nil
            simp only [Act.put, List.setIfInBounds_toArray, List.set_cons_zero, List.set_cons_succ]
            exact (hG _ _ _ _).mpr (s12 w2 (hb.trans (hb2.mono hb.size)))
          have s0 : ∀ Wd, Below W.heap.size W Wd → G 4 #[true, false, false, false, false] ({ tmps := #[.slice (some ⟨b, o, none⟩) k cap, .float .f32 h, undef, undef, .float .f32 0, .int .i64 0, .pointer (some ⟨w1.heap.size, 0, none⟩), .int .i64 0, .slice (some ⟨B, 0, none⟩) (k - j + 1) cap', undef, u10, .pointer (some ⟨wr.heap.size, 0, none⟩), undef, .pointer (some ⟨Bx, 0, none⟩), .tuple #[.agg #[.float .f32 rh, .float .f32 rv], .int .i64 0], .slice (some ⟨b, o, none⟩) k cap, .float .f32 h, .tuple #[.agg #[.float .f32 rh, .float .f32 rv], .int .i64 0], .agg #[.float .f32 rh, .float .f32 rv], .int .i64 0, .int .i64 0, .bool false, undef, .float .f32 h, .agg #[.float .f32 rh, .float .f32 rv], .agg #[.float .f32 h, .float .f32 rh, .float .f32 rv], .slice (some ⟨w1.heap.size + 1, 0, none⟩) 1 1, .slice (some ⟨b, o, none⟩) k cap, .int .i64 (k : Int), .int .i64 (k : Int), .bool false, u31, u32, u33, u34, u35, u36, u37, u38, u39, u40, u41, .slice (some ⟨B, 0, none⟩) (k - j + 1) cap', .func (.func 159) #[] #[.pointer (some ⟨wr.heap.size + 1, 0, none⟩)], .int .i64 (i.1 : Int), .agg #[.float .f32 (abV x h rh rv j (i.1 * 3)), .float .f32 (abV x h rh rv j (i.1 * 3 + 1)), .float .f32 (abV x h rh rv j (i.1 * 3 + 2)), .float .f32 (abV x h rh rv j ((i.1 + 1) * 3)), .float .f32 (abV x h rh rv j ((i.1 + 1) * 3 + 1)), .float .f32 (abV x h rh rv j ((i.1 + 1) * 3 + 2))], .float .f32 (smL (abV x h rh rv j) pre), undef, undef, undef, undef], defers := [] }) Wd := fun Wd hb => by
            rw [← hG]
            have bXd := (hb.block _ (lt_of_block bX)).trans bX
            have bSd : Boxed Wd wr.heap.size 23 (.float .f32 (smL (abV x h rh rv j) pre)) := (hb.block _ bS.lt).trans bS
            refine wpAnyIn_ready (rs := [1]) (by kernel_rfl) (by simp) ?_
            refine readIn 1 _ _ (.agg #[.float .f32 (abV x h rh rv j (i.1 * 3)), .float .f32 (abV x h rh rv j (i.1 * 3 + 1)), .float .f32 (abV x h rh rv j (i.1 * 3 + 2)), .float .f32 (abV x h rh rv j ((i.1 + 1) * 3)), .float .f32 (abV x h rh rv j ((i.1 + 1) * 3 + 1)), .float .f32 (abV x h rh rv j ((i.1 + 1) * 3 + 2))]) rfl rfl (by rfl) (run_load_mid 120 _ Bx 0 [.float .f32 (abV x h rh rv j (i.1 * 3)), .float .f32 (abV x h rh rv j (i.1 * 3 + 1)), .float .f32 (abV x h rh rv j (i.1 * 3 + 2)), .float .f32 (abV x h rh rv j ((i.1 + 1) * 3)), .float .f32 (abV x h rh rv j ((i.1 + 1) * 3 + 1)), .float .f32 (abV x h rh rv j ((i.1 + 1) * 3 + 2))] rfl (rowRange bXd) _ Try.underlying120 rfl info_lay) rfl rfl rfl ?_ AllReadyIn.nil
            simp only [Act.put, List.setIfInBounds_toArray, List.set_cons_zero, List.set_cons_succ]
            exact (hG _ _ _ _).mpr (s01 Wd hb)
          have s : ∀ Wd, Below W.heap.size W Wd → G 5 #[false, false, false, false, false] ({ tmps := #[.slice (some ⟨b, o, none⟩) k cap, .float .f32 h, undef, undef, .float .f32 0, .int .i64 0, .pointer (some ⟨w1.heap.size, 0, none⟩), .int .i64 0, .slice (some ⟨B, 0, none⟩) (k - j + 1) cap', undef, u10, .pointer (some ⟨wr.heap.size, 0, none⟩), undef, .pointer (some ⟨Bx, 0, none⟩), .tuple #[.agg #[.float .f32 rh, .float .f32 rv], .int .i64 0], .slice (some ⟨b, o, none⟩) k cap, .float .f32 h, .tuple #[.agg #[.float .f32 rh, .float .f32 rv], .int .i64 0], .agg #[.float .f32 rh, .float .f32 rv], .int .i64 0, .int .i64 0, .bool false, undef, .float .f32 h, .agg #[.float .f32 rh, .float .f32 rv], .agg #[.float .f32 h, .float .f32 rh, .float .f32 rv], .slice (some ⟨w1.heap.size + 1, 0, none⟩) 1 1, .slice (some ⟨b, o, none⟩) k cap, .int .i64 (k : Int), .int .i64 (k : Int), .bool false, u31, u32, u33, u34, u35, u36, u37, u38, u39, u40, u41, .slice (some ⟨B, 0, none⟩) (k - j + 1) cap', .func (.func 159) #[] #[.pointer (some ⟨wr.heap.size + 1, 0, none⟩)], .int .i64 (i.1 : Int), .agg #[.float .f32 (abV x h rh rv j (i.1 * 3)), .float .f32 (abV x h rh rv j (i.1 * 3 + 1)), .float .f32 (abV x h rh rv j (i.1 * 3 + 2)), .float .f32 (abV x h rh rv j ((i.1 + 1) * 3)), .float .f32 (abV x h rh rv j ((i.1 + 1) * 3 + 1)), .float .f32 (abV x h rh rv j ((i.1 + 1) * 3 + 2))], undef, undef, undef, undef, undef], defers := [] }) Wd := fun Wd hb => by
            rw [← hG]
            have bXd := (hb.block _ (lt_of_block bX)).trans bX
            have bSd : Boxed Wd wr.heap.size 23 (.float .f32 (smL (abV x h rh rv j) pre)) := (hb.block _ bS.lt).trans bS
            refine wpAnyIn_ready (rs := [0, 1]) (by kernel_rfl) (by simp) ?_
            refine readIn 0 _ _ (.float .f32 (smL (abV x h rh rv j) pre)) rfl rfl (by rfl) (run_load_cell 23 _ ⟨wr.heap.size, 0, none⟩ _ rfl (run_loadVar_one Try.underlying23 rfl bSd.cell)) rfl rfl rfl ?_ ?_
            · simp only [Act.put, List.setIfInBounds_toArray, List.set_cons_zero, List.set_cons_succ]
              exact (hG _ _ _ _).mpr (s0 Wd hb)
            refine readIn 1 _ _ (.agg #[.float .f32 (abV x h rh rv j (i.1 * 3)), .float .f32 (abV x h rh rv j (i.1 * 3 + 1)), .float .f32 (abV x h rh rv j (i.1 * 3 + 2)), .float .f32 (abV x h rh rv j ((i.1 + 1) * 3)), .float .f32 (abV x h rh rv j ((i.1 + 1) * 3 + 1)), .float .f32 (abV x h rh rv j ((i.1 + 1) * 3 + 2))]) rfl rfl (by rfl) (run_load_mid 120 _ Bx 0 [.float .f32 (abV x h rh rv j (i.1 * 3)), .float .f32 (abV x h rh rv j (i.1 * 3 + 1)), .float .f32 (abV x h rh rv j (i.1 * 3 + 2)), .float .f32 (abV x h rh rv j ((i.1 + 1) * 3)), .float .f32 (abV x h rh rv j ((i.1 + 1) * 3 + 1)), .float .f32 (abV x h rh rv j ((i.1 + 1) * 3 + 2))] rfl (rowRange bXd) _ Try.underlying120 rfl info_lay) rfl rfl rfl ?_ AllReadyIn.nil
            simp only [Act.put, List.setIfInBounds_toArray, List.set_cons_zero, List.set_cons_succ]
            exact (hG _ _ _ _).mpr (s1 Wd hb)
          exact s W.drew (Below.refl _ W).drew
        case done =>
          rintro D ys W hD rfl ⟨bS, hBu, hBW⟩ hK
          have hsz9 := hBW0.size
          have e1 := bS.cell
          rw [show smL (abV x h rh rv j) (List.finRange (k - j + 1 - 1)) = smV x h rv j (k - j) from smL_eq] at e1
          gi_wp2
          refine ⟨by simp, .inl ⟨_, _, rfl, run_takeDeferred hK, ?_⟩⟩
          exact ⟨_, results_tmp2 rfl _ _ _, rfl, hBW.trans (belowK_b (w := w) (Nat.le_refl _) _ D _ _ (by omega) hK rfl rfl)⟩
        case stop =>
          rintro D c pre W hD hpre ⟨⟩
  · obtain rfl := HR1.out hc
    have hcz := hc
    clear HR1 HR2 HJ HR HF HN HC hc
    gi_wp2_with fail
    have hb9 := HB1.out
    first | exact ⟨_, results_tmp2 rfl _ _ _, rfl, hb9.alloc hge.out _⟩ | exact bodyPost_ret (results_tmp2 rfl _ _ _) rfl ⟨rfl, hb9.alloc hge.out _⟩ | exact ⟨by simp, .inr ⟨_, results_tmp2 rfl _ _ _, rfl, hb9.alloc hge.out _⟩⟩

theorem at_between {n : Nat} {x : Nat → Nat} (hx : W32 x) (F : SouF n x) {h : Nat} (hl : h < 4294967296) {k : Nat} (hk : k + 1 < n) (g : gtH x h k = true) (l : ltH x h (k + 1) = true) : AtF x h k := by
  rcases hf : finB h with _ | _
  · exfalso
    have a := order_bad hl hf (hgt_inf (hgt_lv (F.lv k (by omega))))
    have b := order_bad hl hf (hgt_inf (hgt_lv (F.lv (k + 1) hk)))
    unfold gtH at g
    unfold ltH at l
    by_cases hs : 2147483648 ≤ h
    · rw [if_pos hs] at a
      rcases a with a | a <;> rw [a] at g <;> exact absurd g (by decide)
    · rw [if_neg hs] at b
      rcases b with b | b <;> rw [b] at l <;> exact absurd l (by decide)
  · have f := fw_of hl hf
    exact at_facts hx F f hk ((gtH_iff F f (by omega)).1 g) ((ltH_iff F f hk).1 l)
end Go.Proofs.Ytgmcpbhjcfiikaa
