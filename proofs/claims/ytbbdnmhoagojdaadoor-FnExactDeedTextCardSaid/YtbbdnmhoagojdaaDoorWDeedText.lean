import Derived.Test.YtbbdnmhoagojdaaDoorCDeedText
import Derived.Test.YtbbdnmhoagojdaaDoorChecked
import Derived.Test.YtbbdnmhoagojdaaDoorRows
import Derived.Test.YtbbdnmhoagojdaaDoorCards
import Derived.Test.YtbbdnmhoagojdaaDoorTie
import Derived.Laws.FloatArith
import Derived.ProofKit
import Derived.WalkKit
import Derived.WalkLawsBesides
import Derived.WalkSpells
import Derived.Deep.QuietTactic
import Derived.BigQuiet
import Derived.Deep.RegionHeld3
import Derived.ChangeKeysEq
import Derived.Laws.BitsAllLaws
import Derived.Deep.MidRow
import Derived.Deep.WholeRow
import Derived.StillTailTactics
import Derived.Deep.Slices
import Derived.ChangeSame
import Derived.OrdersIn
import Derived.ControlIn
import Derived.RangeFuncSeq
import Derived.RangeFuncNested
import Derived.ArgAppend
import Derived.OwnWalkIn
import Derived.TacticsInMore
import Derived.StillTail
import Derived.Below
import Derived.Laws.AppendOwn
import Derived.RangeFuncLeaves
import Derived.RangeFuncBox
import Derived.MapKept
import Derived.Lib.ItoaNum
import Derived.Lib.ItoaLen
import Derived.Lib.ItoaMem
import Derived.Shelf.Strconv.Itoa4
import Derived.Lib.AppendIntMem
import Derived.Lib.LaidTab
import Derived.OpenShut
import Derived.Deep.Strs
import Derived.Stop.LaidErr
import Derived.LaidMore
import Derived.Handed
import Derived.LaidHandle
import Derived.Stop.Joined
import Derived.HandedShaped
import Derived.Shelf.Vars
import Derived.Lay
import Derived.MakeChecks
import Derived.SevenTiedAt
/- The tied card of FnExactDeedText. -/
namespace Go.Proofs.YtbbdnmhoagojdaaDoor
open Go.RowKit Go.Fl

@[go_sem] theorem ext_f64bits (y : Nat) (w : World) : (callFunc 138 #[.float .f64 y]).run Tryd.prog w = .ok (.value (.int .u64 y)) w := by
  rw [run_callFunc_extern Tryd.func138 (by kernel_rfl) (by kernel_rfl) (by kernel_rfl) (e := Extern.MathFloatBits.float64bits) (by kernel_rfl)]
  rfl

@[go_sem] theorem ext_f64from (n : Int) (w : World) : (callFunc 144 #[.int .u64 n]).run Tryd.prog w = .ok (.value (.float .f64 n.toNat)) w := by
  rw [run_callFunc_extern Tryd.func144 (by kernel_rfl) (by kernel_rfl) (by kernel_rfl) (e := Extern.MathFloatBits.float64frombits) (by kernel_rfl)]
  rfl

theorem hid {p : Prop} (h : p) : Hid p := h

@[go_sem] theorem ext_f32bits (y : Nat) (w : World) : (callFunc 116 #[.float .f32 y]).run Tryd.prog w = .ok (.value (.int .u32 y)) w := by
  rw [run_callFunc_extern Tryd.func116 (by kernel_rfl) (by kernel_rfl) (by kernel_rfl) (e := Extern.MathFloatBits.float32bits) (by kernel_rfl)]
  rfl

theorem l00In_t (n a b : Int) (h1 : a ≤ n) (h2 : n ≤ b) (w : World) :
    Calls Tryd.prog 104 #[.int .i64 n, .int .i64 a, .int .i64 b] w fun e w' => e = .returned (.bool true) ∧ w = w' := by
  go_enter Tryd.func104, Tryd.ntmps104
  go_wp2
  go_ret
  exact ⟨by first | rfl | (simp; done) | (simp; omega), rfl⟩

theorem l00In_f (n a b : Int) (hn : ¬ (a ≤ n ∧ n ≤ b)) (w : World) :
    Calls Tryd.prog 104 #[.int .i64 n, .int .i64 a, .int .i64 b] w fun e w' => e = .returned (.bool false) ∧ w = w' := by
  by_cases h0 : a ≤ n
  · have h3 : b < n := by omega
    clear hn
    go_enter Tryd.func104, Tryd.ntmps104
    go_wp2
    go_ret
    exact ⟨by first | rfl | (simp; done) | (simp; omega), rfl⟩
  · have h3 : n < a := by omega
    have h4 : decide (a ≤ n) = false := by simp; omega
    clear hn h0
    go_enter Tryd.func104, Tryd.ntmps104
    go_wp2
    go_ret
    exact ⟨by simp, rfl⟩

/-- A digit's byte. -/
def bt (m : Nat) : UInt8 := UInt8.ofNat (48 + m)

theorem bt_nat {m : Nat} (h : m < 10) : ((bt m).toNat : Int) = 48 + (m : Int) := by
  unfold bt
  rw [UInt8.toNat_ofNat_of_lt' (show 48 + m < UInt8.size by have : UInt8.size = 256 := rfl; omega)]; omega

/-- A whole number's digits as a text. -/
def dcT (n : Nat) : ByteArray := ⟨(Go.Lib.decDigits n).toArray⟩

theorem dcT_small {n : Nat} (h : n < 10) : dcT n = ⟨#[bt n]⟩ := by unfold dcT; rw [Go.Lib.decDigits_one h]; rfl

theorem dcT_big {n : Nat} (h : ¬ n < 10) : dcT n = dcT (n / 10) ++ ⟨#[bt (n % 10)]⟩ := by
  unfold dcT bt
  rw [Go.Lib.decDigits, dif_neg h]
  apply ByteArray.ext
  rw [ByteArray.data_append]
  simp

theorem u8_w {r : Nat} (h : r < 10) : IntKind.u8.wrap (48 + (r : Int)) = 48 + (r : Int) := by
  have hx : r = 0 ∨ r = 1 ∨ r = 2 ∨ r = 3 ∨ r = 4 ∨ r = 5 ∨ r = 6 ∨ r = 7 ∨ r = 8 ∨ r = 9 := by omega
  rcases hx with rfl | rfl | rfl | rfl | rfl | rfl | rfl | rfl | rfl | rfl <;> rfl

/-- One byte's slice as a text. -/
theorem conv_one {m : Nat} (h : m < 10) (w : World) (b : Nat) (hb : w.heap[b]? = some (.cells #[.int .u8 (48 + (m : Int))] 5 (0, 0))) :
    (convert 39 9 (.slice (some ⟨b, 0, none⟩) 1 1)).run Tryd.prog w = .ok (.string ⟨#[bt m]⟩) w := by
  have h2 := run_convert_bytes_back (P := Tryd.prog) w 39 9 5 ⟨b, 0, none⟩ 1 [bt m] Tryd.underlying39 Tryd.underlying5 Tryd.underlying9 (fun j hj => by
    have : j = 0 := by simp at hj; omega
    subst this
    simp only [List.getElem_cons_zero, bt_nat h]
    exact (cell_of_row _ _ 0 _ _ _ hb).trans rfl)
  exact h2

theorem dcT_le (n : Nat) (h : n < 9223372036854775808) : (dcT n).size ≤ 21 := by
  have h2 := Go.Lib.itoa_length_le (n : Int) (by omega) (by omega)
  rw [Go.Lib.itoa_nonneg] at h2
  exact h2

set_option maxRecDepth 100000 in
theorem sDecimal_1 (n : Nat) (h : n < 10) (w : World) :
    Calls Tryd.prog 83 #[.int .i64 (n : Int)] w fun e w' => e = .returned (.string (dcT n)) ∧ Below w.heap.size w w' := by
  rw [dcT_small h]
  have hcv := conv_one h (w.alloc (.cells #[.int .u8 (48 + (n : Int))] 5)) w.heap.size (heap_alloc_new _ _)
  have k0 := hid ((Below.refl w.heap.size w).alloc (Nat.le_refl _) (.cells #[.int .u8 (48 + (n : Int))] 5))
  go_enter Tryd.func83, Tryd.ntmps83
  go_wp2
  go_ret
  exact ⟨rfl, k0.out⟩

set_option maxRecDepth 100000 in
theorem sDecimal_2 (n : Nat) (h : ¬ n < 10) (hn : n < 9223372036854775808) (w : World)
    (IH : Hid (∀ w, Calls Tryd.prog 83 #[.int .i64 ((n / 10 : Nat) : Int)] w fun e w' => e = .returned (.string (dcT (n / 10))) ∧ Below w.heap.size w w')) :
    Calls Tryd.prog 83 #[.int .i64 (n : Int)] w fun e w' => e = .returned (.string (dcT n)) ∧ Below w.heap.size w w' := by
  rw [dcT_big h]
  have hm : n % 10 < 10 := Nat.mod_lt _ (by decide)
  generalize hq : n / 10 = q at IH ⊢
  generalize hr : n % 10 = r at hm ⊢
  go_enter Tryd.func83, Tryd.ntmps83
  go_wp2_with fail
  have kd := hid ((Kept.nil w).drew)
  have HR := hid hm
  have hq1 : (n : Int).tdiv 10 = (q : Int) := by rw [← hq]; rfl
  have hr1 : (n : Int).tmod 10 = (r : Int) := by rw [← hr]; rfl
  have hw1 : IntKind.i64.wrap (q : Int) = (q : Int) := by rw [IntKind.wrap_i64]; omega
  have hw2 : IntKind.i64.wrap (48 + (r : Int)) = 48 + (r : Int) := by rw [IntKind.wrap_i64]; omega
  have hw3 : IntKind.u8.wrap (48 + (r : Int)) = 48 + (r : Int) := u8_w hm
  refine region_free (listed := #[false, false, false, false, false, false, false, false, false, false, false]) 11 (by kernel_rfl) rfl rfl ?_
  generalize w.drew = w2 at kd ⊢
  refine takeP_val (by intro c a d v w h; cases d <;> exact h) 0 (.int .i64 (n : Int)) rfl (by rfl) (by kernel_rfl) (by kernel_rfl) (by kernel_rfl) (fun w => by rfl) trivial ?_
  simp only [Act.put, List.setIfInBounds_toArray, List.set_cons_zero, List.set_cons_succ]
  refine takeP_val (by intro c a d v w h; cases d <;> exact h) 1 (.int .i64 (q : Int)) rfl (by rfl) (by kernel_rfl) (by kernel_rfl) (by kernel_rfl) (fun w => by unfold execOp; go_simp) trivial ?_
  simp only [Act.put, List.setIfInBounds_toArray, List.set_cons_zero, List.set_cons_succ]
  refine takeP_val (by intro c a d v w h; cases d <;> exact h) 3 (.int .i64 (n : Int)) rfl (by rfl) (by kernel_rfl) (by kernel_rfl) (by kernel_rfl) (fun w => by rfl) trivial ?_
  simp only [Act.put, List.setIfInBounds_toArray, List.set_cons_zero, List.set_cons_succ]
  refine takeP_val (by intro c a d v w h; cases d <;> exact h) 4 (.int .i64 (r : Int)) rfl (by rfl) (by kernel_rfl) (by kernel_rfl) (by kernel_rfl) (fun w => by unfold execOp; go_simp) trivial ?_
  simp only [Act.put, List.setIfInBounds_toArray, List.set_cons_zero, List.set_cons_succ]
  refine takeP_val (by intro c a d v w h; cases d <;> exact h) 5 (.int .i64 (48 + (r : Int))) rfl (by rfl) (by kernel_rfl) (by kernel_rfl) (by kernel_rfl) (fun w => by unfold execOp; go_simp) trivial ?_
  simp only [Act.put, List.setIfInBounds_toArray, List.set_cons_zero, List.set_cons_succ]
  refine takeP_val (by intro c a d v w h; cases d <;> exact h) 6 (.int .u8 (48 + (r : Int))) rfl (by rfl) (by kernel_rfl) (by kernel_rfl) (by kernel_rfl) (fun w => by unfold execOp; go_simp) trivial ?_
  simp only [Act.put, List.setIfInBounds_toArray, List.set_cons_zero, List.set_cons_succ]
  clear hq1 hr1 hw1 hw2 hw3
  refine wpAnyH_ready (rs := [2, 7]) (by kernel_rfl) (by simp) ?_
  refine callK 2 _ _ (.string (dcT q)) kd.out rfl (by rfl) 83 #[.int .i64 (q : Int)] (fun w => by unfold execOp; go_simp) rfl rfl (IH.out _) (fun w3 k3 => ⟨trivial, ?_⟩) ?_
  · refine wpAnyH_ready (rs := [7]) (by kernel_rfl) (by simp) ?_
    refine valQ 7 _ (.slice (some ⟨w3.heap.size, 0, none⟩) 1 1) (w3.alloc (.cells #[.int .u8 (48 + (r : Int))] 5)) rfl (by rfl) (by unfold execOp; go_simp) rfl ⟨trivial, ?_⟩ AllReadyH.nil
    have k4 := hid (k3.push #[.int .u8 (48 + (r : Int))] 5)
    simp only [Act.put, List.setIfInBounds_toArray, List.set_cons_zero, List.set_cons_succ]
    generalize hb : w3.heap.size = b
    rw [hb] at k4
    generalize w3.alloc (.cells #[.int .u8 (48 + (r : Int))] 5) = w4 at k4 ⊢
    refine wpAnyH_ready (rs := [8]) (by kernel_rfl) (by simp) ?_
    refine valQ 8 _ (.string ⟨#[bt r]⟩) w4 rfl (by rfl) (by have hcv := conv_one HR.out w4 b (k4.out.at (x := (b, #[.int .u8 (48 + (r : Int))], 5)) in0); unfold execOp; go_simp) rfl ⟨trivial, ?_⟩ AllReadyH.nil
    simp only [Act.put, List.setIfInBounds_toArray, List.set_cons_zero, List.set_cons_succ]
    refine takeP_val (by intro c a d v w h; cases d <;> exact h) 9 (.string (dcT q ++ ⟨#[bt r]⟩)) rfl (by rfl) (by kernel_rfl) (by kernel_rfl) (by kernel_rfl) (fun w => by have hz := dcT_le q (by omega); unfold execOp; go_simp; first | done | omega) trivial ?_
    simp only [Act.put, List.setIfInBounds_toArray, List.set_cons_zero, List.set_cons_succ]
    refine takeP_val (by intro c a d v w h; cases d <;> exact h) 10 (.string (dcT q ++ ⟨#[bt r]⟩)) rfl (by rfl) (by kernel_rfl) (by kernel_rfl) (by kernel_rfl) (fun w => by unfold execOp; go_simp) trivial ?_
    simp only [Act.put, List.setIfInBounds_toArray, List.set_cons_zero, List.set_cons_succ]
    refine wpAnyH_done (by kernel_rfl) ?_ _
    go_wp2_with fail
    go_ret
    exact ⟨rfl, k4.out.1⟩
  · refine valQ 7 _ (.slice (some ⟨w2.heap.size, 0, none⟩) 1 1) (w2.alloc (.cells #[.int .u8 (48 + (r : Int))] 5)) rfl (by rfl) (by unfold execOp; go_simp) rfl ⟨trivial, ?_⟩ AllReadyH.nil
    have k3 := hid (kd.out.push #[.int .u8 (48 + (r : Int))] 5)
    simp only [Act.put, List.setIfInBounds_toArray, List.set_cons_zero, List.set_cons_succ]
    generalize hb : w2.heap.size = b
    rw [hb] at k3
    generalize w2.alloc (.cells #[.int .u8 (48 + (r : Int))] 5) = w4 at k3 ⊢
    refine wpAnyH_ready (rs := [2, 8]) (by kernel_rfl) (by simp) ?_
    refine callK 2 _ _ (.string (dcT q)) k3.out rfl (by rfl) 83 #[.int .i64 (q : Int)] (fun w => by unfold execOp; go_simp) rfl rfl (IH.out _) (fun w5 k5 => ⟨trivial, ?_⟩) ?_
    · refine wpAnyH_ready (rs := [8]) (by kernel_rfl) (by simp) ?_
      refine valQ 8 _ (.string ⟨#[bt r]⟩) w5 rfl (by rfl) (by have hcv := conv_one HR.out w5 b (k5.at (x := (b, #[.int .u8 (48 + (r : Int))], 5)) in0); unfold execOp; go_simp) rfl ⟨trivial, ?_⟩ AllReadyH.nil
      simp only [Act.put, List.setIfInBounds_toArray, List.set_cons_zero, List.set_cons_succ]
      refine takeP_val (by intro c a d v w h; cases d <;> exact h) 9 (.string (dcT q ++ ⟨#[bt r]⟩)) rfl (by rfl) (by kernel_rfl) (by kernel_rfl) (by kernel_rfl) (fun w => by have hz := dcT_le q (by omega); unfold execOp; go_simp; first | done | omega) trivial ?_
      simp only [Act.put, List.setIfInBounds_toArray, List.set_cons_zero, List.set_cons_succ]
      refine takeP_val (by intro c a d v w h; cases d <;> exact h) 10 (.string (dcT q ++ ⟨#[bt r]⟩)) rfl (by rfl) (by kernel_rfl) (by kernel_rfl) (by kernel_rfl) (fun w => by unfold execOp; go_simp) trivial ?_
      simp only [Act.put, List.setIfInBounds_toArray, List.set_cons_zero, List.set_cons_succ]
      refine wpAnyH_done (by kernel_rfl) ?_ _
      go_wp2_with fail
      go_ret
      exact ⟨rfl, (hid k5).out.1⟩
    · refine valQ 8 _ (.string ⟨#[bt r]⟩) w4 rfl (by rfl) (by have hcv := conv_one HR.out w4 b (k3.out.at (x := (b, #[.int .u8 (48 + (r : Int))], 5)) in0); unfold execOp; go_simp) rfl ⟨trivial, ?_⟩ AllReadyH.nil
      refine wpAnyH_ready (rs := [2]) (by kernel_rfl) (by simp) ?_
      refine callK 2 _ _ (.string (dcT q)) k3.out rfl (by rfl) 83 #[.int .i64 (q : Int)] (fun w => by unfold execOp; go_simp) rfl rfl (IH.out _) (fun w6 k6 => ⟨trivial, ?_⟩) AllReadyH.nil
      simp only [Act.put, List.setIfInBounds_toArray, List.set_cons_zero, List.set_cons_succ]
      refine takeP_val (by intro c a d v w h; cases d <;> exact h) 9 (.string (dcT q ++ ⟨#[bt r]⟩)) rfl (by rfl) (by kernel_rfl) (by kernel_rfl) (by kernel_rfl) (fun w => by have hz := dcT_le q (by omega); unfold execOp; go_simp; first | done | omega) trivial ?_
      simp only [Act.put, List.setIfInBounds_toArray, List.set_cons_zero, List.set_cons_succ]
      refine takeP_val (by intro c a d v w h; cases d <;> exact h) 10 (.string (dcT q ++ ⟨#[bt r]⟩)) rfl (by rfl) (by kernel_rfl) (by kernel_rfl) (by kernel_rfl) (fun w => by unfold execOp; go_simp) trivial ?_
      simp only [Act.put, List.setIfInBounds_toArray, List.set_cons_zero, List.set_cons_succ]
      refine wpAnyH_done (by kernel_rfl) ?_ _
      go_wp2_with fail
      go_ret
      exact ⟨rfl, (hid k6).out.1⟩

theorem sDecimal (n : Nat) (hn : n < 9223372036854775808) : ∀ w : World, Calls Tryd.prog 83 #[.int .i64 (n : Int)] w fun e w' => e = .returned (.string (dcT n)) ∧ Below w.heap.size w w' := by
  induction n using Nat.strongRecOn with
  | _ n ih =>
    intro w
    by_cases h : n < 10
    · exact sDecimal_1 n h w
    · exact sDecimal_2 n h hn w (hid (fun w => ih (n / 10) (by omega) (by omega) w))

def shl173_ren : Go.Shelf.Ren := ⟨fun | 129 => 173 | 173 => 77 | 246 => 127 | 283 => 151 | 284 => 152 | 285 => 153 | 286 => 154 | 317 => 172 | 318 => 174 | 319 => 175 | 320 => 176 | 337 => 188 | 338 => 189 | n => n, fun | 0 => 0 | 2 => 2 | 3 => 3 | 4 => 4 | 5 => 5 | 9 => 9 | 20 => 20 | 37 => 39 | 46 => 171 | 51 => 110 | 53 => 104 | 171 => 198 | 173 => 201 | 212 => 221 | 213 => 222 | 232 => 238 | 233 => 239 | n => n, fun | 17 => 3 | 18 => 7 | 19 => 8 | n => n⟩

theorem shl173 : Go.Proofs.LaysM.n173 Tryd.prog shl173_ren := {
  mixed := by kernel_rfl
  f129 := Tryd.func173.trans (congrArg some (by kernel_rfl))
  f173 := Tryd.func77.trans (congrArg some (by kernel_rfl))
  f246 := Tryd.func127.trans (congrArg some (by kernel_rfl))
  f283 := Tryd.func151.trans (congrArg some (by kernel_rfl))
  f284 := Tryd.func152.trans (congrArg some (by kernel_rfl))
  f285 := Tryd.func153.trans (congrArg some (by kernel_rfl))
  f286 := Tryd.func154.trans (congrArg some (by kernel_rfl))
  f317 := Tryd.func172.trans (congrArg some (by kernel_rfl))
  f318 := Tryd.func174.trans (congrArg some (by kernel_rfl))
  f319 := Tryd.func175.trans (congrArg some (by kernel_rfl))
  f320 := Tryd.func176.trans (congrArg some (by kernel_rfl))
  f337 := Tryd.func188.trans (congrArg some (by kernel_rfl))
  f338 := Tryd.func189.trans (congrArg some (by kernel_rfl))
  t0 := Tryd.underlying0
  a0 := Tryd.isAgg0
  z0 := Tryd.sizeOf0
  v0 := Tryd.zeroValue0
  t2 := Tryd.underlying2
  a2 := Tryd.isAgg2
  z2 := Tryd.sizeOf2
  v2 := Tryd.zeroValue2
  t3 := Tryd.underlying3
  a3 := Tryd.isAgg3
  z3 := Tryd.sizeOf3
  v3 := Tryd.zeroValue3
  t4 := Tryd.underlying4
  a4 := Tryd.isAgg4
  z4 := Tryd.sizeOf4
  v4 := Tryd.zeroValue4
  t5 := Tryd.underlying5
  a5 := Tryd.isAgg5
  z5 := Tryd.sizeOf5
  v5 := Tryd.zeroValue5
  t9 := Tryd.underlying9
  a9 := Tryd.isAgg9
  z9 := Tryd.sizeOf9
  v9 := Tryd.zeroValue9
  t20 := Tryd.underlying20
  a20 := Tryd.isAgg20
  z20 := Tryd.sizeOf20
  v20 := Tryd.zeroValue20
  t37 := Tryd.underlying39
  a37 := Tryd.isAgg39
  z37 := Tryd.sizeOf39
  v37 := Tryd.zeroValue39
  t46 := Tryd.underlying171
  a46 := Tryd.isAgg171
  z46 := Tryd.sizeOf171
  v46 := Tryd.zeroValue171
  t51 := Tryd.underlying110
  a51 := Tryd.isAgg110
  z51 := Tryd.sizeOf110
  v51 := Tryd.zeroValue110
  t53 := Tryd.underlying104
  a53 := Tryd.isAgg104
  z53 := Tryd.sizeOf104
  v53 := Tryd.zeroValue104
  t171 := Tryd.underlying198
  a171 := Tryd.isAgg198
  z171 := Tryd.sizeOf198
  v171 := Tryd.zeroValue198
  t173 := Tryd.underlying201
  a173 := Tryd.isAgg201
  z173 := Tryd.sizeOf201
  v173 := Tryd.zeroValue201
  t212 := Tryd.underlying221
  a212 := Tryd.isAgg221
  z212 := Tryd.sizeOf221
  v212 := Tryd.zeroValue221
  t213 := Tryd.underlying222
  a213 := Tryd.isAgg222
  z213 := Tryd.sizeOf222
  t232 := Tryd.underlying238
  a232 := Tryd.isAgg238
  z232 := Tryd.sizeOf238
  v232 := Tryd.zeroValue238
  t233 := Tryd.underlying239
  a233 := Tryd.isAgg239
  z233 := Tryd.sizeOf239
  v233 := Tryd.zeroValue239
  g17 := by kernel_rfl
  g18 := by kernel_rfl
  g19 := by kernel_rfl
  i0 := by kernel_rfl
  i2 := by kernel_rfl
  i3 := by kernel_rfl
  i4 := by kernel_rfl
  i5 := by kernel_rfl
  i9 := by kernel_rfl
  i20 := by kernel_rfl
  i37 := by kernel_rfl
  i46 := by kernel_rfl
  i51 := by kernel_rfl
  i53 := by kernel_rfl
  i171 := by kernel_rfl
  i173 := by kernel_rfl
  i212 := by kernel_rfl
  i232 := by kernel_rfl
  i233 := by kernel_rfl
  m17 := by kernel_rfl
  m18 := by kernel_rfl
  m19 := by kernel_rfl }

/-- The library's table of tens is as it was. -/
def TabT (W : World) : Prop := Go.Lib.TabIs Tryd.prog W "internal/strconv.uint64pow10" .u64 Go.Lib.pow10Tab

theorem TabT.on {w w' : World} (h : TabT w) (hb : Below w.heap.size w w') : TabT w' := Go.Lib.tabBelow_of_tabIs h w' hb

theorem shFormat (n : Nat) (hn : n < 9223372036854775808) (w : World) (ht : TabT w) :
    Calls Tryd.prog 77 #[.int .i64 (n : Int), .int .i64 10] w fun e w' => e = .returned (.string (dcT n)) ∧ Below w.heap.size w w' :=
  (Any.strconv_FormatInt_10 shl173 (n : Int) (by omega) (by omega) w ht).mono (by
    rintro e w' ⟨rfl, k, os, rfl⟩
    exact ⟨by rw [Go.Lib.itoa_nonneg]; rfl, Go.Lib.below_grow _ _ (Nat.le_refl _) k os⟩)

set_option maxRecDepth 100000 in
theorem iFormD_1 (w : World) : Calls Tryd.prog 85 #[.int .i64 1] w fun e w' => e = .returned (.agg #[.string { data := #[103, 105, 118, 101] }, .int .i64 2]) ∧ Below w.heap.size w w' := by
  have B := hid ((Below.refl w.heap.size w).alloc (Nat.le_refl _) (.cells #[.string { data := #[103, 105, 118, 101] }, .int .i64 2] 135))
  have k0 := hid ((Kept.nil w).push #[.string { data := #[103, 105, 118, 101] }, .int .i64 2] 135)
  have hix : ∀ w, (Instr.index 183 (.agg #[.string { data := #[] }, .int .i64 0, .string { data := #[103, 105, 118, 101] }, .int .i64 2, .string { data := #[119, 111, 114, 107] }, .int .i64 1, .string { data := #[104, 97, 110, 100] }, .int .i64 2, .string { data := #[100, 101, 108, 105, 118, 101, 114] }, .int .i64 1, .string { data := #[99, 111, 112, 121] }, .int .i64 1, .string { data := #[100, 114, 111, 112] }, .int .i64 1, .string { data := #[115, 97, 118, 101] }, .int .i64 0, .string { data := #[99, 114, 97, 115, 104] }, .int .i64 0]) (.int .i64 1)).run Tryd.prog w = .ok (.agg #[.string { data := #[103, 105, 118, 101] }, .int .i64 2]) w := fun w => by kernel_rfl
  go_enter Tryd.func85, Tryd.ntmps85
  go_wp2
  exact bodyPost_ret (results_cell_row rfl _ _ w.heap.size 135 #[.string { data := #[103, 105, 118, 101] }, .int .i64 2] (0, 0) _ rfl (k0.out.at (x := (w.heap.size, #[.string { data := #[103, 105, 118, 101] }, .int .i64 2], 135)) (by simp)) Tryd.underlying135 rfl (by kernel_rfl)) rfl ⟨rfl, B.out⟩

set_option maxRecDepth 100000 in
theorem iFormD_2 (w : World) : Calls Tryd.prog 85 #[.int .i64 2] w fun e w' => e = .returned (.agg #[.string { data := #[119, 111, 114, 107] }, .int .i64 1]) ∧ Below w.heap.size w w' := by
  have B := hid ((Below.refl w.heap.size w).alloc (Nat.le_refl _) (.cells #[.string { data := #[119, 111, 114, 107] }, .int .i64 1] 135))
  have k0 := hid ((Kept.nil w).push #[.string { data := #[119, 111, 114, 107] }, .int .i64 1] 135)
  have hix : ∀ w, (Instr.index 183 (.agg #[.string { data := #[] }, .int .i64 0, .string { data := #[103, 105, 118, 101] }, .int .i64 2, .string { data := #[119, 111, 114, 107] }, .int .i64 1, .string { data := #[104, 97, 110, 100] }, .int .i64 2, .string { data := #[100, 101, 108, 105, 118, 101, 114] }, .int .i64 1, .string { data := #[99, 111, 112, 121] }, .int .i64 1, .string { data := #[100, 114, 111, 112] }, .int .i64 1, .string { data := #[115, 97, 118, 101] }, .int .i64 0, .string { data := #[99, 114, 97, 115, 104] }, .int .i64 0]) (.int .i64 2)).run Tryd.prog w = .ok (.agg #[.string { data := #[119, 111, 114, 107] }, .int .i64 1]) w := fun w => by kernel_rfl
  go_enter Tryd.func85, Tryd.ntmps85
  go_wp2
  exact bodyPost_ret (results_cell_row rfl _ _ w.heap.size 135 #[.string { data := #[119, 111, 114, 107] }, .int .i64 1] (0, 0) _ rfl (k0.out.at (x := (w.heap.size, #[.string { data := #[119, 111, 114, 107] }, .int .i64 1], 135)) (by simp)) Tryd.underlying135 rfl (by kernel_rfl)) rfl ⟨rfl, B.out⟩

set_option maxRecDepth 100000 in
theorem iFormD_3 (w : World) : Calls Tryd.prog 85 #[.int .i64 3] w fun e w' => e = .returned (.agg #[.string { data := #[104, 97, 110, 100] }, .int .i64 2]) ∧ Below w.heap.size w w' := by
  have B := hid ((Below.refl w.heap.size w).alloc (Nat.le_refl _) (.cells #[.string { data := #[104, 97, 110, 100] }, .int .i64 2] 135))
  have k0 := hid ((Kept.nil w).push #[.string { data := #[104, 97, 110, 100] }, .int .i64 2] 135)
  have hix : ∀ w, (Instr.index 183 (.agg #[.string { data := #[] }, .int .i64 0, .string { data := #[103, 105, 118, 101] }, .int .i64 2, .string { data := #[119, 111, 114, 107] }, .int .i64 1, .string { data := #[104, 97, 110, 100] }, .int .i64 2, .string { data := #[100, 101, 108, 105, 118, 101, 114] }, .int .i64 1, .string { data := #[99, 111, 112, 121] }, .int .i64 1, .string { data := #[100, 114, 111, 112] }, .int .i64 1, .string { data := #[115, 97, 118, 101] }, .int .i64 0, .string { data := #[99, 114, 97, 115, 104] }, .int .i64 0]) (.int .i64 3)).run Tryd.prog w = .ok (.agg #[.string { data := #[104, 97, 110, 100] }, .int .i64 2]) w := fun w => by kernel_rfl
  go_enter Tryd.func85, Tryd.ntmps85
  go_wp2
  exact bodyPost_ret (results_cell_row rfl _ _ w.heap.size 135 #[.string { data := #[104, 97, 110, 100] }, .int .i64 2] (0, 0) _ rfl (k0.out.at (x := (w.heap.size, #[.string { data := #[104, 97, 110, 100] }, .int .i64 2], 135)) (by simp)) Tryd.underlying135 rfl (by kernel_rfl)) rfl ⟨rfl, B.out⟩

set_option maxRecDepth 100000 in
theorem iFormD_4 (w : World) : Calls Tryd.prog 85 #[.int .i64 4] w fun e w' => e = .returned (.agg #[.string { data := #[100, 101, 108, 105, 118, 101, 114] }, .int .i64 1]) ∧ Below w.heap.size w w' := by
  have B := hid ((Below.refl w.heap.size w).alloc (Nat.le_refl _) (.cells #[.string { data := #[100, 101, 108, 105, 118, 101, 114] }, .int .i64 1] 135))
  have k0 := hid ((Kept.nil w).push #[.string { data := #[100, 101, 108, 105, 118, 101, 114] }, .int .i64 1] 135)
  have hix : ∀ w, (Instr.index 183 (.agg #[.string { data := #[] }, .int .i64 0, .string { data := #[103, 105, 118, 101] }, .int .i64 2, .string { data := #[119, 111, 114, 107] }, .int .i64 1, .string { data := #[104, 97, 110, 100] }, .int .i64 2, .string { data := #[100, 101, 108, 105, 118, 101, 114] }, .int .i64 1, .string { data := #[99, 111, 112, 121] }, .int .i64 1, .string { data := #[100, 114, 111, 112] }, .int .i64 1, .string { data := #[115, 97, 118, 101] }, .int .i64 0, .string { data := #[99, 114, 97, 115, 104] }, .int .i64 0]) (.int .i64 4)).run Tryd.prog w = .ok (.agg #[.string { data := #[100, 101, 108, 105, 118, 101, 114] }, .int .i64 1]) w := fun w => by kernel_rfl
  go_enter Tryd.func85, Tryd.ntmps85
  go_wp2
  exact bodyPost_ret (results_cell_row rfl _ _ w.heap.size 135 #[.string { data := #[100, 101, 108, 105, 118, 101, 114] }, .int .i64 1] (0, 0) _ rfl (k0.out.at (x := (w.heap.size, #[.string { data := #[100, 101, 108, 105, 118, 101, 114] }, .int .i64 1], 135)) (by simp)) Tryd.underlying135 rfl (by kernel_rfl)) rfl ⟨rfl, B.out⟩

set_option maxRecDepth 100000 in
theorem iFormD_5 (w : World) : Calls Tryd.prog 85 #[.int .i64 5] w fun e w' => e = .returned (.agg #[.string { data := #[99, 111, 112, 121] }, .int .i64 1]) ∧ Below w.heap.size w w' := by
  have B := hid ((Below.refl w.heap.size w).alloc (Nat.le_refl _) (.cells #[.string { data := #[99, 111, 112, 121] }, .int .i64 1] 135))
  have k0 := hid ((Kept.nil w).push #[.string { data := #[99, 111, 112, 121] }, .int .i64 1] 135)
  have hix : ∀ w, (Instr.index 183 (.agg #[.string { data := #[] }, .int .i64 0, .string { data := #[103, 105, 118, 101] }, .int .i64 2, .string { data := #[119, 111, 114, 107] }, .int .i64 1, .string { data := #[104, 97, 110, 100] }, .int .i64 2, .string { data := #[100, 101, 108, 105, 118, 101, 114] }, .int .i64 1, .string { data := #[99, 111, 112, 121] }, .int .i64 1, .string { data := #[100, 114, 111, 112] }, .int .i64 1, .string { data := #[115, 97, 118, 101] }, .int .i64 0, .string { data := #[99, 114, 97, 115, 104] }, .int .i64 0]) (.int .i64 5)).run Tryd.prog w = .ok (.agg #[.string { data := #[99, 111, 112, 121] }, .int .i64 1]) w := fun w => by kernel_rfl
  go_enter Tryd.func85, Tryd.ntmps85
  go_wp2
  exact bodyPost_ret (results_cell_row rfl _ _ w.heap.size 135 #[.string { data := #[99, 111, 112, 121] }, .int .i64 1] (0, 0) _ rfl (k0.out.at (x := (w.heap.size, #[.string { data := #[99, 111, 112, 121] }, .int .i64 1], 135)) (by simp)) Tryd.underlying135 rfl (by kernel_rfl)) rfl ⟨rfl, B.out⟩

set_option maxRecDepth 100000 in
theorem iFormD_6 (w : World) : Calls Tryd.prog 85 #[.int .i64 6] w fun e w' => e = .returned (.agg #[.string { data := #[100, 114, 111, 112] }, .int .i64 1]) ∧ Below w.heap.size w w' := by
  have B := hid ((Below.refl w.heap.size w).alloc (Nat.le_refl _) (.cells #[.string { data := #[100, 114, 111, 112] }, .int .i64 1] 135))
  have k0 := hid ((Kept.nil w).push #[.string { data := #[100, 114, 111, 112] }, .int .i64 1] 135)
  have hix : ∀ w, (Instr.index 183 (.agg #[.string { data := #[] }, .int .i64 0, .string { data := #[103, 105, 118, 101] }, .int .i64 2, .string { data := #[119, 111, 114, 107] }, .int .i64 1, .string { data := #[104, 97, 110, 100] }, .int .i64 2, .string { data := #[100, 101, 108, 105, 118, 101, 114] }, .int .i64 1, .string { data := #[99, 111, 112, 121] }, .int .i64 1, .string { data := #[100, 114, 111, 112] }, .int .i64 1, .string { data := #[115, 97, 118, 101] }, .int .i64 0, .string { data := #[99, 114, 97, 115, 104] }, .int .i64 0]) (.int .i64 6)).run Tryd.prog w = .ok (.agg #[.string { data := #[100, 114, 111, 112] }, .int .i64 1]) w := fun w => by kernel_rfl
  go_enter Tryd.func85, Tryd.ntmps85
  go_wp2
  exact bodyPost_ret (results_cell_row rfl _ _ w.heap.size 135 #[.string { data := #[100, 114, 111, 112] }, .int .i64 1] (0, 0) _ rfl (k0.out.at (x := (w.heap.size, #[.string { data := #[100, 114, 111, 112] }, .int .i64 1], 135)) (by simp)) Tryd.underlying135 rfl (by kernel_rfl)) rfl ⟨rfl, B.out⟩

set_option maxRecDepth 100000 in
theorem iFormD_7 (w : World) : Calls Tryd.prog 85 #[.int .i64 7] w fun e w' => e = .returned (.agg #[.string { data := #[115, 97, 118, 101] }, .int .i64 0]) ∧ Below w.heap.size w w' := by
  have B := hid ((Below.refl w.heap.size w).alloc (Nat.le_refl _) (.cells #[.string { data := #[115, 97, 118, 101] }, .int .i64 0] 135))
  have k0 := hid ((Kept.nil w).push #[.string { data := #[115, 97, 118, 101] }, .int .i64 0] 135)
  have hix : ∀ w, (Instr.index 183 (.agg #[.string { data := #[] }, .int .i64 0, .string { data := #[103, 105, 118, 101] }, .int .i64 2, .string { data := #[119, 111, 114, 107] }, .int .i64 1, .string { data := #[104, 97, 110, 100] }, .int .i64 2, .string { data := #[100, 101, 108, 105, 118, 101, 114] }, .int .i64 1, .string { data := #[99, 111, 112, 121] }, .int .i64 1, .string { data := #[100, 114, 111, 112] }, .int .i64 1, .string { data := #[115, 97, 118, 101] }, .int .i64 0, .string { data := #[99, 114, 97, 115, 104] }, .int .i64 0]) (.int .i64 7)).run Tryd.prog w = .ok (.agg #[.string { data := #[115, 97, 118, 101] }, .int .i64 0]) w := fun w => by kernel_rfl
  go_enter Tryd.func85, Tryd.ntmps85
  go_wp2
  exact bodyPost_ret (results_cell_row rfl _ _ w.heap.size 135 #[.string { data := #[115, 97, 118, 101] }, .int .i64 0] (0, 0) _ rfl (k0.out.at (x := (w.heap.size, #[.string { data := #[115, 97, 118, 101] }, .int .i64 0], 135)) (by simp)) Tryd.underlying135 rfl (by kernel_rfl)) rfl ⟨rfl, B.out⟩

set_option maxRecDepth 100000 in
theorem iFormD_8 (w : World) : Calls Tryd.prog 85 #[.int .i64 8] w fun e w' => e = .returned (.agg #[.string { data := #[99, 114, 97, 115, 104] }, .int .i64 0]) ∧ Below w.heap.size w w' := by
  have B := hid ((Below.refl w.heap.size w).alloc (Nat.le_refl _) (.cells #[.string { data := #[99, 114, 97, 115, 104] }, .int .i64 0] 135))
  have k0 := hid ((Kept.nil w).push #[.string { data := #[99, 114, 97, 115, 104] }, .int .i64 0] 135)
  have hix : ∀ w, (Instr.index 183 (.agg #[.string { data := #[] }, .int .i64 0, .string { data := #[103, 105, 118, 101] }, .int .i64 2, .string { data := #[119, 111, 114, 107] }, .int .i64 1, .string { data := #[104, 97, 110, 100] }, .int .i64 2, .string { data := #[100, 101, 108, 105, 118, 101, 114] }, .int .i64 1, .string { data := #[99, 111, 112, 121] }, .int .i64 1, .string { data := #[100, 114, 111, 112] }, .int .i64 1, .string { data := #[115, 97, 118, 101] }, .int .i64 0, .string { data := #[99, 114, 97, 115, 104] }, .int .i64 0]) (.int .i64 8)).run Tryd.prog w = .ok (.agg #[.string { data := #[99, 114, 97, 115, 104] }, .int .i64 0]) w := fun w => by kernel_rfl
  go_enter Tryd.func85, Tryd.ntmps85
  go_wp2
  exact bodyPost_ret (results_cell_row rfl _ _ w.heap.size 135 #[.string { data := #[99, 114, 97, 115, 104] }, .int .i64 0] (0, 0) _ rfl (k0.out.at (x := (w.heap.size, #[.string { data := #[99, 114, 97, 115, 104] }, .int .i64 0], 135)) (by simp)) Tryd.underlying135 rfl (by kernel_rfl)) rfl ⟨rfl, B.out⟩

def nkD (k : Int) : Int := if k = 1 ∨ k = 3 then 2 else if k = 7 ∨ k = 8 then 0 else 1

def dOk (k a b : Int) : Prop := 1 ≤ k ∧ k ≤ 8 ∧ 0 ≤ a ∧ a ≤ 999 ∧ 0 ≤ b ∧ b ≤ 999 ∧ (0 < nkD k ∨ a = 0) ∧ (1 < nkD k ∨ b = 0)

theorem iFormD (k : Int) (h1 : 1 ≤ k) (h8 : k ≤ 8) : ∃ s, ∀ w, Calls Tryd.prog 85 #[.int .i64 k] w fun e w' => e = .returned (.agg #[.string s, .int .i64 (nkD k)]) ∧ Below w.heap.size w w' := by
  have hx : k = 1 ∨ k = 2 ∨ k = 3 ∨ k = 4 ∨ k = 5 ∨ k = 6 ∨ k = 7 ∨ k = 8 := by omega
  rcases hx with rfl | rfl | rfl | rfl | rfl | rfl | rfl | rfl
  · exact ⟨_, fun w => iFormD_1 w⟩
  · exact ⟨_, fun w => iFormD_2 w⟩
  · exact ⟨_, fun w => iFormD_3 w⟩
  · exact ⟨_, fun w => iFormD_4 w⟩
  · exact ⟨_, fun w => iFormD_5 w⟩
  · exact ⟨_, fun w => iFormD_6 w⟩
  · exact ⟨_, fun w => iFormD_7 w⟩
  · exact ⟨_, fun w => iFormD_8 w⟩

set_option maxRecDepth 100000 in
theorem iDeed_r (k a b : Int) (h : k < 1 ∨ 8 < k) (w : World) :
    Calls Tryd.prog 84 #[.agg #[.int .i64 k, .int .i64 a, .int .i64 b]] w fun e w' => e = .returned (.bool false) ∧ Below w.heap.size w w' := by
  have k0 : Hid (Kept w [(w.heap.size, #[.int .i64 k, .int .i64 a, .int .i64 b], 68)] (w.alloc (.cells #[.int .i64 k, .int .i64 a, .int .i64 b] 68))) := hid (((Kept.nil w).push _ _).sub (by simp))
  by_cases h1 : k < 1
  · clear h
    go_enter Tryd.func84, Tryd.ntmps84
    go_wp2
    go_ret
    exact ⟨rfl, k0.out.1⟩
  · have h2 : 8 < k := by omega
    clear h
    go_enter Tryd.func84, Tryd.ntmps84
    go_wp2
    go_ret
    exact ⟨rfl, k0.out.1⟩

set_option maxRecDepth 100000 in
set_option maxHeartbeats 2000000 in
theorem iDeed_n (k a b n : Int) (s : ByteArray) (H1 : Hid (¬ k < 1)) (H2 : Hid (¬ 8 < k)) (HN : n = 0 ∨ n = 1 ∨ n = 2)
    (HF : Hid (∀ w, Calls Tryd.prog 85 #[.int .i64 k] w fun e w' => e = .returned (.agg #[.string s, .int .i64 n]) ∧ Below w.heap.size w w'))
    (q : Bool) (HQ : Hid (q = true ↔ 0 ≤ a ∧ a ≤ 999 ∧ 0 ≤ b ∧ b ≤ 999 ∧ (0 < n ∨ a = 0) ∧ (1 < n ∨ b = 0))) (w : World) :
    Calls Tryd.prog 84 #[.agg #[.int .i64 k, .int .i64 a, .int .i64 b]] w fun e w' => e = .returned (.bool q) ∧ Below w.heap.size w w' := by
  have k0 : Hid (Kept w [(w.heap.size, #[.int .i64 k, .int .i64 a, .int .i64 b], 68)] (w.alloc (.cells #[.int .i64 k, .int .i64 a, .int .i64 b] 68))) := hid (((Kept.nil w).push _ _).sub (by simp))
  have h1 := H1.out
  have h2 := H2.out
  go_enter Tryd.func84, Tryd.ntmps84
  go_wp2_with fail
  refine (HF.out _).mono ?_
  rintro e u1 ⟨rfl, hb1⟩
  have k1 := hid (k0.out.stay hb1)
  clear hb1 k0 h1 h2
  have kf := hid (k1.out.push #[.string s, .int .i64 n] 135)
  have c1 : (u1.alloc (.cells #[.string s, .int .i64 n] 135)).cell? ⟨w.heap.size, 1, none⟩ = some (.int .i64 a) := (cell_of_row _ _ 1 _ _ _ (kf.out.at (x := (w.heap.size, #[.int .i64 k, .int .i64 a, .int .i64 b], 68)) (by simp))).trans rfl
  have c2 : (u1.alloc (.cells #[.string s, .int .i64 n] 135)).cell? ⟨w.heap.size, 2, none⟩ = some (.int .i64 b) := (cell_of_row _ _ 2 _ _ _ (kf.out.at (x := (w.heap.size, #[.int .i64 k, .int .i64 a, .int .i64 b], 68)) (by simp))).trans rfl
  go_wp2_with fail
  go_loopw [22] (fun i wr => ∃ j : Nat, j ≤ 2 ∧ i = .int .i64 j ∧ Hid ((1 ≤ j → 0 ≤ a ∧ a ≤ 999 ∧ (0 < n ∨ a = 0)) ∧ (2 ≤ j → 0 ≤ b ∧ b ≤ 999 ∧ (1 < n ∨ b = 0))) ∧ Hid (Kept w [(u1.heap.size, #[.string s, .int .i64 n], 135)] wr)) (fun i _ => 2 - (intOf i).toNat)
  case atStart => exact ⟨0, by omega, rfl, hid ⟨by omega, by omega⟩, hid (kf.out.sub (by simp))⟩
  case round =>
    clear kf k1 c1 c2
    obtain ⟨j, hj, rfl, J, K⟩ := hrel
    have hx0 : ∀ w, (Instr.index 141 (.agg #[.int .i64 a, .int .i64 b]) (.int .i64 0)).run Tryd.prog w = .ok (.int .i64 a) w := fun w => by rfl
    have hx1 : ∀ w, (Instr.index 141 (.agg #[.int .i64 a, .int .i64 b]) (.int .i64 1)).run Tryd.prog w = .ok (.int .i64 b) w := fun w => by rfl
    have f1 : wr.cell? ⟨u1.heap.size, 1, none⟩ = some (.int .i64 n) := (cell_of_row wr _ 1 _ _ _ (K.out.at (x := (u1.heap.size, #[.string s, .int .i64 n], 135)) (by simp))).trans rfl
    have hx : j = 0 ∨ j = 1 ∨ j = 2 := by omega
    rcases hx with rfl | rfl | rfl

    · by_cases g1 : a < 0
      · obtain rfl : q = false := by
          rcases q with _ | _
          · rfl
          · have := HQ.out.1 rfl; omega
        go_wp2
        go_ret
        exact ⟨rfl, K.out.1⟩
      by_cases g2 : 999 < a
      · obtain rfl : q = false := by
          rcases q with _ | _
          · rfl
          · have := HQ.out.1 rfl; omega
        go_wp2
        go_ret
        exact ⟨rfl, K.out.1⟩
      by_cases g3 : n ≤ 0
      · by_cases g4 : a = 0
        · subst g4
          have G := hid g3
          go_wp2
          go_roundw
          case rel => exact ⟨1, by omega, by go_num, hid ⟨fun _ => ⟨by decide, by decide, .inr (by first | trivial | rfl)⟩, fun h => absurd h (by omega)⟩, K⟩
          case measure => simp [intOf]
        · obtain rfl : q = false := by
            rcases q with _ | _
            · rfl
            · have := HQ.out.1 rfl; omega
          go_wp2
          go_ret
          exact ⟨rfl, K.out.1⟩
      · have G := hid (show ¬ n ≤ 0 from g3)
        have G1 := hid g1
        have G2 := hid g2
        go_wp2
        go_roundw
        case rel => exact ⟨1, by omega, by go_num, hid ⟨fun _ => ⟨by have := G1.out; omega, by have := G2.out; omega, .inl (by have := G.out; omega)⟩, fun h => absurd h (by omega)⟩, K⟩
        case measure => simp [intOf]

    · by_cases g1 : b < 0
      · obtain rfl : q = false := by
          rcases q with _ | _
          · rfl
          · have := HQ.out.1 rfl; omega
        go_wp2
        go_ret
        exact ⟨rfl, K.out.1⟩
      by_cases g2 : 999 < b
      · obtain rfl : q = false := by
          rcases q with _ | _
          · rfl
          · have := HQ.out.1 rfl; omega
        go_wp2
        go_ret
        exact ⟨rfl, K.out.1⟩
      by_cases g3 : n ≤ 1
      · by_cases g4 : b = 0
        · subst g4
          have G := hid g3
          go_wp2
          go_roundw
          case rel => exact ⟨2, by omega, by go_num, hid ⟨fun _ => J.out.1 (by omega), fun _ => ⟨by decide, by decide, .inr (by first | trivial | rfl)⟩⟩, K⟩
          case measure => simp [intOf]
        · obtain rfl : q = false := by
            rcases q with _ | _
            · rfl
            · have := HQ.out.1 rfl; omega
          go_wp2
          go_ret
          exact ⟨rfl, K.out.1⟩
      · have G := hid (show ¬ n ≤ 1 from g3)
        have G1 := hid g1
        have G2 := hid g2
        go_wp2
        go_roundw
        case rel => exact ⟨2, by omega, by go_num, hid ⟨fun _ => J.out.1 (by omega), fun _ => ⟨by have := G1.out; omega, by have := G2.out; omega, .inl (by have := G.out; omega)⟩⟩, K⟩
        case measure => simp [intOf]

    · obtain rfl : q = true := HQ.out.2 (by have := J.out.1 (by omega); have := J.out.2 (by omega); omega)
      go_wp2
      go_ret
      exact ⟨rfl, K.out.1⟩

theorem iDeed (k a b : Int) (q : Bool) (hq : q = true ↔ dOk k a b) (w : World) :
    Calls Tryd.prog 84 #[.agg #[.int .i64 k, .int .i64 a, .int .i64 b]] w fun e w' => e = .returned (.bool q) ∧ Below w.heap.size w w' := by
  by_cases h : k < 1 ∨ 8 < k
  · obtain rfl : q = false := by
      rcases q with _ | _
      · rfl
      · have := hq.1 rfl; unfold dOk at this; omega
    exact iDeed_r k a b h w
  · obtain ⟨s, hf⟩ := iFormD k (by omega) (by omega)
    refine iDeed_n k a b (nkD k) s (hid (by omega)) (hid (by omega)) ?_ (hid hf) q (hid ?_) w
    · unfold nkD; repeat' split
      all_goals omega
    · rw [hq]; unfold dOk; omega

set_option maxRecDepth 100000 in
theorem sWordsD (w : World) : Calls Tryd.prog 82 #[] w fun e w' => e = .returned (.tuple #[.slice (some ⟨w.heap.size, 0, none⟩) 9 9, .slice (some ⟨w.heap.size + 1, 0, none⟩) 9 9]) ∧ w' = ((w.alloc (.cells #[.string { data := #[] }, .string { data := #[103, 105, 118, 101] }, .string { data := #[119, 111, 114, 107] }, .string { data := #[104, 97, 110, 100] }, .string { data := #[100, 101, 108, 105, 118, 101, 114] }, .string { data := #[99, 111, 112, 121] }, .string { data := #[100, 114, 111, 112] }, .string { data := #[115, 97, 118, 101] }, .string { data := #[99, 114, 97, 115, 104] }] 9)).alloc (.cells #[.int .i64 0, .int .i64 2, .int .i64 1, .int .i64 2, .int .i64 1, .int .i64 1, .int .i64 1, .int .i64 0, .int .i64 0] 3)) := by
  go_enter Tryd.func82, Tryd.ntmps82
  go_wp2
  exact bodyPost_ret (results_tmp2 rfl _ _ _) rfl ⟨rfl, rfl⟩

theorem sDeed_k (k a b : Int) (h : ¬ (1 ≤ k ∧ k ≤ 8)) (w : World) :
    Calls Tryd.prog 81 #[.agg #[.int .i64 k, .int .i64 a, .int .i64 b]] w fun e w' => e = .returned (.bool false) ∧ Below w.heap.size w w' := by
  have k0 : Hid (Kept w [(w.heap.size, #[.int .i64 k, .int .i64 a, .int .i64 b], 68)] (w.alloc (.cells #[.int .i64 k, .int .i64 a, .int .i64 b] 68))) := hid (((Kept.nil w).push _ _).sub (by simp))
  have H := hid h
  clear h
  go_enter Tryd.func81, Tryd.ntmps81
  go_wp2_with fail
  refine (l00In_f k 1 8 H.out _).mono ?_
  rintro e u0 ⟨rfl, rfl⟩
  go_wp2
  go_ret
  exact ⟨rfl, k0.out.1⟩

theorem sDeed_a (k a b : Int) (h : 1 ≤ k ∧ k ≤ 8) (ha : ¬ (0 ≤ a ∧ a ≤ 999)) (w : World) :
    Calls Tryd.prog 81 #[.agg #[.int .i64 k, .int .i64 a, .int .i64 b]] w fun e w' => e = .returned (.bool false) ∧ Below w.heap.size w w' := by
  have k0 : Hid (Kept w [(w.heap.size, #[.int .i64 k, .int .i64 a, .int .i64 b], 68)] (w.alloc (.cells #[.int .i64 k, .int .i64 a, .int .i64 b] 68))) := hid (((Kept.nil w).push _ _).sub (by simp))
  have H := hid h
  have HA := hid ha
  clear h ha
  go_enter Tryd.func81, Tryd.ntmps81
  go_wp2_with fail
  refine (l00In_t k 1 8 H.out.1 H.out.2 _).mono ?_
  rintro e u0 ⟨rfl, rfl⟩
  go_wp2_with fail
  refine (l00In_f a 0 999 HA.out _).mono ?_
  rintro e u0 ⟨rfl, rfl⟩
  go_wp2
  go_ret
  exact ⟨rfl, k0.out.1⟩

theorem sDeed_b (k a b : Int) (h : 1 ≤ k ∧ k ≤ 8) (ha : 0 ≤ a ∧ a ≤ 999) (hb : ¬ (0 ≤ b ∧ b ≤ 999)) (w : World) :
    Calls Tryd.prog 81 #[.agg #[.int .i64 k, .int .i64 a, .int .i64 b]] w fun e w' => e = .returned (.bool false) ∧ Below w.heap.size w w' := by
  have k0 : Hid (Kept w [(w.heap.size, #[.int .i64 k, .int .i64 a, .int .i64 b], 68)] (w.alloc (.cells #[.int .i64 k, .int .i64 a, .int .i64 b] 68))) := hid (((Kept.nil w).push _ _).sub (by simp))
  have H := hid h
  have HA := hid ha
  have HB := hid hb
  clear h ha hb
  go_enter Tryd.func81, Tryd.ntmps81
  go_wp2_with fail
  refine (l00In_t k 1 8 H.out.1 H.out.2 _).mono ?_
  rintro e u0 ⟨rfl, rfl⟩
  go_wp2_with fail
  refine (l00In_t a 0 999 HA.out.1 HA.out.2 _).mono ?_
  rintro e u0 ⟨rfl, rfl⟩
  go_wp2_with fail
  refine (l00In_f b 0 999 HB.out _).mono ?_
  rintro e u0 ⟨rfl, rfl⟩
  go_wp2
  go_ret
  exact ⟨rfl, k0.out.1⟩

set_option maxRecDepth 100000 in
set_option maxHeartbeats 2000000 in
theorem sDeed_1 (a b : Int) (ha : 0 ≤ a ∧ a ≤ 999) (hb : 0 ≤ b ∧ b ≤ 999) (q : Bool) (hq : q = true ↔ (True ∨ a = 0) ∧ (True ∨ b = 0)) (w : World) :
    Calls Tryd.prog 81 #[.agg #[.int .i64 1, .int .i64 a, .int .i64 b]] w fun e w' => e = .returned (.bool q) ∧ Below w.heap.size w w' := by
  have k0 : Hid (Kept w [(w.heap.size, #[.int .i64 1, .int .i64 a, .int .i64 b], 68)] (w.alloc (.cells #[.int .i64 1, .int .i64 a, .int .i64 b] 68))) := hid (((Kept.nil w).push _ _).sub (by simp))
  have HA := hid ha
  have HB := hid hb
  have HQ := hid hq
  clear ha hb hq
  go_enter Tryd.func81, Tryd.ntmps81
  go_wp2_with fail
  refine (l00In_t 1 1 8 (by decide) (by decide) _).mono ?_
  rintro e u0 ⟨rfl, rfl⟩
  go_wp2_with fail
  refine (l00In_t a 0 999 HA.out.1 HA.out.2 _).mono ?_
  rintro e u0 ⟨rfl, rfl⟩
  go_wp2_with fail
  refine (l00In_t b 0 999 HB.out.1 HB.out.2 _).mono ?_
  rintro e u0 ⟨rfl, rfl⟩
  go_wp2_with fail
  refine (sWordsD _).mono ?_
  rintro e u3 ⟨rfl, h3⟩
  have k3 : Hid (Kept w [(w.heap.size, #[.int .i64 1, .int .i64 a, .int .i64 b], 68), ((w.alloc (.cells #[.int .i64 1, .int .i64 a, .int .i64 b] 68)).heap.size + 1, #[.int .i64 0, .int .i64 2, .int .i64 1, .int .i64 2, .int .i64 1, .int .i64 1, .int .i64 1, .int .i64 0, .int .i64 0], 3)] u3) := hid (by rw [h3]; exact (((k0.out.push #[.string { data := #[] }, .string { data := #[103, 105, 118, 101] }, .string { data := #[119, 111, 114, 107] }, .string { data := #[104, 97, 110, 100] }, .string { data := #[100, 101, 108, 105, 118, 101, 114] }, .string { data := #[99, 111, 112, 121] }, .string { data := #[100, 114, 111, 112] }, .string { data := #[115, 97, 118, 101] }, .string { data := #[99, 114, 97, 115, 104] }] 9).push #[.int .i64 0, .int .i64 2, .int .i64 1, .int .i64 2, .int .i64 1, .int .i64 1, .int .i64 1, .int .i64 0, .int .i64 0] 3)).sub (by simp))
  clear h3
  have c0 : u3.cell? ⟨w.heap.size, 0, none⟩ = some (.int .i64 1) := (cell_of_row u3 _ 0 _ _ _ (k3.out.at (x := (w.heap.size, #[.int .i64 1, .int .i64 a, .int .i64 b], 68)) (by simp))).trans rfl
  have c1 : u3.cell? ⟨w.heap.size, 1, none⟩ = some (.int .i64 a) := (cell_of_row u3 _ 1 _ _ _ (k3.out.at (x := (w.heap.size, #[.int .i64 1, .int .i64 a, .int .i64 b], 68)) (by simp))).trans rfl
  have c2 : u3.cell? ⟨w.heap.size, 2, none⟩ = some (.int .i64 b) := (cell_of_row u3 _ 2 _ _ _ (k3.out.at (x := (w.heap.size, #[.int .i64 1, .int .i64 a, .int .i64 b], 68)) (by simp))).trans rfl
  have d2 : u3.cell? ⟨(w.alloc (.cells #[.int .i64 1, .int .i64 a, .int .i64 b] 68)).heap.size + 1, 1, none⟩ = some (.int .i64 2) := (cell_of_row u3 _ 1 _ _ _ (k3.out.at (x := ((w.alloc (.cells #[.int .i64 1, .int .i64 a, .int .i64 b] 68)).heap.size + 1, #[.int .i64 0, .int .i64 2, .int .i64 1, .int .i64 2, .int .i64 1, .int .i64 1, .int .i64 1, .int .i64 0, .int .i64 0], 3)) (by simp))).trans rfl
  have i2 := fun w2 => run_indexAt (P := Tryd.prog) (t := 130) (e := 3) Tryd.underlying130 (m := 1) (by kernel_rfl) (b := (w.alloc (.cells #[.int .i64 1, .int .i64 a, .int .i64 b] 68)).heap.size + 1) (o := 0) (n := 9) (cap := 9) (k := 1) (by omega) w2
  simp only [Nat.zero_add, Nat.mul_one, show ((1 : Nat) : Int) = 1 from rfl] at i2
  have hz : (w.alloc (.cells #[.int .i64 1, .int .i64 a, .int .i64 b] 68)).heap.size = w.heap.size + 1 := by simp
  rw [hz] at d2 i2
  clear hz k0
  obtain rfl : q = true := HQ.out.2 (by simp)
  clear HQ
  go_wp2_with fail
  go_ret
  exact ⟨rfl, k3.out.1⟩

set_option maxRecDepth 100000 in
set_option maxHeartbeats 2000000 in
theorem sDeed_2 (a b : Int) (ha : 0 ≤ a ∧ a ≤ 999) (hb : 0 ≤ b ∧ b ≤ 999) (q : Bool) (hq : q = true ↔ (True ∨ a = 0) ∧ (False ∨ b = 0)) (w : World) :
    Calls Tryd.prog 81 #[.agg #[.int .i64 2, .int .i64 a, .int .i64 b]] w fun e w' => e = .returned (.bool q) ∧ Below w.heap.size w w' := by
  have k0 : Hid (Kept w [(w.heap.size, #[.int .i64 2, .int .i64 a, .int .i64 b], 68)] (w.alloc (.cells #[.int .i64 2, .int .i64 a, .int .i64 b] 68))) := hid (((Kept.nil w).push _ _).sub (by simp))
  have HA := hid ha
  have HB := hid hb
  have HQ := hid hq
  clear ha hb hq
  go_enter Tryd.func81, Tryd.ntmps81
  go_wp2_with fail
  refine (l00In_t 2 1 8 (by decide) (by decide) _).mono ?_
  rintro e u0 ⟨rfl, rfl⟩
  go_wp2_with fail
  refine (l00In_t a 0 999 HA.out.1 HA.out.2 _).mono ?_
  rintro e u0 ⟨rfl, rfl⟩
  go_wp2_with fail
  refine (l00In_t b 0 999 HB.out.1 HB.out.2 _).mono ?_
  rintro e u0 ⟨rfl, rfl⟩
  go_wp2_with fail
  refine (sWordsD _).mono ?_
  rintro e u3 ⟨rfl, h3⟩
  have k3 : Hid (Kept w [(w.heap.size, #[.int .i64 2, .int .i64 a, .int .i64 b], 68), ((w.alloc (.cells #[.int .i64 2, .int .i64 a, .int .i64 b] 68)).heap.size + 1, #[.int .i64 0, .int .i64 2, .int .i64 1, .int .i64 2, .int .i64 1, .int .i64 1, .int .i64 1, .int .i64 0, .int .i64 0], 3)] u3) := hid (by rw [h3]; exact (((k0.out.push #[.string { data := #[] }, .string { data := #[103, 105, 118, 101] }, .string { data := #[119, 111, 114, 107] }, .string { data := #[104, 97, 110, 100] }, .string { data := #[100, 101, 108, 105, 118, 101, 114] }, .string { data := #[99, 111, 112, 121] }, .string { data := #[100, 114, 111, 112] }, .string { data := #[115, 97, 118, 101] }, .string { data := #[99, 114, 97, 115, 104] }] 9).push #[.int .i64 0, .int .i64 2, .int .i64 1, .int .i64 2, .int .i64 1, .int .i64 1, .int .i64 1, .int .i64 0, .int .i64 0] 3)).sub (by simp))
  clear h3
  have c0 : u3.cell? ⟨w.heap.size, 0, none⟩ = some (.int .i64 2) := (cell_of_row u3 _ 0 _ _ _ (k3.out.at (x := (w.heap.size, #[.int .i64 2, .int .i64 a, .int .i64 b], 68)) (by simp))).trans rfl
  have c1 : u3.cell? ⟨w.heap.size, 1, none⟩ = some (.int .i64 a) := (cell_of_row u3 _ 1 _ _ _ (k3.out.at (x := (w.heap.size, #[.int .i64 2, .int .i64 a, .int .i64 b], 68)) (by simp))).trans rfl
  have c2 : u3.cell? ⟨w.heap.size, 2, none⟩ = some (.int .i64 b) := (cell_of_row u3 _ 2 _ _ _ (k3.out.at (x := (w.heap.size, #[.int .i64 2, .int .i64 a, .int .i64 b], 68)) (by simp))).trans rfl
  have d2 : u3.cell? ⟨(w.alloc (.cells #[.int .i64 2, .int .i64 a, .int .i64 b] 68)).heap.size + 1, 2, none⟩ = some (.int .i64 1) := (cell_of_row u3 _ 2 _ _ _ (k3.out.at (x := ((w.alloc (.cells #[.int .i64 2, .int .i64 a, .int .i64 b] 68)).heap.size + 1, #[.int .i64 0, .int .i64 2, .int .i64 1, .int .i64 2, .int .i64 1, .int .i64 1, .int .i64 1, .int .i64 0, .int .i64 0], 3)) (by simp))).trans rfl
  have i2 := fun w2 => run_indexAt (P := Tryd.prog) (t := 130) (e := 3) Tryd.underlying130 (m := 1) (by kernel_rfl) (b := (w.alloc (.cells #[.int .i64 2, .int .i64 a, .int .i64 b] 68)).heap.size + 1) (o := 0) (n := 9) (cap := 9) (k := 2) (by omega) w2
  simp only [Nat.zero_add, Nat.mul_one, show ((2 : Nat) : Int) = 2 from rfl] at i2
  have hz : (w.alloc (.cells #[.int .i64 2, .int .i64 a, .int .i64 b] 68)).heap.size = w.heap.size + 1 := by simp
  rw [hz] at d2 i2
  clear hz k0
  by_cases g2 : b = 0
  · obtain rfl : q = true := by
      rcases q with _ | _
      · exact absurd (HQ.out.2 (by simp [g2])) (by decide)
      · rfl
    clear HQ
    go_wp2_with fail
    go_ret
    exact ⟨rfl, k3.out.1⟩
  · obtain rfl : q = false := by
      rcases q with _ | _
      · rfl
      · exact absurd (HQ.out.1 rfl) (by simp [g2])
    clear HQ
    go_wp2_with fail
    go_ret
    exact ⟨by first | rfl | exact congrArg (fun x => Ending.returned (Value.bool x)) (beq_false_of_ne g2) | exact congrArg (fun x => Ending.returned (Value.bool x)) (beq_false_of_ne g1), k3.out.1⟩

set_option maxRecDepth 100000 in
set_option maxHeartbeats 2000000 in
theorem sDeed_3 (a b : Int) (ha : 0 ≤ a ∧ a ≤ 999) (hb : 0 ≤ b ∧ b ≤ 999) (q : Bool) (hq : q = true ↔ (True ∨ a = 0) ∧ (True ∨ b = 0)) (w : World) :
    Calls Tryd.prog 81 #[.agg #[.int .i64 3, .int .i64 a, .int .i64 b]] w fun e w' => e = .returned (.bool q) ∧ Below w.heap.size w w' := by
  have k0 : Hid (Kept w [(w.heap.size, #[.int .i64 3, .int .i64 a, .int .i64 b], 68)] (w.alloc (.cells #[.int .i64 3, .int .i64 a, .int .i64 b] 68))) := hid (((Kept.nil w).push _ _).sub (by simp))
  have HA := hid ha
  have HB := hid hb
  have HQ := hid hq
  clear ha hb hq
  go_enter Tryd.func81, Tryd.ntmps81
  go_wp2_with fail
  refine (l00In_t 3 1 8 (by decide) (by decide) _).mono ?_
  rintro e u0 ⟨rfl, rfl⟩
  go_wp2_with fail
  refine (l00In_t a 0 999 HA.out.1 HA.out.2 _).mono ?_
  rintro e u0 ⟨rfl, rfl⟩
  go_wp2_with fail
  refine (l00In_t b 0 999 HB.out.1 HB.out.2 _).mono ?_
  rintro e u0 ⟨rfl, rfl⟩
  go_wp2_with fail
  refine (sWordsD _).mono ?_
  rintro e u3 ⟨rfl, h3⟩
  have k3 : Hid (Kept w [(w.heap.size, #[.int .i64 3, .int .i64 a, .int .i64 b], 68), ((w.alloc (.cells #[.int .i64 3, .int .i64 a, .int .i64 b] 68)).heap.size + 1, #[.int .i64 0, .int .i64 2, .int .i64 1, .int .i64 2, .int .i64 1, .int .i64 1, .int .i64 1, .int .i64 0, .int .i64 0], 3)] u3) := hid (by rw [h3]; exact (((k0.out.push #[.string { data := #[] }, .string { data := #[103, 105, 118, 101] }, .string { data := #[119, 111, 114, 107] }, .string { data := #[104, 97, 110, 100] }, .string { data := #[100, 101, 108, 105, 118, 101, 114] }, .string { data := #[99, 111, 112, 121] }, .string { data := #[100, 114, 111, 112] }, .string { data := #[115, 97, 118, 101] }, .string { data := #[99, 114, 97, 115, 104] }] 9).push #[.int .i64 0, .int .i64 2, .int .i64 1, .int .i64 2, .int .i64 1, .int .i64 1, .int .i64 1, .int .i64 0, .int .i64 0] 3)).sub (by simp))
  clear h3
  have c0 : u3.cell? ⟨w.heap.size, 0, none⟩ = some (.int .i64 3) := (cell_of_row u3 _ 0 _ _ _ (k3.out.at (x := (w.heap.size, #[.int .i64 3, .int .i64 a, .int .i64 b], 68)) (by simp))).trans rfl
  have c1 : u3.cell? ⟨w.heap.size, 1, none⟩ = some (.int .i64 a) := (cell_of_row u3 _ 1 _ _ _ (k3.out.at (x := (w.heap.size, #[.int .i64 3, .int .i64 a, .int .i64 b], 68)) (by simp))).trans rfl
  have c2 : u3.cell? ⟨w.heap.size, 2, none⟩ = some (.int .i64 b) := (cell_of_row u3 _ 2 _ _ _ (k3.out.at (x := (w.heap.size, #[.int .i64 3, .int .i64 a, .int .i64 b], 68)) (by simp))).trans rfl
  have d2 : u3.cell? ⟨(w.alloc (.cells #[.int .i64 3, .int .i64 a, .int .i64 b] 68)).heap.size + 1, 3, none⟩ = some (.int .i64 2) := (cell_of_row u3 _ 3 _ _ _ (k3.out.at (x := ((w.alloc (.cells #[.int .i64 3, .int .i64 a, .int .i64 b] 68)).heap.size + 1, #[.int .i64 0, .int .i64 2, .int .i64 1, .int .i64 2, .int .i64 1, .int .i64 1, .int .i64 1, .int .i64 0, .int .i64 0], 3)) (by simp))).trans rfl
  have i2 := fun w2 => run_indexAt (P := Tryd.prog) (t := 130) (e := 3) Tryd.underlying130 (m := 1) (by kernel_rfl) (b := (w.alloc (.cells #[.int .i64 3, .int .i64 a, .int .i64 b] 68)).heap.size + 1) (o := 0) (n := 9) (cap := 9) (k := 3) (by omega) w2
  simp only [Nat.zero_add, Nat.mul_one, show ((3 : Nat) : Int) = 3 from rfl] at i2
  have hz : (w.alloc (.cells #[.int .i64 3, .int .i64 a, .int .i64 b] 68)).heap.size = w.heap.size + 1 := by simp
  rw [hz] at d2 i2
  clear hz k0
  obtain rfl : q = true := HQ.out.2 (by simp)
  clear HQ
  go_wp2_with fail
  go_ret
  exact ⟨rfl, k3.out.1⟩

set_option maxRecDepth 100000 in
set_option maxHeartbeats 2000000 in
theorem sDeed_4 (a b : Int) (ha : 0 ≤ a ∧ a ≤ 999) (hb : 0 ≤ b ∧ b ≤ 999) (q : Bool) (hq : q = true ↔ (True ∨ a = 0) ∧ (False ∨ b = 0)) (w : World) :
    Calls Tryd.prog 81 #[.agg #[.int .i64 4, .int .i64 a, .int .i64 b]] w fun e w' => e = .returned (.bool q) ∧ Below w.heap.size w w' := by
  have k0 : Hid (Kept w [(w.heap.size, #[.int .i64 4, .int .i64 a, .int .i64 b], 68)] (w.alloc (.cells #[.int .i64 4, .int .i64 a, .int .i64 b] 68))) := hid (((Kept.nil w).push _ _).sub (by simp))
  have HA := hid ha
  have HB := hid hb
  have HQ := hid hq
  clear ha hb hq
  go_enter Tryd.func81, Tryd.ntmps81
  go_wp2_with fail
  refine (l00In_t 4 1 8 (by decide) (by decide) _).mono ?_
  rintro e u0 ⟨rfl, rfl⟩
  go_wp2_with fail
  refine (l00In_t a 0 999 HA.out.1 HA.out.2 _).mono ?_
  rintro e u0 ⟨rfl, rfl⟩
  go_wp2_with fail
  refine (l00In_t b 0 999 HB.out.1 HB.out.2 _).mono ?_
  rintro e u0 ⟨rfl, rfl⟩
  go_wp2_with fail
  refine (sWordsD _).mono ?_
  rintro e u3 ⟨rfl, h3⟩
  have k3 : Hid (Kept w [(w.heap.size, #[.int .i64 4, .int .i64 a, .int .i64 b], 68), ((w.alloc (.cells #[.int .i64 4, .int .i64 a, .int .i64 b] 68)).heap.size + 1, #[.int .i64 0, .int .i64 2, .int .i64 1, .int .i64 2, .int .i64 1, .int .i64 1, .int .i64 1, .int .i64 0, .int .i64 0], 3)] u3) := hid (by rw [h3]; exact (((k0.out.push #[.string { data := #[] }, .string { data := #[103, 105, 118, 101] }, .string { data := #[119, 111, 114, 107] }, .string { data := #[104, 97, 110, 100] }, .string { data := #[100, 101, 108, 105, 118, 101, 114] }, .string { data := #[99, 111, 112, 121] }, .string { data := #[100, 114, 111, 112] }, .string { data := #[115, 97, 118, 101] }, .string { data := #[99, 114, 97, 115, 104] }] 9).push #[.int .i64 0, .int .i64 2, .int .i64 1, .int .i64 2, .int .i64 1, .int .i64 1, .int .i64 1, .int .i64 0, .int .i64 0] 3)).sub (by simp))
  clear h3
  have c0 : u3.cell? ⟨w.heap.size, 0, none⟩ = some (.int .i64 4) := (cell_of_row u3 _ 0 _ _ _ (k3.out.at (x := (w.heap.size, #[.int .i64 4, .int .i64 a, .int .i64 b], 68)) (by simp))).trans rfl
  have c1 : u3.cell? ⟨w.heap.size, 1, none⟩ = some (.int .i64 a) := (cell_of_row u3 _ 1 _ _ _ (k3.out.at (x := (w.heap.size, #[.int .i64 4, .int .i64 a, .int .i64 b], 68)) (by simp))).trans rfl
  have c2 : u3.cell? ⟨w.heap.size, 2, none⟩ = some (.int .i64 b) := (cell_of_row u3 _ 2 _ _ _ (k3.out.at (x := (w.heap.size, #[.int .i64 4, .int .i64 a, .int .i64 b], 68)) (by simp))).trans rfl
  have d2 : u3.cell? ⟨(w.alloc (.cells #[.int .i64 4, .int .i64 a, .int .i64 b] 68)).heap.size + 1, 4, none⟩ = some (.int .i64 1) := (cell_of_row u3 _ 4 _ _ _ (k3.out.at (x := ((w.alloc (.cells #[.int .i64 4, .int .i64 a, .int .i64 b] 68)).heap.size + 1, #[.int .i64 0, .int .i64 2, .int .i64 1, .int .i64 2, .int .i64 1, .int .i64 1, .int .i64 1, .int .i64 0, .int .i64 0], 3)) (by simp))).trans rfl
  have i2 := fun w2 => run_indexAt (P := Tryd.prog) (t := 130) (e := 3) Tryd.underlying130 (m := 1) (by kernel_rfl) (b := (w.alloc (.cells #[.int .i64 4, .int .i64 a, .int .i64 b] 68)).heap.size + 1) (o := 0) (n := 9) (cap := 9) (k := 4) (by omega) w2
  simp only [Nat.zero_add, Nat.mul_one, show ((4 : Nat) : Int) = 4 from rfl] at i2
  have hz : (w.alloc (.cells #[.int .i64 4, .int .i64 a, .int .i64 b] 68)).heap.size = w.heap.size + 1 := by simp
  rw [hz] at d2 i2
  clear hz k0
  by_cases g2 : b = 0
  · obtain rfl : q = true := by
      rcases q with _ | _
      · exact absurd (HQ.out.2 (by simp [g2])) (by decide)
      · rfl
    clear HQ
    go_wp2_with fail
    go_ret
    exact ⟨rfl, k3.out.1⟩
  · obtain rfl : q = false := by
      rcases q with _ | _
      · rfl
      · exact absurd (HQ.out.1 rfl) (by simp [g2])
    clear HQ
    go_wp2_with fail
    go_ret
    exact ⟨by first | rfl | exact congrArg (fun x => Ending.returned (Value.bool x)) (beq_false_of_ne g2) | exact congrArg (fun x => Ending.returned (Value.bool x)) (beq_false_of_ne g1), k3.out.1⟩

set_option maxRecDepth 100000 in
set_option maxHeartbeats 2000000 in
theorem sDeed_5 (a b : Int) (ha : 0 ≤ a ∧ a ≤ 999) (hb : 0 ≤ b ∧ b ≤ 999) (q : Bool) (hq : q = true ↔ (True ∨ a = 0) ∧ (False ∨ b = 0)) (w : World) :
    Calls Tryd.prog 81 #[.agg #[.int .i64 5, .int .i64 a, .int .i64 b]] w fun e w' => e = .returned (.bool q) ∧ Below w.heap.size w w' := by
  have k0 : Hid (Kept w [(w.heap.size, #[.int .i64 5, .int .i64 a, .int .i64 b], 68)] (w.alloc (.cells #[.int .i64 5, .int .i64 a, .int .i64 b] 68))) := hid (((Kept.nil w).push _ _).sub (by simp))
  have HA := hid ha
  have HB := hid hb
  have HQ := hid hq
  clear ha hb hq
  go_enter Tryd.func81, Tryd.ntmps81
  go_wp2_with fail
  refine (l00In_t 5 1 8 (by decide) (by decide) _).mono ?_
  rintro e u0 ⟨rfl, rfl⟩
  go_wp2_with fail
  refine (l00In_t a 0 999 HA.out.1 HA.out.2 _).mono ?_
  rintro e u0 ⟨rfl, rfl⟩
  go_wp2_with fail
  refine (l00In_t b 0 999 HB.out.1 HB.out.2 _).mono ?_
  rintro e u0 ⟨rfl, rfl⟩
  go_wp2_with fail
  refine (sWordsD _).mono ?_
  rintro e u3 ⟨rfl, h3⟩
  have k3 : Hid (Kept w [(w.heap.size, #[.int .i64 5, .int .i64 a, .int .i64 b], 68), ((w.alloc (.cells #[.int .i64 5, .int .i64 a, .int .i64 b] 68)).heap.size + 1, #[.int .i64 0, .int .i64 2, .int .i64 1, .int .i64 2, .int .i64 1, .int .i64 1, .int .i64 1, .int .i64 0, .int .i64 0], 3)] u3) := hid (by rw [h3]; exact (((k0.out.push #[.string { data := #[] }, .string { data := #[103, 105, 118, 101] }, .string { data := #[119, 111, 114, 107] }, .string { data := #[104, 97, 110, 100] }, .string { data := #[100, 101, 108, 105, 118, 101, 114] }, .string { data := #[99, 111, 112, 121] }, .string { data := #[100, 114, 111, 112] }, .string { data := #[115, 97, 118, 101] }, .string { data := #[99, 114, 97, 115, 104] }] 9).push #[.int .i64 0, .int .i64 2, .int .i64 1, .int .i64 2, .int .i64 1, .int .i64 1, .int .i64 1, .int .i64 0, .int .i64 0] 3)).sub (by simp))
  clear h3
  have c0 : u3.cell? ⟨w.heap.size, 0, none⟩ = some (.int .i64 5) := (cell_of_row u3 _ 0 _ _ _ (k3.out.at (x := (w.heap.size, #[.int .i64 5, .int .i64 a, .int .i64 b], 68)) (by simp))).trans rfl
  have c1 : u3.cell? ⟨w.heap.size, 1, none⟩ = some (.int .i64 a) := (cell_of_row u3 _ 1 _ _ _ (k3.out.at (x := (w.heap.size, #[.int .i64 5, .int .i64 a, .int .i64 b], 68)) (by simp))).trans rfl
  have c2 : u3.cell? ⟨w.heap.size, 2, none⟩ = some (.int .i64 b) := (cell_of_row u3 _ 2 _ _ _ (k3.out.at (x := (w.heap.size, #[.int .i64 5, .int .i64 a, .int .i64 b], 68)) (by simp))).trans rfl
  have d2 : u3.cell? ⟨(w.alloc (.cells #[.int .i64 5, .int .i64 a, .int .i64 b] 68)).heap.size + 1, 5, none⟩ = some (.int .i64 1) := (cell_of_row u3 _ 5 _ _ _ (k3.out.at (x := ((w.alloc (.cells #[.int .i64 5, .int .i64 a, .int .i64 b] 68)).heap.size + 1, #[.int .i64 0, .int .i64 2, .int .i64 1, .int .i64 2, .int .i64 1, .int .i64 1, .int .i64 1, .int .i64 0, .int .i64 0], 3)) (by simp))).trans rfl
  have i2 := fun w2 => run_indexAt (P := Tryd.prog) (t := 130) (e := 3) Tryd.underlying130 (m := 1) (by kernel_rfl) (b := (w.alloc (.cells #[.int .i64 5, .int .i64 a, .int .i64 b] 68)).heap.size + 1) (o := 0) (n := 9) (cap := 9) (k := 5) (by omega) w2
  simp only [Nat.zero_add, Nat.mul_one, show ((5 : Nat) : Int) = 5 from rfl] at i2
  have hz : (w.alloc (.cells #[.int .i64 5, .int .i64 a, .int .i64 b] 68)).heap.size = w.heap.size + 1 := by simp
  rw [hz] at d2 i2
  clear hz k0
  by_cases g2 : b = 0
  · obtain rfl : q = true := by
      rcases q with _ | _
      · exact absurd (HQ.out.2 (by simp [g2])) (by decide)
      · rfl
    clear HQ
    go_wp2_with fail
    go_ret
    exact ⟨rfl, k3.out.1⟩
  · obtain rfl : q = false := by
      rcases q with _ | _
      · rfl
      · exact absurd (HQ.out.1 rfl) (by simp [g2])
    clear HQ
    go_wp2_with fail
    go_ret
    exact ⟨by first | rfl | exact congrArg (fun x => Ending.returned (Value.bool x)) (beq_false_of_ne g2) | exact congrArg (fun x => Ending.returned (Value.bool x)) (beq_false_of_ne g1), k3.out.1⟩

set_option maxRecDepth 100000 in
set_option maxHeartbeats 2000000 in
theorem sDeed_6 (a b : Int) (ha : 0 ≤ a ∧ a ≤ 999) (hb : 0 ≤ b ∧ b ≤ 999) (q : Bool) (hq : q = true ↔ (True ∨ a = 0) ∧ (False ∨ b = 0)) (w : World) :
    Calls Tryd.prog 81 #[.agg #[.int .i64 6, .int .i64 a, .int .i64 b]] w fun e w' => e = .returned (.bool q) ∧ Below w.heap.size w w' := by
  have k0 : Hid (Kept w [(w.heap.size, #[.int .i64 6, .int .i64 a, .int .i64 b], 68)] (w.alloc (.cells #[.int .i64 6, .int .i64 a, .int .i64 b] 68))) := hid (((Kept.nil w).push _ _).sub (by simp))
  have HA := hid ha
  have HB := hid hb
  have HQ := hid hq
  clear ha hb hq
  go_enter Tryd.func81, Tryd.ntmps81
  go_wp2_with fail
  refine (l00In_t 6 1 8 (by decide) (by decide) _).mono ?_
  rintro e u0 ⟨rfl, rfl⟩
  go_wp2_with fail
  refine (l00In_t a 0 999 HA.out.1 HA.out.2 _).mono ?_
  rintro e u0 ⟨rfl, rfl⟩
  go_wp2_with fail
  refine (l00In_t b 0 999 HB.out.1 HB.out.2 _).mono ?_
  rintro e u0 ⟨rfl, rfl⟩
  go_wp2_with fail
  refine (sWordsD _).mono ?_
  rintro e u3 ⟨rfl, h3⟩
  have k3 : Hid (Kept w [(w.heap.size, #[.int .i64 6, .int .i64 a, .int .i64 b], 68), ((w.alloc (.cells #[.int .i64 6, .int .i64 a, .int .i64 b] 68)).heap.size + 1, #[.int .i64 0, .int .i64 2, .int .i64 1, .int .i64 2, .int .i64 1, .int .i64 1, .int .i64 1, .int .i64 0, .int .i64 0], 3)] u3) := hid (by rw [h3]; exact (((k0.out.push #[.string { data := #[] }, .string { data := #[103, 105, 118, 101] }, .string { data := #[119, 111, 114, 107] }, .string { data := #[104, 97, 110, 100] }, .string { data := #[100, 101, 108, 105, 118, 101, 114] }, .string { data := #[99, 111, 112, 121] }, .string { data := #[100, 114, 111, 112] }, .string { data := #[115, 97, 118, 101] }, .string { data := #[99, 114, 97, 115, 104] }] 9).push #[.int .i64 0, .int .i64 2, .int .i64 1, .int .i64 2, .int .i64 1, .int .i64 1, .int .i64 1, .int .i64 0, .int .i64 0] 3)).sub (by simp))
  clear h3
  have c0 : u3.cell? ⟨w.heap.size, 0, none⟩ = some (.int .i64 6) := (cell_of_row u3 _ 0 _ _ _ (k3.out.at (x := (w.heap.size, #[.int .i64 6, .int .i64 a, .int .i64 b], 68)) (by simp))).trans rfl
  have c1 : u3.cell? ⟨w.heap.size, 1, none⟩ = some (.int .i64 a) := (cell_of_row u3 _ 1 _ _ _ (k3.out.at (x := (w.heap.size, #[.int .i64 6, .int .i64 a, .int .i64 b], 68)) (by simp))).trans rfl
  have c2 : u3.cell? ⟨w.heap.size, 2, none⟩ = some (.int .i64 b) := (cell_of_row u3 _ 2 _ _ _ (k3.out.at (x := (w.heap.size, #[.int .i64 6, .int .i64 a, .int .i64 b], 68)) (by simp))).trans rfl
  have d2 : u3.cell? ⟨(w.alloc (.cells #[.int .i64 6, .int .i64 a, .int .i64 b] 68)).heap.size + 1, 6, none⟩ = some (.int .i64 1) := (cell_of_row u3 _ 6 _ _ _ (k3.out.at (x := ((w.alloc (.cells #[.int .i64 6, .int .i64 a, .int .i64 b] 68)).heap.size + 1, #[.int .i64 0, .int .i64 2, .int .i64 1, .int .i64 2, .int .i64 1, .int .i64 1, .int .i64 1, .int .i64 0, .int .i64 0], 3)) (by simp))).trans rfl
  have i2 := fun w2 => run_indexAt (P := Tryd.prog) (t := 130) (e := 3) Tryd.underlying130 (m := 1) (by kernel_rfl) (b := (w.alloc (.cells #[.int .i64 6, .int .i64 a, .int .i64 b] 68)).heap.size + 1) (o := 0) (n := 9) (cap := 9) (k := 6) (by omega) w2
  simp only [Nat.zero_add, Nat.mul_one, show ((6 : Nat) : Int) = 6 from rfl] at i2
  have hz : (w.alloc (.cells #[.int .i64 6, .int .i64 a, .int .i64 b] 68)).heap.size = w.heap.size + 1 := by simp
  rw [hz] at d2 i2
  clear hz k0
  by_cases g2 : b = 0
  · obtain rfl : q = true := by
      rcases q with _ | _
      · exact absurd (HQ.out.2 (by simp [g2])) (by decide)
      · rfl
    clear HQ
    go_wp2_with fail
    go_ret
    exact ⟨rfl, k3.out.1⟩
  · obtain rfl : q = false := by
      rcases q with _ | _
      · rfl
      · exact absurd (HQ.out.1 rfl) (by simp [g2])
    clear HQ
    go_wp2_with fail
    go_ret
    exact ⟨by first | rfl | exact congrArg (fun x => Ending.returned (Value.bool x)) (beq_false_of_ne g2) | exact congrArg (fun x => Ending.returned (Value.bool x)) (beq_false_of_ne g1), k3.out.1⟩

set_option maxRecDepth 100000 in
set_option maxHeartbeats 2000000 in
theorem sDeed_7 (a b : Int) (ha : 0 ≤ a ∧ a ≤ 999) (hb : 0 ≤ b ∧ b ≤ 999) (q : Bool) (hq : q = true ↔ (False ∨ a = 0) ∧ (False ∨ b = 0)) (w : World) :
    Calls Tryd.prog 81 #[.agg #[.int .i64 7, .int .i64 a, .int .i64 b]] w fun e w' => e = .returned (.bool q) ∧ Below w.heap.size w w' := by
  have k0 : Hid (Kept w [(w.heap.size, #[.int .i64 7, .int .i64 a, .int .i64 b], 68)] (w.alloc (.cells #[.int .i64 7, .int .i64 a, .int .i64 b] 68))) := hid (((Kept.nil w).push _ _).sub (by simp))
  have HA := hid ha
  have HB := hid hb
  have HQ := hid hq
  clear ha hb hq
  go_enter Tryd.func81, Tryd.ntmps81
  go_wp2_with fail
  refine (l00In_t 7 1 8 (by decide) (by decide) _).mono ?_
  rintro e u0 ⟨rfl, rfl⟩
  go_wp2_with fail
  refine (l00In_t a 0 999 HA.out.1 HA.out.2 _).mono ?_
  rintro e u0 ⟨rfl, rfl⟩
  go_wp2_with fail
  refine (l00In_t b 0 999 HB.out.1 HB.out.2 _).mono ?_
  rintro e u0 ⟨rfl, rfl⟩
  go_wp2_with fail
  refine (sWordsD _).mono ?_
  rintro e u3 ⟨rfl, h3⟩
  have k3 : Hid (Kept w [(w.heap.size, #[.int .i64 7, .int .i64 a, .int .i64 b], 68), ((w.alloc (.cells #[.int .i64 7, .int .i64 a, .int .i64 b] 68)).heap.size + 1, #[.int .i64 0, .int .i64 2, .int .i64 1, .int .i64 2, .int .i64 1, .int .i64 1, .int .i64 1, .int .i64 0, .int .i64 0], 3)] u3) := hid (by rw [h3]; exact (((k0.out.push #[.string { data := #[] }, .string { data := #[103, 105, 118, 101] }, .string { data := #[119, 111, 114, 107] }, .string { data := #[104, 97, 110, 100] }, .string { data := #[100, 101, 108, 105, 118, 101, 114] }, .string { data := #[99, 111, 112, 121] }, .string { data := #[100, 114, 111, 112] }, .string { data := #[115, 97, 118, 101] }, .string { data := #[99, 114, 97, 115, 104] }] 9).push #[.int .i64 0, .int .i64 2, .int .i64 1, .int .i64 2, .int .i64 1, .int .i64 1, .int .i64 1, .int .i64 0, .int .i64 0] 3)).sub (by simp))
  clear h3
  have c0 : u3.cell? ⟨w.heap.size, 0, none⟩ = some (.int .i64 7) := (cell_of_row u3 _ 0 _ _ _ (k3.out.at (x := (w.heap.size, #[.int .i64 7, .int .i64 a, .int .i64 b], 68)) (by simp))).trans rfl
  have c1 : u3.cell? ⟨w.heap.size, 1, none⟩ = some (.int .i64 a) := (cell_of_row u3 _ 1 _ _ _ (k3.out.at (x := (w.heap.size, #[.int .i64 7, .int .i64 a, .int .i64 b], 68)) (by simp))).trans rfl
  have c2 : u3.cell? ⟨w.heap.size, 2, none⟩ = some (.int .i64 b) := (cell_of_row u3 _ 2 _ _ _ (k3.out.at (x := (w.heap.size, #[.int .i64 7, .int .i64 a, .int .i64 b], 68)) (by simp))).trans rfl
  have d2 : u3.cell? ⟨(w.alloc (.cells #[.int .i64 7, .int .i64 a, .int .i64 b] 68)).heap.size + 1, 7, none⟩ = some (.int .i64 0) := (cell_of_row u3 _ 7 _ _ _ (k3.out.at (x := ((w.alloc (.cells #[.int .i64 7, .int .i64 a, .int .i64 b] 68)).heap.size + 1, #[.int .i64 0, .int .i64 2, .int .i64 1, .int .i64 2, .int .i64 1, .int .i64 1, .int .i64 1, .int .i64 0, .int .i64 0], 3)) (by simp))).trans rfl
  have i2 := fun w2 => run_indexAt (P := Tryd.prog) (t := 130) (e := 3) Tryd.underlying130 (m := 1) (by kernel_rfl) (b := (w.alloc (.cells #[.int .i64 7, .int .i64 a, .int .i64 b] 68)).heap.size + 1) (o := 0) (n := 9) (cap := 9) (k := 7) (by omega) w2
  simp only [Nat.zero_add, Nat.mul_one, show ((7 : Nat) : Int) = 7 from rfl] at i2
  have hz : (w.alloc (.cells #[.int .i64 7, .int .i64 a, .int .i64 b] 68)).heap.size = w.heap.size + 1 := by simp
  rw [hz] at d2 i2
  clear hz k0
  by_cases g1 : a = 0
  · by_cases g2 : b = 0
    · obtain rfl : q = true := by
        rcases q with _ | _
        · exact absurd (HQ.out.2 (by simp [g1, g2])) (by decide)
        · rfl
      clear HQ
      go_wp2_with fail
      go_ret
      exact ⟨rfl, k3.out.1⟩
    · obtain rfl : q = false := by
        rcases q with _ | _
        · rfl
        · exact absurd (HQ.out.1 rfl) (by simp [g2])
      clear HQ
      go_wp2_with fail
      go_ret
      exact ⟨by first | rfl | exact congrArg (fun x => Ending.returned (Value.bool x)) (beq_false_of_ne g2) | exact congrArg (fun x => Ending.returned (Value.bool x)) (beq_false_of_ne g1), k3.out.1⟩
  · obtain rfl : q = false := by
      rcases q with _ | _
      · rfl
      · exact absurd (HQ.out.1 rfl) (by simp [g1])
    clear HQ
    go_wp2_with fail
    go_ret
    exact ⟨by first | rfl | exact congrArg (fun x => Ending.returned (Value.bool x)) (beq_false_of_ne g2) | exact congrArg (fun x => Ending.returned (Value.bool x)) (beq_false_of_ne g1), k3.out.1⟩

set_option maxRecDepth 100000 in
set_option maxHeartbeats 2000000 in
theorem sDeed_8 (a b : Int) (ha : 0 ≤ a ∧ a ≤ 999) (hb : 0 ≤ b ∧ b ≤ 999) (q : Bool) (hq : q = true ↔ (False ∨ a = 0) ∧ (False ∨ b = 0)) (w : World) :
    Calls Tryd.prog 81 #[.agg #[.int .i64 8, .int .i64 a, .int .i64 b]] w fun e w' => e = .returned (.bool q) ∧ Below w.heap.size w w' := by
  have k0 : Hid (Kept w [(w.heap.size, #[.int .i64 8, .int .i64 a, .int .i64 b], 68)] (w.alloc (.cells #[.int .i64 8, .int .i64 a, .int .i64 b] 68))) := hid (((Kept.nil w).push _ _).sub (by simp))
  have HA := hid ha
  have HB := hid hb
  have HQ := hid hq
  clear ha hb hq
  go_enter Tryd.func81, Tryd.ntmps81
  go_wp2_with fail
  refine (l00In_t 8 1 8 (by decide) (by decide) _).mono ?_
  rintro e u0 ⟨rfl, rfl⟩
  go_wp2_with fail
  refine (l00In_t a 0 999 HA.out.1 HA.out.2 _).mono ?_
  rintro e u0 ⟨rfl, rfl⟩
  go_wp2_with fail
  refine (l00In_t b 0 999 HB.out.1 HB.out.2 _).mono ?_
  rintro e u0 ⟨rfl, rfl⟩
  go_wp2_with fail
  refine (sWordsD _).mono ?_
  rintro e u3 ⟨rfl, h3⟩
  have k3 : Hid (Kept w [(w.heap.size, #[.int .i64 8, .int .i64 a, .int .i64 b], 68), ((w.alloc (.cells #[.int .i64 8, .int .i64 a, .int .i64 b] 68)).heap.size + 1, #[.int .i64 0, .int .i64 2, .int .i64 1, .int .i64 2, .int .i64 1, .int .i64 1, .int .i64 1, .int .i64 0, .int .i64 0], 3)] u3) := hid (by rw [h3]; exact (((k0.out.push #[.string { data := #[] }, .string { data := #[103, 105, 118, 101] }, .string { data := #[119, 111, 114, 107] }, .string { data := #[104, 97, 110, 100] }, .string { data := #[100, 101, 108, 105, 118, 101, 114] }, .string { data := #[99, 111, 112, 121] }, .string { data := #[100, 114, 111, 112] }, .string { data := #[115, 97, 118, 101] }, .string { data := #[99, 114, 97, 115, 104] }] 9).push #[.int .i64 0, .int .i64 2, .int .i64 1, .int .i64 2, .int .i64 1, .int .i64 1, .int .i64 1, .int .i64 0, .int .i64 0] 3)).sub (by simp))
  clear h3
  have c0 : u3.cell? ⟨w.heap.size, 0, none⟩ = some (.int .i64 8) := (cell_of_row u3 _ 0 _ _ _ (k3.out.at (x := (w.heap.size, #[.int .i64 8, .int .i64 a, .int .i64 b], 68)) (by simp))).trans rfl
  have c1 : u3.cell? ⟨w.heap.size, 1, none⟩ = some (.int .i64 a) := (cell_of_row u3 _ 1 _ _ _ (k3.out.at (x := (w.heap.size, #[.int .i64 8, .int .i64 a, .int .i64 b], 68)) (by simp))).trans rfl
  have c2 : u3.cell? ⟨w.heap.size, 2, none⟩ = some (.int .i64 b) := (cell_of_row u3 _ 2 _ _ _ (k3.out.at (x := (w.heap.size, #[.int .i64 8, .int .i64 a, .int .i64 b], 68)) (by simp))).trans rfl
  have d2 : u3.cell? ⟨(w.alloc (.cells #[.int .i64 8, .int .i64 a, .int .i64 b] 68)).heap.size + 1, 8, none⟩ = some (.int .i64 0) := (cell_of_row u3 _ 8 _ _ _ (k3.out.at (x := ((w.alloc (.cells #[.int .i64 8, .int .i64 a, .int .i64 b] 68)).heap.size + 1, #[.int .i64 0, .int .i64 2, .int .i64 1, .int .i64 2, .int .i64 1, .int .i64 1, .int .i64 1, .int .i64 0, .int .i64 0], 3)) (by simp))).trans rfl
  have i2 := fun w2 => run_indexAt (P := Tryd.prog) (t := 130) (e := 3) Tryd.underlying130 (m := 1) (by kernel_rfl) (b := (w.alloc (.cells #[.int .i64 8, .int .i64 a, .int .i64 b] 68)).heap.size + 1) (o := 0) (n := 9) (cap := 9) (k := 8) (by omega) w2
  simp only [Nat.zero_add, Nat.mul_one, show ((8 : Nat) : Int) = 8 from rfl] at i2
  have hz : (w.alloc (.cells #[.int .i64 8, .int .i64 a, .int .i64 b] 68)).heap.size = w.heap.size + 1 := by simp
  rw [hz] at d2 i2
  clear hz k0
  by_cases g1 : a = 0
  · by_cases g2 : b = 0
    · obtain rfl : q = true := by
        rcases q with _ | _
        · exact absurd (HQ.out.2 (by simp [g1, g2])) (by decide)
        · rfl
      clear HQ
      go_wp2_with fail
      go_ret
      exact ⟨rfl, k3.out.1⟩
    · obtain rfl : q = false := by
        rcases q with _ | _
        · rfl
        · exact absurd (HQ.out.1 rfl) (by simp [g2])
      clear HQ
      go_wp2_with fail
      go_ret
      exact ⟨by first | rfl | exact congrArg (fun x => Ending.returned (Value.bool x)) (beq_false_of_ne g2) | exact congrArg (fun x => Ending.returned (Value.bool x)) (beq_false_of_ne g1), k3.out.1⟩
  · obtain rfl : q = false := by
      rcases q with _ | _
      · rfl
      · exact absurd (HQ.out.1 rfl) (by simp [g1])
    clear HQ
    go_wp2_with fail
    go_ret
    exact ⟨by first | rfl | exact congrArg (fun x => Ending.returned (Value.bool x)) (beq_false_of_ne g2) | exact congrArg (fun x => Ending.returned (Value.bool x)) (beq_false_of_ne g1), k3.out.1⟩

theorem sDeed (k a b : Int) (q : Bool) (hq : q = true ↔ dOk k a b) (w : World) :
    Calls Tryd.prog 81 #[.agg #[.int .i64 k, .int .i64 a, .int .i64 b]] w fun e w' => e = .returned (.bool q) ∧ Below w.heap.size w w' := by
  by_cases h : 1 ≤ k ∧ k ≤ 8
  · by_cases ha : 0 ≤ a ∧ a ≤ 999
    · by_cases hb : 0 ≤ b ∧ b ≤ 999
      · have hx : k = 1 ∨ k = 2 ∨ k = 3 ∨ k = 4 ∨ k = 5 ∨ k = 6 ∨ k = 7 ∨ k = 8 := by omega
        have hq2 : q = true ↔ (0 < nkD k ∨ a = 0) ∧ (1 < nkD k ∨ b = 0) := by rw [hq]; unfold dOk; omega
        clear hq
        rcases hx with rfl | rfl | rfl | rfl | rfl | rfl | rfl | rfl
        · exact sDeed_1 a b ha hb q (by rw [hq2]; simp [nkD]) w
        · exact sDeed_2 a b ha hb q (by rw [hq2]; simp [nkD]) w
        · exact sDeed_3 a b ha hb q (by rw [hq2]; simp [nkD]) w
        · exact sDeed_4 a b ha hb q (by rw [hq2]; simp [nkD]) w
        · exact sDeed_5 a b ha hb q (by rw [hq2]; simp [nkD]) w
        · exact sDeed_6 a b ha hb q (by rw [hq2]; simp [nkD]) w
        · exact sDeed_7 a b ha hb q (by rw [hq2]; simp [nkD]) w
        · exact sDeed_8 a b ha hb q (by rw [hq2]; simp [nkD]) w
      · obtain rfl : q = false := by
          rcases q with _ | _
          · rfl
          · have := hq.1 rfl; unfold dOk at this; omega
        exact sDeed_b k a b h ha hb w
    · obtain rfl : q = false := by
        rcases q with _ | _
        · rfl
        · have := hq.1 rfl; unfold dOk at this; omega
      exact sDeed_a k a b h ha w
  · obtain rfl : q = false := by
      rcases q with _ | _
      · rfl
      · have := hq.1 rfl; unfold dOk at this; omega
    exact sDeed_k k a b h w

theorem toDeed (k a b : Int) (w : World) :
    Calls Tryd.prog 38 #[.agg #[.int .i64 k, .int .i64 a, .int .i64 b]] w fun e w' => e = .returned (.agg #[.int .i64 k, .int .i64 a, .int .i64 b]) ∧ Below w.heap.size w w' := by
  have k0 : Hid (Kept w [(w.heap.size + 1, #[.int .i64 k, .int .i64 a, .int .i64 b], 68)] (((w.alloc (.cells #[.int .i64 k, .int .i64 a, .int .i64 b] 66)).alloc (.cells #[.int .i64 k, .int .i64 a, .int .i64 b] 68)).alloc (.cells #[.int .i64 k, .int .i64 a, .int .i64 b] 68))) := hid (((((Kept.nil w).push _ _).push _ _).push _ _).sub (by simp))
  go_enter Tryd.func38, Tryd.ntmps38
  go_wp2
  exact bodyPost_ret (results_cell_row rfl _ _ (w.heap.size + 1) 68 #[.int .i64 k, .int .i64 a, .int .i64 b] (0, 0) _ rfl (k0.out.at (x := (w.heap.size + 1, #[.int .i64 k, .int .i64 a, .int .i64 b], 68)) (by simp)) Tryd.underlying68 rfl (by kernel_rfl)) rfl ⟨rfl, k0.out.1⟩

/-- The word of a kind of deeds. -/
def wdD (k : Nat) : ByteArray := match k with
  | 1 => ⟨#[103, 105, 118, 101]⟩ | 2 => ⟨#[119, 111, 114, 107]⟩ | 3 => ⟨#[104, 97, 110, 100]⟩ | 4 => ⟨#[100, 101, 108, 105, 118, 101, 114]⟩ | 5 => ⟨#[99, 111, 112, 121]⟩ | 6 => ⟨#[100, 114, 111, 112]⟩ | 7 => ⟨#[115, 97, 118, 101]⟩ | 8 => ⟨#[99, 114, 97, 115, 104]⟩ | _ => ⟨#[]⟩

/-- How many numbers follow it. -/
def nbD (k : Nat) : Nat := if k = 1 ∨ k = 3 then 2 else if k = 7 ∨ k = 8 then 0 else 1

theorem nbD_le (k : Nat) : nbD k ≤ 2 := by unfold nbD; repeat' split
                                           all_goals omega

def spD : ByteArray := ⟨#[32]⟩

/-- A deed's text as far as number j. -/
def ptD (k a b : Nat) : Nat → ByteArray
  | 0 => wdD k
  | j + 1 => ptD k a b j ++ (spD ++ dcT (if j = 0 then a else b))

def txD (k a b : Nat) : ByteArray := ptD k a b (nbD k)

theorem small9 {v : Nat} (h : v ≤ 999) : v < 9223372036854775808 := Nat.lt_of_le_of_lt h (by decide)

theorem wdD_le (k : Nat) : (wdD k).size ≤ 7 := by unfold wdD; split <;> decide

theorem spD_size : spD.size = 1 := rfl

theorem ptD_le (k a b j : Nat) (ha : a ≤ 999) (hb : b ≤ 999) : (ptD k a b j).size ≤ 7 + j * 22 := by
  induction j with
  | zero => exact Nat.le_trans (wdD_le k) (by omega)
  | succ j ih =>
    have h2 : (dcT (if j = 0 then a else b)).size ≤ 21 := dcT_le _ (small9 (by split <;> assumption))
    unfold ptD
    rw [ByteArray.size_append, ByteArray.size_append, spD_size]
    omega

theorem iFormDw (k : Nat) (h1 : 1 ≤ k) (h8 : k ≤ 8) (w : World) : Calls Tryd.prog 85 #[.int .i64 (k : Int)] w fun e w' => e = .returned (.agg #[.string (wdD k), .int .i64 (nbD k : Int)]) ∧ Below w.heap.size w w' := by
  have hx : k = 1 ∨ k = 2 ∨ k = 3 ∨ k = 4 ∨ k = 5 ∨ k = 6 ∨ k = 7 ∨ k = 8 := by omega
  rcases hx with rfl | rfl | rfl | rfl | rfl | rfl | rfl | rfl
  · exact iFormD_1 w
  · exact iFormD_2 w
  · exact iFormD_3 w
  · exact iFormD_4 w
  · exact iFormD_5 w
  · exact iFormD_6 w
  · exact iFormD_7 w
  · exact iFormD_8 w

theorem cutD (n B : Nat) (hn : n ≤ 2) (w : World) : (Instr.slice 137 (.slice (some ⟨B, 0, none⟩) 2 2) none (some (.int .i64 (n : Int))) none).run Tryd.prog w = .ok (.slice (some ⟨B, 0, none⟩) n 2) w := by
  have hx : n = 0 ∨ n = 1 ∨ n = 2 := by omega
  have hu := Tryd.underlying137
  rcases hx with rfl | rfl | rfl <;> go_simp

theorem wrap_j {j : Nat} (h : j < 1000) : wrap64 ((j : Int) + 1) = (j : Int) + 1 := by unfold wrap64; omega

theorem ms_D {j n : Nat} (h : j < n) : n - (intOf (.int .i64 ((j : Int) + 1))).toNat < n - (intOf (.int .i64 (j : Int))).toNat := by
  show n - ((j : Int) + 1).toNat < n - (j : Int).toNat
  omega

theorem dOk_nat {k a b : Int} (h : dOk k a b) : ∃ k' a' b' : Nat, k = k' ∧ a = a' ∧ b = b' ∧ 1 ≤ k' ∧ k' ≤ 8 ∧ a' ≤ 999 ∧ b' ≤ 999 := by
  unfold dOk at h
  exact ⟨k.toNat, a.toNat, b.toNat, by omega, by omega, by omega, by omega, by omega, by omega, by omega⟩

set_option maxRecDepth 100000 in
theorem iText_no (k a b : Int) (h : ¬ dOk k a b) (w : World) :
    Calls Tryd.prog 39 #[.agg #[.int .i64 k, .int .i64 a, .int .i64 b]] w fun e w' => e = .returned (.string ⟨#[]⟩) ∧ Below w.heap.size w w' := by
  have HV := hid (fun w => iDeed k a b false (by simp [h]) w)
  have k0 : Hid (Kept w [(w.heap.size, #[.int .i64 k, .int .i64 a, .int .i64 b], 68)] (w.alloc (.cells #[.int .i64 k, .int .i64 a, .int .i64 b] 68))) := hid (((Kept.nil w).push _ _).sub (by simp))
  clear h
  go_enter Tryd.func39, Tryd.ntmps39
  go_wp2_with (refine wpList_load_row rfl 68 _ rfl w.heap.size rfl 68 #[.int .i64 k, .int .i64 a, .int .i64 b] (0, 0) _ (k0.out.at (x := (w.heap.size, #[.int .i64 k, .int .i64 a, .int .i64 b], 68)) in0) Tryd.underlying68 rfl (by kernel_rfl) ?_)
  refine (HV.out _).mono ?_
  rintro e u1 ⟨rfl, b1⟩
  have k1 := hid (k0.out.stay b1)
  clear b1 k0
  go_wp2
  go_ret
  exact ⟨rfl, k1.out.1⟩

set_option maxRecDepth 100000 in
set_option maxHeartbeats 1000000 in
theorem iText (k a b : Nat) (h1 : 1 ≤ k) (h8 : k ≤ 8) (ha : a ≤ 999) (hb : b ≤ 999) (h : dOk k a b) (w : World) (ht : TabT w) :
    Calls Tryd.prog 39 #[.agg #[.int .i64 (k : Int), .int .i64 (a : Int), .int .i64 (b : Int)]] w fun e w' => e = .returned (.string (txD k a b)) ∧ Below w.heap.size w w' := by
  have HV := hid (fun w => iDeed k a b true (by simp [h]) w)
  have HF := hid (fun w => iFormDw k h1 h8 w)
  have HT := hid ht
  have HA := hid ha
  have HB := hid hb
  have k0 : Hid (Kept w [(w.heap.size, #[.int .i64 (k : Int), .int .i64 (a : Int), .int .i64 (b : Int)], 68)] (w.alloc (.cells #[.int .i64 (k : Int), .int .i64 (a : Int), .int .i64 (b : Int)] 68))) := hid (((Kept.nil w).push _ _).sub (by simp))
  clear h h1 h8 ha hb ht
  unfold txD
  have HN := hid (nbD_le k)
  go_enter Tryd.func39, Tryd.ntmps39
  go_wp2_with (refine wpList_load_row rfl 68 _ rfl w.heap.size rfl 68 #[.int .i64 (k : Int), .int .i64 (a : Int), .int .i64 (b : Int)] (0, 0) _ (k0.out.at (x := (w.heap.size, #[.int .i64 (k : Int), .int .i64 (a : Int), .int .i64 (b : Int)], 68)) in0) Tryd.underlying68 rfl (by kernel_rfl) ?_)
  refine (HV.out _).mono ?_
  rintro e u1 ⟨rfl, b1⟩
  have k1 := hid (k0.out.stay b1)
  clear b1 k0 HV
  have c0 : u1.cell? ⟨w.heap.size, 0, none⟩ = some (.int .i64 (k : Int)) := (cell_of_row _ _ 0 _ _ _ (k1.out.at (x := (w.heap.size, #[.int .i64 (k : Int), .int .i64 (a : Int), .int .i64 (b : Int)], 68)) in0)).trans rfl
  go_wp2_with fail
  refine (HF.out _).mono ?_
  rintro e u2 ⟨rfl, b2⟩
  have k2 := hid (k1.out.stay b2)
  clear b2 k1 HF c0
  have k3 := hid (k2.out.push #[.string (wdD k), .int .i64 (nbD k : Int)] 135)
  have c1 : (u2.alloc (.cells #[.string (wdD k), .int .i64 (nbD k : Int)] 135)).cell? ⟨w.heap.size, 1, none⟩ = some (.int .i64 (a : Int)) := (cell_of_row _ _ 1 _ _ _ (k3.out.at (x := (w.heap.size, #[.int .i64 (k : Int), .int .i64 (a : Int), .int .i64 (b : Int)], 68)) (by simp))).trans rfl
  have c2 : (u2.alloc (.cells #[.string (wdD k), .int .i64 (nbD k : Int)] 135)).cell? ⟨w.heap.size, 2, none⟩ = some (.int .i64 (b : Int)) := (cell_of_row _ _ 2 _ _ _ (k3.out.at (x := (w.heap.size, #[.int .i64 (k : Int), .int .i64 (a : Int), .int .i64 (b : Int)], 68)) (by simp))).trans rfl
  have hsl := fun w => cutD (nbD k) (u2.heap.size + 1) HN.out w
  go_wp2_with fail
  have kf := hid ((k3.out.push #[.int .i64 (a : Int), .int .i64 (b : Int)] 2).sub (l' := [(u2.heap.size + 1, #[.int .i64 (a : Int), .int .i64 (b : Int)], 2)]) (by simp))
  go_loopw [4, 24] (fun t i wr => ∃ j : Nat, j ≤ nbD k ∧ t = .string (ptD k a b j) ∧ i = .int .i64 (j : Int) ∧ Hid (Kept w [(u2.heap.size + 1, #[.int .i64 (a : Int), .int .i64 (b : Int)], 2)] wr)) (fun _ i _ => nbD k - (intOf i).toNat)
  case atStart => exact ⟨0, Nat.zero_le _, rfl, rfl, kf⟩
  case round =>
    clear kf k3 k2 c1 c2 hsl
    obtain ⟨j, hj, rfl, rfl, K⟩ := hrel
    by_cases hlt : j < nbD k
    · have hlt2 : ((j : Int) < (nbD k : Int)) := by omega
      have HL := hid hlt
      have i2 := fun w2 => run_indexAt (P := Tryd.prog) (t := 137) (e := 2) Tryd.underlying137 (m := 1) (by kernel_rfl) (b := u2.heap.size + 1) (o := 0) (n := nbD k) (cap := 2) (k := j) hlt w2
      simp only [Nat.zero_add, Nat.mul_one] at i2
      obtain ⟨v, hv, hv9⟩ : ∃ v : Nat, (v = if j = 0 then a else b) ∧ v ≤ 999 := ⟨_, rfl, by split <;> first | exact HA.out | exact HB.out⟩
      have cv : wr.cell? ⟨u2.heap.size + 1, j, none⟩ = some (.int .i64 (v : Int)) := by
        have hx : j = 0 ∨ j = 1 := by have := HN.out; omega
        rcases hx with rfl | rfl
        · rw [hv, if_pos rfl]; exact (cell_of_row _ _ 0 _ _ _ (K.out.at (x := (u2.heap.size + 1, #[.int .i64 (a : Int), .int .i64 (b : Int)], 2)) in0)).trans rfl
        · rw [hv, if_neg (by decide)]; exact (cell_of_row _ _ 1 _ _ _ (K.out.at (x := (u2.heap.size + 1, #[.int .i64 (a : Int), .int .i64 (b : Int)], 2)) in0)).trans rfl
      have e1 : ptD k a b (j + 1) = ptD k a b j ++ (spD ++ dcT v) := by rw [hv]; rfl
      have hs1 : (dcT v).size ≤ 21 := dcT_le v (small9 hv9)
      have hs2 : (ptD k a b j).size ≤ 51 := Nat.le_trans (ptD_le k a b j HA.out HB.out) (by have := HN.out; omega)
      have hw : wrap64 ((j : Int) + 1) = (j : Int) + 1 := wrap_j (by have := HN.out; omega)
      have HE := hid e1
      have HS1 := hid hs1
      have HS2 := hid hs2
      have HV := hid (fun w ht => shFormat v (small9 hv9) w ht)
      clear hv hv9 hlt e1 hs1 hs2 hj
      go_wp2_with fail
      refine (HV.out _ (HT.out.on K.out.1)).mono ?_
      rintro e u3 ⟨rfl, b3⟩
      have K3 := hid (K.out.stay b3)
      clear b3 K cv i2
      have f1 : (dcT v).size ≤ 9223372036854775806 := Nat.le_trans HS1.out (by decide)
      have f2 : (ptD k a b j).size + (1 + (dcT v).size) ≤ 9223372036854775807 := Nat.le_trans (Nat.add_le_add HS2.out (Nat.add_le_add_left HS1.out 1)) (by decide)
      go_wp2_with fail
      go_roundw
      case rel => exact ⟨j + 1, HL.out, by rw [HE.out, spD], by go_num, K3⟩
      case measure => rw [hw]; exact ms_D HL.out
    · obtain rfl : j = nbD k := by omega
      clear hlt hj
      go_wp2
      go_ret
      exact ⟨rfl, K.out.1⟩

set_option maxRecDepth 100000 in
theorem sText_no (k a b : Int) (h : ¬ dOk k a b) (w : World) :
    Calls Tryd.prog 37 #[.agg #[.int .i64 k, .int .i64 a, .int .i64 b]] w fun e w' => e = .returned (.string ⟨#[]⟩) ∧ Below w.heap.size w w' := by
  have HV := hid (fun w => sDeed k a b false (by simp [h]) w)
  have k0 : Hid (Kept w [(w.heap.size, #[.int .i64 k, .int .i64 a, .int .i64 b], 68)] (w.alloc (.cells #[.int .i64 k, .int .i64 a, .int .i64 b] 68))) := hid (((Kept.nil w).push _ _).sub (by simp))
  clear h
  go_enter Tryd.func37, Tryd.ntmps37
  go_wp2_with (refine wpList_load_row rfl 68 _ rfl w.heap.size rfl 68 #[.int .i64 k, .int .i64 a, .int .i64 b] (0, 0) _ (k0.out.at (x := (w.heap.size, #[.int .i64 k, .int .i64 a, .int .i64 b], 68)) in0) Tryd.underlying68 rfl (by kernel_rfl) ?_)
  refine (HV.out _).mono ?_
  rintro e u1 ⟨rfl, b1⟩
  have k1 := hid (k0.out.stay b1)
  clear b1 k0
  go_wp2
  go_ret
  exact ⟨rfl, k1.out.1⟩

def wsD : Array Value := #[.string { data := #[] }, .string { data := #[103, 105, 118, 101] }, .string { data := #[119, 111, 114, 107] }, .string { data := #[104, 97, 110, 100] }, .string { data := #[100, 101, 108, 105, 118, 101, 114] }, .string { data := #[99, 111, 112, 121] }, .string { data := #[100, 114, 111, 112] }, .string { data := #[115, 97, 118, 101] }, .string { data := #[99, 114, 97, 115, 104] }]

def nsD : Array Value := #[.int .i64 0, .int .i64 2, .int .i64 1, .int .i64 2, .int .i64 1, .int .i64 1, .int .i64 1, .int .i64 0, .int .i64 0]

theorem wsD_at {k : Nat} (h1 : 1 ≤ k) (h8 : k ≤ 8) : wsD[k]? = some (.string (wdD k)) := by
  have hx : k = 1 ∨ k = 2 ∨ k = 3 ∨ k = 4 ∨ k = 5 ∨ k = 6 ∨ k = 7 ∨ k = 8 := by omega
  rcases hx with rfl | rfl | rfl | rfl | rfl | rfl | rfl | rfl <;> rfl

theorem nsD_at {k : Nat} (h1 : 1 ≤ k) (h8 : k ≤ 8) : nsD[k]? = some (.int .i64 (nbD k : Int)) := by
  have hx : k = 1 ∨ k = 2 ∨ k = 3 ∨ k = 4 ∨ k = 5 ∨ k = 6 ∨ k = 7 ∨ k = 8 := by omega
  rcases hx with rfl | rfl | rfl | rfl | rfl | rfl | rfl | rfl <;> rfl

/-- The words and numbers in a later world. -/
theorem sWordsK (w : World) : Calls Tryd.prog 82 #[] w fun e w' => ∃ B1 B2 : Nat, e = .returned (.tuple #[.slice (some ⟨B1, 0, none⟩) 9 9, .slice (some ⟨B2, 0, none⟩) 9 9]) ∧ Kept w [(B2, nsD, 3), (B1, wsD, 9)] w' :=
  (sWordsD w).mono (by
    rintro e w' ⟨rfl, rfl⟩
    exact ⟨w.heap.size, w.heap.size + 1, rfl, by have := ((Kept.nil w).push wsD 9).push nsD 3; rw [show (w.alloc (.cells wsD 9)).heap.size = w.heap.size + 1 from by simp] at this; exact this⟩)

theorem txD_is (k a b : Nat) : txD k a b = if 1 < nbD k then wdD k ++ (spD ++ dcT a) ++ (spD ++ dcT b) else if 0 < nbD k then wdD k ++ (spD ++ dcT a) else wdD k := by
  have h := nbD_le k
  unfold txD
  have hx : nbD k = 0 ∨ nbD k = 1 ∨ nbD k = 2 := by omega
  rcases hx with e | e | e <;> rw [e] <;> rfl

theorem wda_le {x y : ByteArray} (hx : x.size ≤ 7) (hy : y.size ≤ 21) : (x ++ (⟨#[32]⟩ ++ y)).size ≤ 29 := by
  rw [ByteArray.size_append, ByteArray.size_append]
  show _ + (1 + _) ≤ _
  omega

set_option maxRecDepth 100000 in
set_option maxHeartbeats 1000000 in
theorem sText (k a b : Nat) (h1 : 1 ≤ k) (h8 : k ≤ 8) (ha : a ≤ 999) (hb : b ≤ 999) (h : dOk k a b) (w : World) :
    Calls Tryd.prog 37 #[.agg #[.int .i64 (k : Int), .int .i64 (a : Int), .int .i64 (b : Int)]] w fun e w' => e = .returned (.string (txD k a b)) ∧ Below w.heap.size w w' := by
  have HV := hid (fun w => sDeed k a b true (by simp [h]) w)
  have HW := hid (fun w => sWordsK w)
  have HDA := hid (fun w => sDecimal a (small9 ha) w)
  have HDB := hid (fun w => sDecimal b (small9 hb) w)
  have SA := hid (dcT_le a (small9 ha))
  have SB := hid (dcT_le b (small9 hb))
  have SW := hid (wdD_le k)
  have HWS := hid (wsD_at h1 h8)
  have HNS := hid (nsD_at h1 h8)
  have H9 := hid (show k < 9 by omega)
  have k0 : Hid (Kept w [(w.heap.size, #[.int .i64 (k : Int), .int .i64 (a : Int), .int .i64 (b : Int)], 68)] (w.alloc (.cells #[.int .i64 (k : Int), .int .i64 (a : Int), .int .i64 (b : Int)] 68))) := hid (((Kept.nil w).push _ _).sub (by simp))
  clear h h1 h8 ha hb
  obtain ⟨T, hT⟩ : ∃ T, T = txD k a b := ⟨_, rfl⟩
  rw [← hT]
  replace hT := hid hT
  go_enter Tryd.func37, Tryd.ntmps37
  go_wp2_with (refine wpList_load_row rfl 68 _ rfl w.heap.size rfl 68 #[.int .i64 (k : Int), .int .i64 (a : Int), .int .i64 (b : Int)] (0, 0) _ (k0.out.at (x := (w.heap.size, #[.int .i64 (k : Int), .int .i64 (a : Int), .int .i64 (b : Int)], 68)) in0) Tryd.underlying68 rfl (by kernel_rfl) ?_)
  refine (HV.out _).mono ?_
  rintro e u1 ⟨rfl, b1⟩
  have k1 := hid (k0.out.stay b1)
  clear b1 k0 HV
  go_wp2_with fail
  refine (HW.out _).mono ?_
  rintro e u2 ⟨B1, B2, rfl, K2⟩
  have k2 := hid (k1.out.join K2)
  have i1 := fun w2 => run_indexAt (P := Tryd.prog) (t := 82) (e := 9) Tryd.underlying82 (m := 1) (by kernel_rfl) (b := B1) (o := 0) (n := 9) (cap := 9) (k := k) H9.out w2
  have i2 := fun w2 => run_indexAt (P := Tryd.prog) (t := 130) (e := 3) Tryd.underlying130 (m := 1) (by kernel_rfl) (b := B2) (o := 0) (n := 9) (cap := 9) (k := k) H9.out w2
  simp only [Nat.zero_add, Nat.mul_one] at i1 i2
  clear K2 k1
  have hx : nbD k = 0 ∨ nbD k = 1 ∨ nbD k = 2 := by have := nbD_le k; omega
  rcases hx with e | e | e
  · have HN := hid (show (nbD k : Int) = 0 by rw [e]; rfl)
    have c0 : u2.cell? ⟨w.heap.size, 0, none⟩ = some (.int .i64 (k : Int)) := (cell_of_row _ _ 0 _ _ _ (k2.out.at (x := (w.heap.size, #[.int .i64 (k : Int), .int .i64 (a : Int), .int .i64 (b : Int)], 68)) (by simp))).trans rfl
    have c1 : u2.cell? ⟨w.heap.size, 1, none⟩ = some (.int .i64 (a : Int)) := (cell_of_row _ _ 1 _ _ _ (k2.out.at (x := (w.heap.size, #[.int .i64 (k : Int), .int .i64 (a : Int), .int .i64 (b : Int)], 68)) (by simp))).trans rfl
    have c2 : u2.cell? ⟨w.heap.size, 2, none⟩ = some (.int .i64 (b : Int)) := (cell_of_row _ _ 2 _ _ _ (k2.out.at (x := (w.heap.size, #[.int .i64 (k : Int), .int .i64 (a : Int), .int .i64 (b : Int)], 68)) (by simp))).trans rfl
    have cW : u2.cell? ⟨B1, k, none⟩ = some (.string (wdD k)) := (cell_of_row _ _ k _ _ _ (k2.out.at (x := (B1, wsD, 9)) (by simp))).trans HWS.out
    have cN : u2.cell? ⟨B2, k, none⟩ = some (.int .i64 0) := by rw [← HN.out]; exact (cell_of_row _ _ k _ _ _ (k2.out.at (x := (B2, nsD, 3)) (by simp))).trans HNS.out
    go_wp2_with fail
    go_ret
    exact ⟨by rw [hT.out, txD_is, e]; rfl, k2.out.1⟩
  · have HN := hid (show (nbD k : Int) = 1 by rw [e]; rfl)
    have c0 : u2.cell? ⟨w.heap.size, 0, none⟩ = some (.int .i64 (k : Int)) := (cell_of_row _ _ 0 _ _ _ (k2.out.at (x := (w.heap.size, #[.int .i64 (k : Int), .int .i64 (a : Int), .int .i64 (b : Int)], 68)) (by simp))).trans rfl
    have c1 : u2.cell? ⟨w.heap.size, 1, none⟩ = some (.int .i64 (a : Int)) := (cell_of_row _ _ 1 _ _ _ (k2.out.at (x := (w.heap.size, #[.int .i64 (k : Int), .int .i64 (a : Int), .int .i64 (b : Int)], 68)) (by simp))).trans rfl
    have c2 : u2.cell? ⟨w.heap.size, 2, none⟩ = some (.int .i64 (b : Int)) := (cell_of_row _ _ 2 _ _ _ (k2.out.at (x := (w.heap.size, #[.int .i64 (k : Int), .int .i64 (a : Int), .int .i64 (b : Int)], 68)) (by simp))).trans rfl
    have cW : u2.cell? ⟨B1, k, none⟩ = some (.string (wdD k)) := (cell_of_row _ _ k _ _ _ (k2.out.at (x := (B1, wsD, 9)) (by simp))).trans HWS.out
    have cN : u2.cell? ⟨B2, k, none⟩ = some (.int .i64 1) := by rw [← HN.out]; exact (cell_of_row _ _ k _ _ _ (k2.out.at (x := (B2, nsD, 3)) (by simp))).trans HNS.out
    go_wp2_with fail
    refine (HDA.out _).mono ?_
    rintro e u3 ⟨rfl, b3⟩
    have k3 := hid (k2.out.stay b3)
    clear b3 c0 c1 c2 cW cN k2
    have c0 : u3.cell? ⟨w.heap.size, 0, none⟩ = some (.int .i64 (k : Int)) := (cell_of_row _ _ 0 _ _ _ (k3.out.at (x := (w.heap.size, #[.int .i64 (k : Int), .int .i64 (a : Int), .int .i64 (b : Int)], 68)) (by simp))).trans rfl
    have c1 : u3.cell? ⟨w.heap.size, 1, none⟩ = some (.int .i64 (a : Int)) := (cell_of_row _ _ 1 _ _ _ (k3.out.at (x := (w.heap.size, #[.int .i64 (k : Int), .int .i64 (a : Int), .int .i64 (b : Int)], 68)) (by simp))).trans rfl
    have c2 : u3.cell? ⟨w.heap.size, 2, none⟩ = some (.int .i64 (b : Int)) := (cell_of_row _ _ 2 _ _ _ (k3.out.at (x := (w.heap.size, #[.int .i64 (k : Int), .int .i64 (a : Int), .int .i64 (b : Int)], 68)) (by simp))).trans rfl
    have cW : u3.cell? ⟨B1, k, none⟩ = some (.string (wdD k)) := (cell_of_row _ _ k _ _ _ (k3.out.at (x := (B1, wsD, 9)) (by simp))).trans HWS.out
    have cN : u3.cell? ⟨B2, k, none⟩ = some (.int .i64 1) := by rw [← HN.out]; exact (cell_of_row _ _ k _ _ _ (k3.out.at (x := (B2, nsD, 3)) (by simp))).trans HNS.out
    have f1 : (dcT a).size ≤ 9223372036854775806 := Nat.le_trans SA.out (by decide)
    have f2 : (wdD k).size + (1 + (dcT a).size) ≤ 9223372036854775807 := Nat.le_trans (Nat.add_le_add SW.out (Nat.add_le_add_left SA.out 1)) (by decide)
    go_wp2_with fail
    go_ret
    exact ⟨by rw [hT.out, txD_is, e]; rfl, k3.out.1⟩
  · have HN := hid (show (nbD k : Int) = 2 by rw [e]; rfl)
    have c0 : u2.cell? ⟨w.heap.size, 0, none⟩ = some (.int .i64 (k : Int)) := (cell_of_row _ _ 0 _ _ _ (k2.out.at (x := (w.heap.size, #[.int .i64 (k : Int), .int .i64 (a : Int), .int .i64 (b : Int)], 68)) (by simp))).trans rfl
    have c1 : u2.cell? ⟨w.heap.size, 1, none⟩ = some (.int .i64 (a : Int)) := (cell_of_row _ _ 1 _ _ _ (k2.out.at (x := (w.heap.size, #[.int .i64 (k : Int), .int .i64 (a : Int), .int .i64 (b : Int)], 68)) (by simp))).trans rfl
    have c2 : u2.cell? ⟨w.heap.size, 2, none⟩ = some (.int .i64 (b : Int)) := (cell_of_row _ _ 2 _ _ _ (k2.out.at (x := (w.heap.size, #[.int .i64 (k : Int), .int .i64 (a : Int), .int .i64 (b : Int)], 68)) (by simp))).trans rfl
    have cW : u2.cell? ⟨B1, k, none⟩ = some (.string (wdD k)) := (cell_of_row _ _ k _ _ _ (k2.out.at (x := (B1, wsD, 9)) (by simp))).trans HWS.out
    have cN : u2.cell? ⟨B2, k, none⟩ = some (.int .i64 2) := by rw [← HN.out]; exact (cell_of_row _ _ k _ _ _ (k2.out.at (x := (B2, nsD, 3)) (by simp))).trans HNS.out
    go_wp2_with fail
    refine (HDA.out _).mono ?_
    rintro e u3 ⟨rfl, b3⟩
    have k3 := hid (k2.out.stay b3)
    clear b3 c0 c1 c2 cW cN k2
    have c0 : u3.cell? ⟨w.heap.size, 0, none⟩ = some (.int .i64 (k : Int)) := (cell_of_row _ _ 0 _ _ _ (k3.out.at (x := (w.heap.size, #[.int .i64 (k : Int), .int .i64 (a : Int), .int .i64 (b : Int)], 68)) (by simp))).trans rfl
    have c1 : u3.cell? ⟨w.heap.size, 1, none⟩ = some (.int .i64 (a : Int)) := (cell_of_row _ _ 1 _ _ _ (k3.out.at (x := (w.heap.size, #[.int .i64 (k : Int), .int .i64 (a : Int), .int .i64 (b : Int)], 68)) (by simp))).trans rfl
    have c2 : u3.cell? ⟨w.heap.size, 2, none⟩ = some (.int .i64 (b : Int)) := (cell_of_row _ _ 2 _ _ _ (k3.out.at (x := (w.heap.size, #[.int .i64 (k : Int), .int .i64 (a : Int), .int .i64 (b : Int)], 68)) (by simp))).trans rfl
    have cW : u3.cell? ⟨B1, k, none⟩ = some (.string (wdD k)) := (cell_of_row _ _ k _ _ _ (k3.out.at (x := (B1, wsD, 9)) (by simp))).trans HWS.out
    have cN : u3.cell? ⟨B2, k, none⟩ = some (.int .i64 2) := by rw [← HN.out]; exact (cell_of_row _ _ k _ _ _ (k3.out.at (x := (B2, nsD, 3)) (by simp))).trans HNS.out
    have f1 : (dcT a).size ≤ 9223372036854775806 := Nat.le_trans SA.out (by decide)
    have f2 : (wdD k).size + (1 + (dcT a).size) ≤ 9223372036854775807 := Nat.le_trans (Nat.add_le_add SW.out (Nat.add_le_add_left SA.out 1)) (by decide)
    go_wp2_with fail
    refine (HDB.out _).mono ?_
    rintro e u4 ⟨rfl, b4⟩
    have k4 := hid (k3.out.stay b4)
    clear b4 c0 c1 c2 cW cN k3 f1 f2
    have f1 : (dcT b).size ≤ 9223372036854775806 := Nat.le_trans SB.out (by decide)
    have f2 : (wdD k ++ (⟨#[32]⟩ ++ dcT a)).size + (1 + (dcT b).size) ≤ 9223372036854775807 := Nat.le_trans (Nat.add_le_add (wda_le SW.out SA.out) (Nat.add_le_add_left SB.out 1)) (by decide)
    have f3 : (wdD k).size + (1 + (dcT a).size) + (1 + (dcT b).size) ≤ 9223372036854775807 := Nat.le_trans (Nat.add_le_add (Nat.add_le_add SW.out (Nat.add_le_add_left SA.out 1)) (Nat.add_le_add_left SB.out 1)) (by decide)
    go_wp2_with fail
    go_ret
    exact ⟨by rw [hT.out, txD_is, e]; rfl, k4.out.1⟩

theorem lawDeedText (c : Nat → Int) {w : World} (ht : TabT w) :
    Calls Tryd.prog 8 #[.agg #[.int .i64 (c 0), .int .i64 (c 1), .int .i64 (c 2)]] w fun e w' => e = .returned (.bool true) ∧ Below w.heap.size w w' := by
  generalize c 0 = k
  generalize c 1 = a
  generalize c 2 = b
  obtain ⟨T, HI, HS⟩ : ∃ T : ByteArray, Hid (∀ w, TabT w → Calls Tryd.prog 39 #[.agg #[.int .i64 k, .int .i64 a, .int .i64 b]] w fun e w' => e = .returned (.string T) ∧ Below w.heap.size w w') ∧ Hid (∀ w, Calls Tryd.prog 37 #[.agg #[.int .i64 k, .int .i64 a, .int .i64 b]] w fun e w' => e = .returned (.string T) ∧ Below w.heap.size w w') := by
    by_cases h : dOk k a b
    · obtain ⟨k', a', b', rfl, rfl, rfl, h1, h8, ha, hb⟩ := dOk_nat h
      exact ⟨txD k' a' b', hid (fun w ht => iText k' a' b' h1 h8 ha hb h w ht), hid (fun w => sText k' a' b' h1 h8 ha hb h w)⟩
    · exact ⟨⟨#[]⟩, hid (fun w _ => iText_no k a b h w), hid (fun w => sText_no k a b h w)⟩
  have HT := hid ht
  have k0 : Hid (Kept w [(w.heap.size, #[.int .i64 k, .int .i64 a, .int .i64 b], 66)] (w.alloc (.cells #[.int .i64 k, .int .i64 a, .int .i64 b] 66))) := hid (((Kept.nil w).push _ _).sub (by simp))
  clear ht
  go_enter Tryd.func8, Tryd.ntmps8
  go_wp2_with (refine wpList_load_row rfl 66 _ rfl w.heap.size rfl 66 #[.int .i64 k, .int .i64 a, .int .i64 b] (0, 0) _ (k0.out.at (x := (w.heap.size, #[.int .i64 k, .int .i64 a, .int .i64 b], 66)) in0) Tryd.underlying66 rfl (by kernel_rfl) ?_)
  refine (toDeed k a b _).mono ?_
  rintro e u1 ⟨rfl, b1⟩
  have k1 := hid (k0.out.stay b1)
  clear b1 k0
  go_wp2_with fail
  refine (HS.out _).mono ?_
  rintro e u2 ⟨rfl, b2⟩
  have k2 := hid (k1.out.stay b2)
  clear b2 k1
  go_wp2_with (refine wpList_load_row rfl 66 _ rfl w.heap.size rfl 66 #[.int .i64 k, .int .i64 a, .int .i64 b] (0, 0) _ (k2.out.at (x := (w.heap.size, #[.int .i64 k, .int .i64 a, .int .i64 b], 66)) in0) Tryd.underlying66 rfl (by kernel_rfl) ?_)
  refine (toDeed k a b _).mono ?_
  rintro e u3 ⟨rfl, b3⟩
  have k3 := hid (k2.out.stay b3)
  clear b3 k2
  go_wp2_with fail
  refine (HI.out _ (HT.out.on k3.out.1)).mono ?_
  rintro e u4 ⟨rfl, b4⟩
  have k4 := hid (k3.out.stay b4)
  clear b4 k3
  go_wp2
  go_ret
  exact ⟨rfl, k4.out.1⟩

theorem tabT_of_deed {W : World} (h : laidMetH Tryd.prog Rows.fnExactDeedTextRow.laid W) (_hsh : W.ShapedOpen Tryd.prog) : TabT W := by
  rw [MakeChecks.laidMetH_plain _ _ _ (by kernel_rfl)] at h
  have h3 : laidMet Tryd.prog (("internal/strconv.uint64pow10", Go.Lib.tabData .u64 Go.Lib.pow10Tab) :: []) W := laidMet.tail (laidMet.tail h)
  exact Lib.tabIs_of_head (g := 3) (t := 221) (e := 104) (by kernel_rfl) (by kernel_rfl) Tryd.underlying221 Tryd.underlying104 (by kernel_rfl) (by kernel_rfl) h3

theorem wit_deed (os : Os) (args : Array Value) : laidMetH Tryd.prog Rows.fnExactDeedTextRow.laid ((World.laidAll Tryd.prog os Rows.fnExactDeedTextRow.laid).forCall (fun _ _ => 0) ⟨#[], args, []⟩).memory := by
  rw [MakeChecks.laidMetH_plain _ _ _ (by kernel_rfl)]
  exact laidMet_laidAll _ (by kernel_rfl) (by kernel_rfl)

theorem words_cons : ∀ (v : List Char) (r : List Char), (∀ c ∈ v, c ≠ Char.ofNat 32) → wordsSigns (v ++ Char.ofNat 32 :: r) = v :: wordsSigns r
  | [], r, _ => rfl
  | c :: v, r, h => by
    have ih := words_cons v r (fun x hx => h x (by simp [hx]))
    have hc : c ≠ Char.ofNat 32 := h c (by simp)
    show wordsSigns (c :: (v ++ Char.ofNat 32 :: r)) = _
    rw [wordsSigns.eq_3 _ _ (fun e => hc e), ih]

def w0 : List Nat := [104, 97, 114, 110, 101, 115, 115]

def w1 : List Nat := [54, 49, 56, 57, 55, 97, 48, 97, 53, 101, 97, 57, 57, 53, 50, 49, 52, 99, 53, 101, 49, 102, 97, 50, 102, 99, 57, 101, 99, 101, 54, 97, 50, 98, 50, 49, 57, 51, 101, 56, 49, 55, 102, 97, 55, 55, 98, 99, 48, 97, 50, 55, 97, 56, 100, 54, 49, 50, 101, 102, 55, 52, 53, 101]

def w2 : List Nat := [99, 117, 116]

def w3 : List Nat := [97, 116, 32, 108, 111, 111, 112, 46, 101, 120, 97, 109, 112, 108, 101, 47, 103, 48, 49, 50, 50, 52, 47, 108, 97, 119, 115, 46, 70, 110, 69, 120, 97, 99, 116, 82, 101, 97, 100, 83, 105, 122, 101, 115, 32, 108, 111, 111, 112, 46, 101, 120, 97, 109, 112, 108, 101, 47, 103, 48, 49, 50, 50, 52, 47, 108, 97, 119, 115, 46, 70, 110, 69, 120, 97, 99, 116, 82, 101, 97, 100, 65, 105, 114, 32, 108, 111, 111, 112, 46, 101, 120, 97, 109, 112, 108, 101, 47, 103, 48, 49, 50, 50, 52, 47, 108, 97, 119, 115, 46, 70, 110, 69, 120, 97, 99, 116, 82, 101, 97, 100, 75, 101, 114, 110, 101, 108, 32, 108, 111, 111, 112, 46, 101, 120, 97, 109, 112, 108, 101, 47, 103, 48, 49, 50, 50, 52, 47, 108, 97, 119, 115, 46, 70, 110, 67, 108, 97, 115, 115, 101, 115, 32, 108, 111, 111, 112, 46, 101, 120, 97, 109, 112, 108, 101, 47, 103, 48, 49, 50, 50, 52, 47, 108, 97, 119, 115, 46, 70, 110, 69, 120, 97, 99, 116, 67, 111, 108, 117, 109, 110, 84, 101, 120, 116, 32, 108, 111, 111, 112, 46, 101, 120, 97, 109, 112, 108, 101, 47, 103, 48, 49, 50, 50, 52, 47, 108, 97, 119, 115, 46, 70, 110, 69, 120, 97, 99, 116, 68, 101, 101, 100, 84, 101, 120, 116, 32, 108, 111, 111, 112, 46, 101, 120, 97, 109, 112, 108, 101, 47, 103, 48, 49, 50, 50, 52, 47, 108, 97, 119, 115, 46, 70, 110, 69, 120, 97, 99, 116, 82, 101, 97, 100, 68, 101, 101, 100, 32, 108, 111, 111, 112, 46, 101, 120, 97, 109, 112, 108, 101, 47, 103, 48, 49, 50, 50, 52, 47, 108, 97, 119, 115, 46, 70, 110, 69, 120, 97, 99, 116, 65, 99, 116, 84, 101, 120, 116]

def letters (l : List Nat) : List Char := l.map Char.ofNat

theorem head_reads : Tryd.prog.initOrder = String.ofList (letters w0 ++ Char.ofNat 32 :: (letters w1 ++ Char.ofNat 32 :: (letters w2 ++ Char.ofNat 32 :: letters w3))) := by kernel_rfl

theorem no_blank {l : List Nat} (h : l.all (fun n => Char.ofNat n != Char.ofNat 32) = true) : ∀ c ∈ letters l, c ≠ Char.ofNat 32 := by
  intro c hc
  obtain ⟨n, hn, rfl⟩ := List.mem_map.1 hc
  have := List.all_eq_true.1 h n hn
  simpa using this

theorem h0 : letters w0 = "harness".toList := by kernel_rfl

theorem h2 : letters w2 = "cut".toList := by kernel_rfl

theorem sums : isSumSigns (letters w1) = true := by kernel_rfl

theorem words : wordsSigns Tryd.prog.initOrder.toList = "harness".toList :: letters w1 :: "cut".toList :: wordsSigns (letters w3) := by
  rw [head_reads, String.toList_ofList, words_cons _ _ (no_blank (by decide +kernel)), words_cons _ _ (no_blank (by decide +kernel)), words_cons _ _ (no_blank (by decide +kernel)), h0, h2]

theorem behind : ∃ r, behindMainWord (wordsSigns Tryd.prog.initOrder.toList) = "cut".toList :: r := by
  refine ⟨wordsSigns (letters w3), ?_⟩
  rw [words]
  generalize wordsSigns (letters w3) = r
  have hs := sums
  generalize letters w1 = v at hs
  unfold behindMainWord
  simp [hs]

theorem not_later : Tryd.prog.laysLater = false := by kernel_rfl

theorem no_reflect : Tryd.prog.bearsReflect = false := by kernel_rfl

theorem no_doors : Tryd.prog.doorFits [] = true := by kernel_rfl

theorem strips (r : List (List Char)) : stripLifts liftWords ("cut".toList :: r) = ([], "cut".toList :: r) := by kernel_rfl

theorem may_enter_of (P : Program) (r : List (List Char)) (h : behindMainWord (wordsSigns P.initOrder.toList) = "cut".toList :: r) (h1 : P.laysLater = false) (h2 : P.bearsReflect = false) (h3 : P.doorFits [] = true) : P.mayEnter = true := by
  unfold Program.mayEnter
  rw [h]
  dsimp only
  rw [strips, h1, h2, h3]
  kernel_rfl

theorem lifts_final_of (P : Program) (r : List (List Char)) (h : behindMainWord (wordsSigns P.initOrder.toList) = "cut".toList :: r) : P.liftsFinal = false := by
  unfold Program.liftsFinal Program.headLifts
  rw [h]
  dsimp only
  rw [strips]
  kernel_rfl

theorem made_of (P : Program) (r : List (List Char)) (h : behindMainWord (wordsSigns P.initOrder.toList) = "cut".toList :: r) : P.make = some .cut := by
  unfold Program.make
  rw [h]
  kernel_rfl

theorem may_enter : Tryd.prog.mayEnter = true := let ⟨r, h⟩ := behind; may_enter_of _ r h not_later no_reflect no_doors

theorem lifts_final : Tryd.prog.liftsFinal = false := let ⟨r, h⟩ := behind; lifts_final_of _ r h

theorem made : Tryd.prog.make = some .cut := let ⟨r, h⟩ := behind; made_of _ r h

theorem laid : laidOutB Tryd.prog = true := by kernel_rfl

theorem rowed : mapsRowed Tryd.prog = true := by kernel_rfl

theorem no_stops : Tryd.prog.stops = [] := by kernel_rfl

theorem no_knobs : Tryd.prog.stopKnobs = [] := by kernel_rfl

theorem plain_keys : Tryd.prog.plainKeys = true := by kernel_rfl

theorem stops_heard : Tryd.prog.stopsHeard = true := by kernel_rfl

theorem arr1 {α : Type} {cs : Array α} (h : cs.size = 1) : ∃ c0, cs = #[c0] := by
  obtain ⟨l⟩ := cs
  match l, h with
  | [a], _ => exact ⟨a, rfl⟩

theorem own : ownKnob Tryd.prog.godebug = none := by kernel_rfl

theorem cellsD : Tryd.prog.cellsOf 66 = 3 := by kernel_rfl

theorem typesD : Tryd.prog.cellTypes Tryd.prog.depth 66 = some (List.replicate 3 2) := by kernel_rfl

theorem rdd : Tryd.prog.readableRec 66 = true ∧ 66 < Tryd.prog.types.size := ⟨by kernel_rfl, of_decide_eq_true (by kernel_rfl)⟩
end Go.Proofs.YtbbdnmhoagojdaaDoor

namespace Go.Proofs.YtbbdnmhoagojdaaDoor.fnExactDeedText
open Go.RowKit Go.Fl Go.ChangeShapes Go.WideShapes Go.ChangeAt

set_option maxHeartbeats 2000000 in
theorem closed : joinedFacts Tryd.prog 8 Tryd.f8 Rows.fnExactDeedTextSpec Rows.fnExactDeedTextRow = true := by
  unfold joinedFacts
  simp only [Bool.and_eq_true]
  exact ⟨⟨⟨⟨⟨⟨⟨⟨⟨⟨⟨⟨⟨⟨⟨⟨⟨⟨⟨⟨⟨⟨⟨⟨⟨⟨⟨⟨⟨⟨⟨(by as_aux_lemma => kernel_rfl),
    laid⟩,
    rowed⟩,
    (by as_aux_lemma => kernel_rfl)⟩,
    (by as_aux_lemma => kernel_rfl)⟩,
    (by as_aux_lemma => kernel_rfl)⟩,
    (by rw [no_stops]; rfl)⟩,
    (by as_aux_lemma => kernel_rfl)⟩,
    (by rw [no_knobs]; rfl)⟩,
    (by as_aux_lemma => kernel_rfl)⟩,
    (by as_aux_lemma => kernel_rfl)⟩,
    (by as_aux_lemma => kernel_rfl)⟩,
    (by as_aux_lemma => kernel_rfl)⟩,
    (by as_aux_lemma => kernel_rfl)⟩,
    (by as_aux_lemma => kernel_rfl)⟩,
    (by as_aux_lemma => kernel_rfl)⟩,
    (by as_aux_lemma => kernel_rfl)⟩,
    (by as_aux_lemma => kernel_rfl)⟩,
    (by as_aux_lemma => kernel_rfl)⟩,
    (by as_aux_lemma => kernel_rfl)⟩,
    (by as_aux_lemma => kernel_rfl)⟩,
    (by as_aux_lemma => kernel_rfl)⟩,
    (show (Rows.fnExactDeedTextRow.plainKeys == Tryd.prog.plainKeys) = true by rw [plain_keys]; rfl)⟩,
    (by as_aux_lemma => kernel_rfl)⟩,
    stops_heard⟩,
    may_enter⟩,
    (show (Rows.fnExactDeedTextRow.lifted == Tryd.prog.liftsFinal) = true by rw [lifts_final]; rfl)⟩,
    (show (Tryd.prog.make == some Rows.fnExactDeedTextRow.make) = true by rw [made]; rfl)⟩,
    (by as_aux_lemma => kernel_rfl)⟩,
    (by as_aux_lemma => kernel_rfl)⟩,
    (by as_aux_lemma => kernel_rfl)⟩,
    (by as_aux_lemma => kernel_rfl)⟩

set_option maxRecDepth 100000 in
theorem lifted (os : Os) (started : os.Started) (H : Type) (enc : TypeId × Value → H) :
    ReturnsInHanded {} Tryd.checked os 8 .any (fun w args => (Rows.fnExactDeedTextSpec.pre enc Tryd.prog Tryd.f8 Rows.fnExactDeedTextRow.domain false w args ∧ laidMetH Tryd.prog Rows.fnExactDeedTextRow.laid w) ∧ sizedMet enc Tryd.prog Tryd.f8 (OpenSpec.ofChange Rows.fnExactDeedTextSpec) false w args) (Rows.fnExactDeedTextSpec.post enc Tryd.prog Tryd.f8 false true false false) := by
  refine LawFrame.lifted_shaped (C := Tryd.checked) (fn := Tryd.f8) (n := 1) (tb := 4) (laidL := Rows.fnExactDeedTextRow.laid) started own (by kernel_rfl) Tryd.func8 laid ?_ rfl ?_ rfl Tryd.underlying4 ?_
    (ChangeSpec.witness_shaped (enc := enc) (C := Tryd.checked) (os := os) (X := fun w _ => laidMetH Tryd.prog Rows.fnExactDeedTextRow.laid w) false (World.laidAll Tryd.prog os Rows.fnExactDeedTextRow.laid) #[.agg (Array.replicate 3 (.int .i64 0))] 8 (World.laidAll_os _ _ _) (World.shaped_of_ZipB (by kernel_rfl) (by kernel_rfl)) (by kernel_rfl) (by kernel_rfl) (by kernel_rfl) (wit_deed os _)) ?_
  · intro t ht
    simp only [Tryd.params8, List.mem_cons, List.not_mem_nil, or_false] at ht
    subst ht; exact rdd
  · intro ds gs hd hg
    match ds, gs, hd, hg with
    | [d0], [], _, _ => rfl
  · intro W hL
    exact ⟨[], trivial⟩
  · intro W base args ds ps hval hn hT hL hsh
    obtain ⟨v0, rfl⟩ : ∃ v0, args = #[v0] := arr1 hn
    have ht := tabT_of_deed hL hsh
    simp only [Tryd.params8] at hT
    obtain ⟨c0, rfl, hb0⟩ := open_ints Tryd.underlying66 rfl Tryd.underlying2 cellsD typesD (hval 0 66 v0 rfl rfl)
    exact lawDeedText c0 ht

theorem over : Rows.fnExactDeedTextRow.holds Tryd.pinned (OpenSpec.ofChange Rows.fnExactDeedTextSpec) :=
  OpenClaim.holds_of_wide 8 Tryd.f8 rfl rfl rfl rfl rfl rfl rfl ⟨rfl, rfl, rfl, rfl, rfl⟩ rfl rfl rfl rfl rfl (by kernel_rfl) Tryd.func8 closed
    (of_decide_eq_true (by kernel_rfl)) (by unfold Func.isWrapper; rw [if_neg (by decide +kernel)]; exact ⟨rfl, rfl⟩)
    (fun os started H enc _ => lifted os started H enc)

theorem named : Tryd.prog.funcNamed "loop.example/g01224/laws.FnExactDeedText" = some 8 := by kernel_rfl
theorem c_wf : Rows.fnExactDeedTextRow.wfByText (OpenSpec.ofChange Rows.fnExactDeedTextSpec) = true := by kernel_rfl
theorem c_main : Tryd.pinned.checked.prog.mainIs = some (true, "61897a0a5ea995214c5e1fa2fc9ece6a2b2193e817fa77bc0a27a8d612ef745e".toList) := by kernel_rfl
theorem c_looks : true = Tryd.pinned.checked.prog.looks [] := by kernel_rfl
theorem c_goes : false = Rows.fnExactDeedTextRow.goesBy Tryd.pinned.checked.prog := by kernel_rfl
theorem proved : Rows.FnExactDeedTextCardSaid :=
  Claim7.holds_tied_plain_at .later [] [.data, .data, .data] true (true, "61897a0a5ea995214c5e1fa2fc9ece6a2b2193e817fa77bc0a27a8d612ef745e") true
    over (fun _ h => by cases h) c_wf (fun _ h => by cases h) fnExactDeedText_row_tie rfl ⟨rfl, rfl⟩ c_main rfl
    (fun f fn hf hfn => by
      obtain rfl : f = 8 := Option.some.inj (named.symm.trans hf) |>.symm
      obtain rfl : fn = Tryd.f8 := (Option.some.inj (Tryd.func8.symm.trans hfn)).symm
      exact ⟨c_looks, fun j t ht => by
        have hm := Array.mem_of_getElem? ht
        rw [Tryd.params8] at hm
        simp only [List.mem_toArray, List.mem_cons, List.not_mem_nil, or_false] at hm
        subst hm; exact (show Tryd.prog.wantsStandIn 66 = false by kernel_rfl)⟩)
    c_goes
#print axioms proved
end Go.Proofs.YtbbdnmhoagojdaaDoor.fnExactDeedText
