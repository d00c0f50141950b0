import Derived.Test.YthpimindkmmkjaaCValidDeed
import Derived.Test.YthpimindkmmkjaaChecked
import Derived.Test.YthpimindkmmkjaaRows
import Derived.Laws.FloatArith
import Derived.ProofKit
import Derived.WalkKit
import Derived.WalkLawsBesides
import Derived.WalkSpells
import Derived.Deep.QuietTactic
import Derived.BigQuiet
import Derived.Deep.RegionHeld3
import Derived.ChangeKeysEq
import Derived.Laws.BitsAllLaws
import Derived.Deep.MidRow
import Derived.Deep.WholeRow
import Derived.StillTailTactics
import Derived.Deep.Slices
import Derived.ChangeSame
import Derived.OrdersIn
import Derived.ControlIn
import Derived.RangeFuncSeq
import Derived.RangeFuncNested
import Derived.ArgAppend
import Derived.OwnWalkIn
import Derived.TacticsInMore
import Derived.OpenShut
/- The law FnExactValidDeed of chapter 1: at every argument the call returns true, and what was there before it is as it was. -/
namespace Go.Proofs.Ythpimindkmmkjaa
open Go.RowKit Go.Fl

@[go_sem] theorem ext_f64bits (y : Nat) (w : World) : (callFunc 181 #[.float .f64 y]).run Try.prog w = .ok (.value (.int .u64 y)) w := by
  rw [run_callFunc_extern Try.func181 (by kernel_rfl) (by kernel_rfl) (by kernel_rfl) (e := Extern.MathFloatBits.float64bits) (by kernel_rfl)]
  rfl

@[go_sem] theorem ext_f64from (n : Int) (w : World) : (callFunc 188 #[.int .u64 n]).run Try.prog w = .ok (.value (.float .f64 n.toNat)) w := by
  rw [run_callFunc_extern Try.func188 (by kernel_rfl) (by kernel_rfl) (by kernel_rfl) (e := Extern.MathFloatBits.float64frombits) (by kernel_rfl)]
  rfl

theorem hid {p : Prop} (h : p) : Hid p := h

@[go_sem] theorem ext_f32bits (y : Nat) (w : World) : (callFunc 122 #[.float .f32 y]).run Try.prog w = .ok (.value (.int .u32 y)) w := by
  rw [run_callFunc_extern Try.func122 (by kernel_rfl) (by kernel_rfl) (by kernel_rfl) (e := Extern.MathFloatBits.float32bits) (by kernel_rfl)]
  rfl

theorem l00In_t (n a b : Int) (h1 : a ≤ n) (h2 : n ≤ b) (w : World) :
    Calls Try.prog 68 #[.int .i64 n, .int .i64 a, .int .i64 b] w fun e w' => e = .returned (.bool true) ∧ w = w' := by
  go_enter Try.func68, Try.ntmps68
  go_wp2
  go_ret
  exact ⟨by first | rfl | (simp; done) | (simp; omega), rfl⟩

theorem l00In_f (n a b : Int) (hn : ¬ (a ≤ n ∧ n ≤ b)) (w : World) :
    Calls Try.prog 68 #[.int .i64 n, .int .i64 a, .int .i64 b] w fun e w' => e = .returned (.bool false) ∧ w = w' := by
  by_cases h0 : a ≤ n
  · have h3 : b < n := by omega
    clear hn
    go_enter Try.func68, Try.ntmps68
    go_wp2
    go_ret
    exact ⟨by first | rfl | (simp; done) | (simp; omega), rfl⟩
  · have h3 : n < a := by omega
    have h4 : decide (a ≤ n) = false := by simp; omega
    clear hn h0
    go_enter Try.func68, Try.ntmps68
    go_wp2
    go_ret
    exact ⟨by simp, rfl⟩

set_option maxRecDepth 100000 in
theorem iFormD_1 (w : World) : Calls Try.prog 79 #[.int .i64 1] w fun e w' => e = .returned (.agg #[.string { data := #[103, 105, 118, 101] }, .int .i64 2]) ∧ Below w.heap.size w w' := by
  have B := hid ((Below.refl w.heap.size w).alloc (Nat.le_refl _) (.cells #[.string { data := #[103, 105, 118, 101] }, .int .i64 2] 129))
  have k0 := hid ((Kept.nil w).push #[.string { data := #[103, 105, 118, 101] }, .int .i64 2] 129)
  have hix : ∀ w, (Instr.index 203 (.agg #[.string { data := #[] }, .int .i64 0, .string { data := #[103, 105, 118, 101] }, .int .i64 2, .string { data := #[119, 111, 114, 107] }, .int .i64 1, .string { data := #[104, 97, 110, 100] }, .int .i64 2, .string { data := #[100, 101, 108, 105, 118, 101, 114] }, .int .i64 1, .string { data := #[99, 111, 112, 121] }, .int .i64 1, .string { data := #[100, 114, 111, 112] }, .int .i64 1, .string { data := #[115, 97, 118, 101] }, .int .i64 0, .string { data := #[99, 114, 97, 115, 104] }, .int .i64 0]) (.int .i64 1)).run Try.prog w = .ok (.agg #[.string { data := #[103, 105, 118, 101] }, .int .i64 2]) w := fun w => by kernel_rfl
  go_enter Try.func79, Try.ntmps79
  go_wp2
  exact bodyPost_ret (results_cell_row rfl _ _ w.heap.size 129 #[.string { data := #[103, 105, 118, 101] }, .int .i64 2] (0, 0) _ rfl (k0.out.at (x := (w.heap.size, #[.string { data := #[103, 105, 118, 101] }, .int .i64 2], 129)) (by simp)) Try.underlying129 rfl (by kernel_rfl)) rfl ⟨rfl, B.out⟩

set_option maxRecDepth 100000 in
theorem iFormD_2 (w : World) : Calls Try.prog 79 #[.int .i64 2] w fun e w' => e = .returned (.agg #[.string { data := #[119, 111, 114, 107] }, .int .i64 1]) ∧ Below w.heap.size w w' := by
  have B := hid ((Below.refl w.heap.size w).alloc (Nat.le_refl _) (.cells #[.string { data := #[119, 111, 114, 107] }, .int .i64 1] 129))
  have k0 := hid ((Kept.nil w).push #[.string { data := #[119, 111, 114, 107] }, .int .i64 1] 129)
  have hix : ∀ w, (Instr.index 203 (.agg #[.string { data := #[] }, .int .i64 0, .string { data := #[103, 105, 118, 101] }, .int .i64 2, .string { data := #[119, 111, 114, 107] }, .int .i64 1, .string { data := #[104, 97, 110, 100] }, .int .i64 2, .string { data := #[100, 101, 108, 105, 118, 101, 114] }, .int .i64 1, .string { data := #[99, 111, 112, 121] }, .int .i64 1, .string { data := #[100, 114, 111, 112] }, .int .i64 1, .string { data := #[115, 97, 118, 101] }, .int .i64 0, .string { data := #[99, 114, 97, 115, 104] }, .int .i64 0]) (.int .i64 2)).run Try.prog w = .ok (.agg #[.string { data := #[119, 111, 114, 107] }, .int .i64 1]) w := fun w => by kernel_rfl
  go_enter Try.func79, Try.ntmps79
  go_wp2
  exact bodyPost_ret (results_cell_row rfl _ _ w.heap.size 129 #[.string { data := #[119, 111, 114, 107] }, .int .i64 1] (0, 0) _ rfl (k0.out.at (x := (w.heap.size, #[.string { data := #[119, 111, 114, 107] }, .int .i64 1], 129)) (by simp)) Try.underlying129 rfl (by kernel_rfl)) rfl ⟨rfl, B.out⟩

set_option maxRecDepth 100000 in
theorem iFormD_3 (w : World) : Calls Try.prog 79 #[.int .i64 3] w fun e w' => e = .returned (.agg #[.string { data := #[104, 97, 110, 100] }, .int .i64 2]) ∧ Below w.heap.size w w' := by
  have B := hid ((Below.refl w.heap.size w).alloc (Nat.le_refl _) (.cells #[.string { data := #[104, 97, 110, 100] }, .int .i64 2] 129))
  have k0 := hid ((Kept.nil w).push #[.string { data := #[104, 97, 110, 100] }, .int .i64 2] 129)
  have hix : ∀ w, (Instr.index 203 (.agg #[.string { data := #[] }, .int .i64 0, .string { data := #[103, 105, 118, 101] }, .int .i64 2, .string { data := #[119, 111, 114, 107] }, .int .i64 1, .string { data := #[104, 97, 110, 100] }, .int .i64 2, .string { data := #[100, 101, 108, 105, 118, 101, 114] }, .int .i64 1, .string { data := #[99, 111, 112, 121] }, .int .i64 1, .string { data := #[100, 114, 111, 112] }, .int .i64 1, .string { data := #[115, 97, 118, 101] }, .int .i64 0, .string { data := #[99, 114, 97, 115, 104] }, .int .i64 0]) (.int .i64 3)).run Try.prog w = .ok (.agg #[.string { data := #[104, 97, 110, 100] }, .int .i64 2]) w := fun w => by kernel_rfl
  go_enter Try.func79, Try.ntmps79
  go_wp2
  exact bodyPost_ret (results_cell_row rfl _ _ w.heap.size 129 #[.string { data := #[104, 97, 110, 100] }, .int .i64 2] (0, 0) _ rfl (k0.out.at (x := (w.heap.size, #[.string { data := #[104, 97, 110, 100] }, .int .i64 2], 129)) (by simp)) Try.underlying129 rfl (by kernel_rfl)) rfl ⟨rfl, B.out⟩

set_option maxRecDepth 100000 in
theorem iFormD_4 (w : World) : Calls Try.prog 79 #[.int .i64 4] w fun e w' => e = .returned (.agg #[.string { data := #[100, 101, 108, 105, 118, 101, 114] }, .int .i64 1]) ∧ Below w.heap.size w w' := by
  have B := hid ((Below.refl w.heap.size w).alloc (Nat.le_refl _) (.cells #[.string { data := #[100, 101, 108, 105, 118, 101, 114] }, .int .i64 1] 129))
  have k0 := hid ((Kept.nil w).push #[.string { data := #[100, 101, 108, 105, 118, 101, 114] }, .int .i64 1] 129)
  have hix : ∀ w, (Instr.index 203 (.agg #[.string { data := #[] }, .int .i64 0, .string { data := #[103, 105, 118, 101] }, .int .i64 2, .string { data := #[119, 111, 114, 107] }, .int .i64 1, .string { data := #[104, 97, 110, 100] }, .int .i64 2, .string { data := #[100, 101, 108, 105, 118, 101, 114] }, .int .i64 1, .string { data := #[99, 111, 112, 121] }, .int .i64 1, .string { data := #[100, 114, 111, 112] }, .int .i64 1, .string { data := #[115, 97, 118, 101] }, .int .i64 0, .string { data := #[99, 114, 97, 115, 104] }, .int .i64 0]) (.int .i64 4)).run Try.prog w = .ok (.agg #[.string { data := #[100, 101, 108, 105, 118, 101, 114] }, .int .i64 1]) w := fun w => by kernel_rfl
  go_enter Try.func79, Try.ntmps79
  go_wp2
  exact bodyPost_ret (results_cell_row rfl _ _ w.heap.size 129 #[.string { data := #[100, 101, 108, 105, 118, 101, 114] }, .int .i64 1] (0, 0) _ rfl (k0.out.at (x := (w.heap.size, #[.string { data := #[100, 101, 108, 105, 118, 101, 114] }, .int .i64 1], 129)) (by simp)) Try.underlying129 rfl (by kernel_rfl)) rfl ⟨rfl, B.out⟩

set_option maxRecDepth 100000 in
theorem iFormD_5 (w : World) : Calls Try.prog 79 #[.int .i64 5] w fun e w' => e = .returned (.agg #[.string { data := #[99, 111, 112, 121] }, .int .i64 1]) ∧ Below w.heap.size w w' := by
  have B := hid ((Below.refl w.heap.size w).alloc (Nat.le_refl _) (.cells #[.string { data := #[99, 111, 112, 121] }, .int .i64 1] 129))
  have k0 := hid ((Kept.nil w).push #[.string { data := #[99, 111, 112, 121] }, .int .i64 1] 129)
  have hix : ∀ w, (Instr.index 203 (.agg #[.string { data := #[] }, .int .i64 0, .string { data := #[103, 105, 118, 101] }, .int .i64 2, .string { data := #[119, 111, 114, 107] }, .int .i64 1, .string { data := #[104, 97, 110, 100] }, .int .i64 2, .string { data := #[100, 101, 108, 105, 118, 101, 114] }, .int .i64 1, .string { data := #[99, 111, 112, 121] }, .int .i64 1, .string { data := #[100, 114, 111, 112] }, .int .i64 1, .string { data := #[115, 97, 118, 101] }, .int .i64 0, .string { data := #[99, 114, 97, 115, 104] }, .int .i64 0]) (.int .i64 5)).run Try.prog w = .ok (.agg #[.string { data := #[99, 111, 112, 121] }, .int .i64 1]) w := fun w => by kernel_rfl
  go_enter Try.func79, Try.ntmps79
  go_wp2
  exact bodyPost_ret (results_cell_row rfl _ _ w.heap.size 129 #[.string { data := #[99, 111, 112, 121] }, .int .i64 1] (0, 0) _ rfl (k0.out.at (x := (w.heap.size, #[.string { data := #[99, 111, 112, 121] }, .int .i64 1], 129)) (by simp)) Try.underlying129 rfl (by kernel_rfl)) rfl ⟨rfl, B.out⟩

set_option maxRecDepth 100000 in
theorem iFormD_6 (w : World) : Calls Try.prog 79 #[.int .i64 6] w fun e w' => e = .returned (.agg #[.string { data := #[100, 114, 111, 112] }, .int .i64 1]) ∧ Below w.heap.size w w' := by
  have B := hid ((Below.refl w.heap.size w).alloc (Nat.le_refl _) (.cells #[.string { data := #[100, 114, 111, 112] }, .int .i64 1] 129))
  have k0 := hid ((Kept.nil w).push #[.string { data := #[100, 114, 111, 112] }, .int .i64 1] 129)
  have hix : ∀ w, (Instr.index 203 (.agg #[.string { data := #[] }, .int .i64 0, .string { data := #[103, 105, 118, 101] }, .int .i64 2, .string { data := #[119, 111, 114, 107] }, .int .i64 1, .string { data := #[104, 97, 110, 100] }, .int .i64 2, .string { data := #[100, 101, 108, 105, 118, 101, 114] }, .int .i64 1, .string { data := #[99, 111, 112, 121] }, .int .i64 1, .string { data := #[100, 114, 111, 112] }, .int .i64 1, .string { data := #[115, 97, 118, 101] }, .int .i64 0, .string { data := #[99, 114, 97, 115, 104] }, .int .i64 0]) (.int .i64 6)).run Try.prog w = .ok (.agg #[.string { data := #[100, 114, 111, 112] }, .int .i64 1]) w := fun w => by kernel_rfl
  go_enter Try.func79, Try.ntmps79
  go_wp2
  exact bodyPost_ret (results_cell_row rfl _ _ w.heap.size 129 #[.string { data := #[100, 114, 111, 112] }, .int .i64 1] (0, 0) _ rfl (k0.out.at (x := (w.heap.size, #[.string { data := #[100, 114, 111, 112] }, .int .i64 1], 129)) (by simp)) Try.underlying129 rfl (by kernel_rfl)) rfl ⟨rfl, B.out⟩

set_option maxRecDepth 100000 in
theorem iFormD_7 (w : World) : Calls Try.prog 79 #[.int .i64 7] w fun e w' => e = .returned (.agg #[.string { data := #[115, 97, 118, 101] }, .int .i64 0]) ∧ Below w.heap.size w w' := by
  have B := hid ((Below.refl w.heap.size w).alloc (Nat.le_refl _) (.cells #[.string { data := #[115, 97, 118, 101] }, .int .i64 0] 129))
  have k0 := hid ((Kept.nil w).push #[.string { data := #[115, 97, 118, 101] }, .int .i64 0] 129)
  have hix : ∀ w, (Instr.index 203 (.agg #[.string { data := #[] }, .int .i64 0, .string { data := #[103, 105, 118, 101] }, .int .i64 2, .string { data := #[119, 111, 114, 107] }, .int .i64 1, .string { data := #[104, 97, 110, 100] }, .int .i64 2, .string { data := #[100, 101, 108, 105, 118, 101, 114] }, .int .i64 1, .string { data := #[99, 111, 112, 121] }, .int .i64 1, .string { data := #[100, 114, 111, 112] }, .int .i64 1, .string { data := #[115, 97, 118, 101] }, .int .i64 0, .string { data := #[99, 114, 97, 115, 104] }, .int .i64 0]) (.int .i64 7)).run Try.prog w = .ok (.agg #[.string { data := #[115, 97, 118, 101] }, .int .i64 0]) w := fun w => by kernel_rfl
  go_enter Try.func79, Try.ntmps79
  go_wp2
  exact bodyPost_ret (results_cell_row rfl _ _ w.heap.size 129 #[.string { data := #[115, 97, 118, 101] }, .int .i64 0] (0, 0) _ rfl (k0.out.at (x := (w.heap.size, #[.string { data := #[115, 97, 118, 101] }, .int .i64 0], 129)) (by simp)) Try.underlying129 rfl (by kernel_rfl)) rfl ⟨rfl, B.out⟩

set_option maxRecDepth 100000 in
theorem iFormD_8 (w : World) : Calls Try.prog 79 #[.int .i64 8] w fun e w' => e = .returned (.agg #[.string { data := #[99, 114, 97, 115, 104] }, .int .i64 0]) ∧ Below w.heap.size w w' := by
  have B := hid ((Below.refl w.heap.size w).alloc (Nat.le_refl _) (.cells #[.string { data := #[99, 114, 97, 115, 104] }, .int .i64 0] 129))
  have k0 := hid ((Kept.nil w).push #[.string { data := #[99, 114, 97, 115, 104] }, .int .i64 0] 129)
  have hix : ∀ w, (Instr.index 203 (.agg #[.string { data := #[] }, .int .i64 0, .string { data := #[103, 105, 118, 101] }, .int .i64 2, .string { data := #[119, 111, 114, 107] }, .int .i64 1, .string { data := #[104, 97, 110, 100] }, .int .i64 2, .string { data := #[100, 101, 108, 105, 118, 101, 114] }, .int .i64 1, .string { data := #[99, 111, 112, 121] }, .int .i64 1, .string { data := #[100, 114, 111, 112] }, .int .i64 1, .string { data := #[115, 97, 118, 101] }, .int .i64 0, .string { data := #[99, 114, 97, 115, 104] }, .int .i64 0]) (.int .i64 8)).run Try.prog w = .ok (.agg #[.string { data := #[99, 114, 97, 115, 104] }, .int .i64 0]) w := fun w => by kernel_rfl
  go_enter Try.func79, Try.ntmps79
  go_wp2
  exact bodyPost_ret (results_cell_row rfl _ _ w.heap.size 129 #[.string { data := #[99, 114, 97, 115, 104] }, .int .i64 0] (0, 0) _ rfl (k0.out.at (x := (w.heap.size, #[.string { data := #[99, 114, 97, 115, 104] }, .int .i64 0], 129)) (by simp)) Try.underlying129 rfl (by kernel_rfl)) rfl ⟨rfl, B.out⟩

def nkD (k : Int) : Int := if k = 1 ∨ k = 3 then 2 else if k = 7 ∨ k = 8 then 0 else 1

def dOk (k a b : Int) : Prop := 1 ≤ k ∧ k ≤ 8 ∧ 0 ≤ a ∧ a ≤ 999 ∧ 0 ≤ b ∧ b ≤ 999 ∧ (0 < nkD k ∨ a = 0) ∧ (1 < nkD k ∨ b = 0)

theorem iFormD (k : Int) (h1 : 1 ≤ k) (h8 : k ≤ 8) : ∃ s, ∀ w, Calls Try.prog 79 #[.int .i64 k] w fun e w' => e = .returned (.agg #[.string s, .int .i64 (nkD k)]) ∧ Below w.heap.size w w' := by
  have hx : k = 1 ∨ k = 2 ∨ k = 3 ∨ k = 4 ∨ k = 5 ∨ k = 6 ∨ k = 7 ∨ k = 8 := by omega
  rcases hx with rfl | rfl | rfl | rfl | rfl | rfl | rfl | rfl
  · exact ⟨_, fun w => iFormD_1 w⟩
  · exact ⟨_, fun w => iFormD_2 w⟩
  · exact ⟨_, fun w => iFormD_3 w⟩
  · exact ⟨_, fun w => iFormD_4 w⟩
  · exact ⟨_, fun w => iFormD_5 w⟩
  · exact ⟨_, fun w => iFormD_6 w⟩
  · exact ⟨_, fun w => iFormD_7 w⟩
  · exact ⟨_, fun w => iFormD_8 w⟩

set_option maxRecDepth 100000 in
theorem iDeed_r (k a b : Int) (h : k < 1 ∨ 8 < k) (w : World) :
    Calls Try.prog 31 #[.agg #[.int .i64 k, .int .i64 a, .int .i64 b]] w fun e w' => e = .returned (.bool false) ∧ Below w.heap.size w w' := by
  have k0 : Hid (Kept w [(w.heap.size, #[.int .i64 k, .int .i64 a, .int .i64 b], 57)] (w.alloc (.cells #[.int .i64 k, .int .i64 a, .int .i64 b] 57))) := hid (((Kept.nil w).push _ _).sub (by simp))
  by_cases h1 : k < 1
  · clear h
    go_enter Try.func31, Try.ntmps31
    go_wp2
    go_ret
    exact ⟨rfl, k0.out.1⟩
  · have h2 : 8 < k := by omega
    clear h
    go_enter Try.func31, Try.ntmps31
    go_wp2
    go_ret
    exact ⟨rfl, k0.out.1⟩

set_option maxRecDepth 100000 in
set_option maxHeartbeats 2000000 in
theorem iDeed_n (k a b n : Int) (s : ByteArray) (H1 : Hid (¬ k < 1)) (H2 : Hid (¬ 8 < k)) (HN : n = 0 ∨ n = 1 ∨ n = 2)
    (HF : Hid (∀ w, Calls Try.prog 79 #[.int .i64 k] w fun e w' => e = .returned (.agg #[.string s, .int .i64 n]) ∧ Below w.heap.size w w'))
    (q : Bool) (HQ : Hid (q = true ↔ 0 ≤ a ∧ a ≤ 999 ∧ 0 ≤ b ∧ b ≤ 999 ∧ (0 < n ∨ a = 0) ∧ (1 < n ∨ b = 0))) (w : World) :
    Calls Try.prog 31 #[.agg #[.int .i64 k, .int .i64 a, .int .i64 b]] w fun e w' => e = .returned (.bool q) ∧ Below w.heap.size w w' := by
  have k0 : Hid (Kept w [(w.heap.size, #[.int .i64 k, .int .i64 a, .int .i64 b], 57)] (w.alloc (.cells #[.int .i64 k, .int .i64 a, .int .i64 b] 57))) := hid (((Kept.nil w).push _ _).sub (by simp))
  have h1 := H1.out
  have h2 := H2.out
  go_enter Try.func31, Try.ntmps31
  go_wp2_with fail
  refine (HF.out _).mono ?_
  rintro e u1 ⟨rfl, hb1⟩
  have k1 := hid (k0.out.stay hb1)
  clear hb1 k0 h1 h2
  have kf := hid (k1.out.push #[.string s, .int .i64 n] 129)
  have c1 : (u1.alloc (.cells #[.string s, .int .i64 n] 129)).cell? ⟨w.heap.size, 1, none⟩ = some (.int .i64 a) := (cell_of_row _ _ 1 _ _ _ (kf.out.at (x := (w.heap.size, #[.int .i64 k, .int .i64 a, .int .i64 b], 57)) (by simp))).trans rfl
  have c2 : (u1.alloc (.cells #[.string s, .int .i64 n] 129)).cell? ⟨w.heap.size, 2, none⟩ = some (.int .i64 b) := (cell_of_row _ _ 2 _ _ _ (kf.out.at (x := (w.heap.size, #[.int .i64 k, .int .i64 a, .int .i64 b], 57)) (by simp))).trans rfl
  go_wp2_with fail
  go_loopw [22] (fun i wr => ∃ j : Nat, j ≤ 2 ∧ i = .int .i64 j ∧ Hid ((1 ≤ j → 0 ≤ a ∧ a ≤ 999 ∧ (0 < n ∨ a = 0)) ∧ (2 ≤ j → 0 ≤ b ∧ b ≤ 999 ∧ (1 < n ∨ b = 0))) ∧ Hid (Kept w [(u1.heap.size, #[.string s, .int .i64 n], 129)] wr)) (fun i _ => 2 - (intOf i).toNat)
  case atStart => exact ⟨0, by omega, rfl, hid ⟨by omega, by omega⟩, hid (kf.out.sub (by simp))⟩
  case round =>
    clear kf k1 c1 c2
    obtain ⟨j, hj, rfl, J, K⟩ := hrel
    have hx0 : ∀ w, (Instr.index 131 (.agg #[.int .i64 a, .int .i64 b]) (.int .i64 0)).run Try.prog w = .ok (.int .i64 a) w := fun w => by rfl
    have hx1 : ∀ w, (Instr.index 131 (.agg #[.int .i64 a, .int .i64 b]) (.int .i64 1)).run Try.prog w = .ok (.int .i64 b) w := fun w => by rfl
    have f1 : wr.cell? ⟨u1.heap.size, 1, none⟩ = some (.int .i64 n) := (cell_of_row wr _ 1 _ _ _ (K.out.at (x := (u1.heap.size, #[.string s, .int .i64 n], 129)) (by simp))).trans rfl
    have hx : j = 0 ∨ j = 1 ∨ j = 2 := by omega
    rcases hx with rfl | rfl | rfl

    · by_cases g1 : a < 0
      · obtain rfl : q = false := by
          rcases q with _ | _
          · rfl
          · have := HQ.out.1 rfl; omega
        go_wp2
        go_ret
        exact ⟨rfl, K.out.1⟩
      by_cases g2 : 999 < a
      · obtain rfl : q = false := by
          rcases q with _ | _
          · rfl
          · have := HQ.out.1 rfl; omega
        go_wp2
        go_ret
        exact ⟨rfl, K.out.1⟩
      by_cases g3 : n ≤ 0
      · by_cases g4 : a = 0
        · subst g4
          have G := hid g3
          go_wp2
          go_roundw
          case rel => exact ⟨1, by omega, by go_num, hid ⟨fun _ => ⟨by decide, by decide, .inr (by first | trivial | rfl)⟩, fun h => absurd h (by omega)⟩, K⟩
          case measure => simp [intOf]
        · obtain rfl : q = false := by
            rcases q with _ | _
            · rfl
            · have := HQ.out.1 rfl; omega
          go_wp2
          go_ret
          exact ⟨rfl, K.out.1⟩
      · have G := hid (show ¬ n ≤ 0 from g3)
        have G1 := hid g1
        have G2 := hid g2
        go_wp2
        go_roundw
        case rel => exact ⟨1, by omega, by go_num, hid ⟨fun _ => ⟨by have := G1.out; omega, by have := G2.out; omega, .inl (by have := G.out; omega)⟩, fun h => absurd h (by omega)⟩, K⟩
        case measure => simp [intOf]

    · by_cases g1 : b < 0
      · obtain rfl : q = false := by
          rcases q with _ | _
          · rfl
          · have := HQ.out.1 rfl; omega
        go_wp2
        go_ret
        exact ⟨rfl, K.out.1⟩
      by_cases g2 : 999 < b
      · obtain rfl : q = false := by
          rcases q with _ | _
          · rfl
          · have := HQ.out.1 rfl; omega
        go_wp2
        go_ret
        exact ⟨rfl, K.out.1⟩
      by_cases g3 : n ≤ 1
      · by_cases g4 : b = 0
        · subst g4
          have G := hid g3
          go_wp2
          go_roundw
          case rel => exact ⟨2, by omega, by go_num, hid ⟨fun _ => J.out.1 (by omega), fun _ => ⟨by decide, by decide, .inr (by first | trivial | rfl)⟩⟩, K⟩
          case measure => simp [intOf]
        · obtain rfl : q = false := by
            rcases q with _ | _
            · rfl
            · have := HQ.out.1 rfl; omega
          go_wp2
          go_ret
          exact ⟨rfl, K.out.1⟩
      · have G := hid (show ¬ n ≤ 1 from g3)
        have G1 := hid g1
        have G2 := hid g2
        go_wp2
        go_roundw
        case rel => exact ⟨2, by omega, by go_num, hid ⟨fun _ => J.out.1 (by omega), fun _ => ⟨by have := G1.out; omega, by have := G2.out; omega, .inl (by have := G.out; omega)⟩⟩, K⟩
        case measure => simp [intOf]

    · obtain rfl : q = true := HQ.out.2 (by have := J.out.1 (by omega); have := J.out.2 (by omega); omega)
      go_wp2
      go_ret
      exact ⟨rfl, K.out.1⟩

theorem iDeed (k a b : Int) (q : Bool) (hq : q = true ↔ dOk k a b) (w : World) :
    Calls Try.prog 31 #[.agg #[.int .i64 k, .int .i64 a, .int .i64 b]] w fun e w' => e = .returned (.bool q) ∧ Below w.heap.size w w' := by
  by_cases h : k < 1 ∨ 8 < k
  · obtain rfl : q = false := by
      rcases q with _ | _
      · rfl
      · have := hq.1 rfl; unfold dOk at this; omega
    exact iDeed_r k a b h w
  · obtain ⟨s, hf⟩ := iFormD k (by omega) (by omega)
    refine iDeed_n k a b (nkD k) s (hid (by omega)) (hid (by omega)) ?_ (hid hf) q (hid ?_) w
    · unfold nkD; repeat' split
      all_goals omega
    · rw [hq]; unfold dOk; omega

set_option maxRecDepth 100000 in
theorem sWordsD (w : World) : Calls Try.prog 131 #[] w fun e w' => e = .returned (.tuple #[.slice (some ⟨w.heap.size, 0, none⟩) 9 9, .slice (some ⟨w.heap.size + 1, 0, none⟩) 9 9]) ∧ w' = ((w.alloc (.cells #[.string { data := #[] }, .string { data := #[103, 105, 118, 101] }, .string { data := #[119, 111, 114, 107] }, .string { data := #[104, 97, 110, 100] }, .string { data := #[100, 101, 108, 105, 118, 101, 114] }, .string { data := #[99, 111, 112, 121] }, .string { data := #[100, 114, 111, 112] }, .string { data := #[115, 97, 118, 101] }, .string { data := #[99, 114, 97, 115, 104] }] 9)).alloc (.cells #[.int .i64 0, .int .i64 2, .int .i64 1, .int .i64 2, .int .i64 1, .int .i64 1, .int .i64 1, .int .i64 0, .int .i64 0] 3)) := by
  go_enter Try.func131, Try.ntmps131
  go_wp2
  exact bodyPost_ret (results_tmp2 rfl _ _ _) rfl ⟨rfl, rfl⟩

theorem sDeed_k (k a b : Int) (h : ¬ (1 ≤ k ∧ k ≤ 8)) (w : World) :
    Calls Try.prog 78 #[.agg #[.int .i64 k, .int .i64 a, .int .i64 b]] w fun e w' => e = .returned (.bool false) ∧ Below w.heap.size w w' := by
  have k0 : Hid (Kept w [(w.heap.size, #[.int .i64 k, .int .i64 a, .int .i64 b], 57)] (w.alloc (.cells #[.int .i64 k, .int .i64 a, .int .i64 b] 57))) := hid (((Kept.nil w).push _ _).sub (by simp))
  have H := hid h
  clear h
  go_enter Try.func78, Try.ntmps78
  go_wp2_with fail
  refine (l00In_f k 1 8 H.out _).mono ?_
  rintro e u0 ⟨rfl, rfl⟩
  go_wp2
  go_ret
  exact ⟨rfl, k0.out.1⟩

theorem sDeed_a (k a b : Int) (h : 1 ≤ k ∧ k ≤ 8) (ha : ¬ (0 ≤ a ∧ a ≤ 999)) (w : World) :
    Calls Try.prog 78 #[.agg #[.int .i64 k, .int .i64 a, .int .i64 b]] w fun e w' => e = .returned (.bool false) ∧ Below w.heap.size w w' := by
  have k0 : Hid (Kept w [(w.heap.size, #[.int .i64 k, .int .i64 a, .int .i64 b], 57)] (w.alloc (.cells #[.int .i64 k, .int .i64 a, .int .i64 b] 57))) := hid (((Kept.nil w).push _ _).sub (by simp))
  have H := hid h
  have HA := hid ha
  clear h ha
  go_enter Try.func78, Try.ntmps78
  go_wp2_with fail
  refine (l00In_t k 1 8 H.out.1 H.out.2 _).mono ?_
  rintro e u0 ⟨rfl, rfl⟩
  go_wp2_with fail
  refine (l00In_f a 0 999 HA.out _).mono ?_
  rintro e u0 ⟨rfl, rfl⟩
  go_wp2
  go_ret
  exact ⟨rfl, k0.out.1⟩

theorem sDeed_b (k a b : Int) (h : 1 ≤ k ∧ k ≤ 8) (ha : 0 ≤ a ∧ a ≤ 999) (hb : ¬ (0 ≤ b ∧ b ≤ 999)) (w : World) :
    Calls Try.prog 78 #[.agg #[.int .i64 k, .int .i64 a, .int .i64 b]] w fun e w' => e = .returned (.bool false) ∧ Below w.heap.size w w' := by
  have k0 : Hid (Kept w [(w.heap.size, #[.int .i64 k, .int .i64 a, .int .i64 b], 57)] (w.alloc (.cells #[.int .i64 k, .int .i64 a, .int .i64 b] 57))) := hid (((Kept.nil w).push _ _).sub (by simp))
  have H := hid h
  have HA := hid ha
  have HB := hid hb
  clear h ha hb
  go_enter Try.func78, Try.ntmps78
  go_wp2_with fail
  refine (l00In_t k 1 8 H.out.1 H.out.2 _).mono ?_
  rintro e u0 ⟨rfl, rfl⟩
  go_wp2_with fail
  refine (l00In_t a 0 999 HA.out.1 HA.out.2 _).mono ?_
  rintro e u0 ⟨rfl, rfl⟩
  go_wp2_with fail
  refine (l00In_f b 0 999 HB.out _).mono ?_
  rintro e u0 ⟨rfl, rfl⟩
  go_wp2
  go_ret
  exact ⟨rfl, k0.out.1⟩

set_option maxRecDepth 100000 in
set_option maxHeartbeats 2000000 in
theorem sDeed_1 (a b : Int) (ha : 0 ≤ a ∧ a ≤ 999) (hb : 0 ≤ b ∧ b ≤ 999) (q : Bool) (hq : q = true ↔ (True ∨ a = 0) ∧ (True ∨ b = 0)) (w : World) :
    Calls Try.prog 78 #[.agg #[.int .i64 1, .int .i64 a, .int .i64 b]] w fun e w' => e = .returned (.bool q) ∧ Below w.heap.size w w' := by
  have k0 : Hid (Kept w [(w.heap.size, #[.int .i64 1, .int .i64 a, .int .i64 b], 57)] (w.alloc (.cells #[.int .i64 1, .int .i64 a, .int .i64 b] 57))) := hid (((Kept.nil w).push _ _).sub (by simp))
  have HA := hid ha
  have HB := hid hb
  have HQ := hid hq
  clear ha hb hq
  go_enter Try.func78, Try.ntmps78
  go_wp2_with fail
  refine (l00In_t 1 1 8 (by decide) (by decide) _).mono ?_
  rintro e u0 ⟨rfl, rfl⟩
  go_wp2_with fail
  refine (l00In_t a 0 999 HA.out.1 HA.out.2 _).mono ?_
  rintro e u0 ⟨rfl, rfl⟩
  go_wp2_with fail
  refine (l00In_t b 0 999 HB.out.1 HB.out.2 _).mono ?_
  rintro e u0 ⟨rfl, rfl⟩
  go_wp2_with fail
  refine (sWordsD _).mono ?_
  rintro e u3 ⟨rfl, h3⟩
  have k3 : Hid (Kept w [(w.heap.size, #[.int .i64 1, .int .i64 a, .int .i64 b], 57), ((w.alloc (.cells #[.int .i64 1, .int .i64 a, .int .i64 b] 57)).heap.size + 1, #[.int .i64 0, .int .i64 2, .int .i64 1, .int .i64 2, .int .i64 1, .int .i64 1, .int .i64 1, .int .i64 0, .int .i64 0], 3)] u3) := hid (by rw [h3]; exact (((k0.out.push #[.string { data := #[] }, .string { data := #[103, 105, 118, 101] }, .string { data := #[119, 111, 114, 107] }, .string { data := #[104, 97, 110, 100] }, .string { data := #[100, 101, 108, 105, 118, 101, 114] }, .string { data := #[99, 111, 112, 121] }, .string { data := #[100, 114, 111, 112] }, .string { data := #[115, 97, 118, 101] }, .string { data := #[99, 114, 97, 115, 104] }] 9).push #[.int .i64 0, .int .i64 2, .int .i64 1, .int .i64 2, .int .i64 1, .int .i64 1, .int .i64 1, .int .i64 0, .int .i64 0] 3)).sub (by simp))
  clear h3
  have c0 : u3.cell? ⟨w.heap.size, 0, none⟩ = some (.int .i64 1) := (cell_of_row u3 _ 0 _ _ _ (k3.out.at (x := (w.heap.size, #[.int .i64 1, .int .i64 a, .int .i64 b], 57)) (by simp))).trans rfl
  have c1 : u3.cell? ⟨w.heap.size, 1, none⟩ = some (.int .i64 a) := (cell_of_row u3 _ 1 _ _ _ (k3.out.at (x := (w.heap.size, #[.int .i64 1, .int .i64 a, .int .i64 b], 57)) (by simp))).trans rfl
  have c2 : u3.cell? ⟨w.heap.size, 2, none⟩ = some (.int .i64 b) := (cell_of_row u3 _ 2 _ _ _ (k3.out.at (x := (w.heap.size, #[.int .i64 1, .int .i64 a, .int .i64 b], 57)) (by simp))).trans rfl
  have d2 : u3.cell? ⟨(w.alloc (.cells #[.int .i64 1, .int .i64 a, .int .i64 b] 57)).heap.size + 1, 1, none⟩ = some (.int .i64 2) := (cell_of_row u3 _ 1 _ _ _ (k3.out.at (x := ((w.alloc (.cells #[.int .i64 1, .int .i64 a, .int .i64 b] 57)).heap.size + 1, #[.int .i64 0, .int .i64 2, .int .i64 1, .int .i64 2, .int .i64 1, .int .i64 1, .int .i64 1, .int .i64 0, .int .i64 0], 3)) (by simp))).trans rfl
  have i2 := fun w2 => run_indexAt (P := Try.prog) (t := 200) (e := 3) Try.underlying200 (m := 1) (by kernel_rfl) (b := (w.alloc (.cells #[.int .i64 1, .int .i64 a, .int .i64 b] 57)).heap.size + 1) (o := 0) (n := 9) (cap := 9) (k := 1) (by omega) w2
  simp only [Nat.zero_add, Nat.mul_one, show ((1 : Nat) : Int) = 1 from rfl] at i2
  have hz : (w.alloc (.cells #[.int .i64 1, .int .i64 a, .int .i64 b] 57)).heap.size = w.heap.size + 1 := by simp
  rw [hz] at d2 i2
  clear hz k0
  obtain rfl : q = true := HQ.out.2 (by simp)
  clear HQ
  go_wp2_with fail
  go_ret
  exact ⟨rfl, k3.out.1⟩

set_option maxRecDepth 100000 in
set_option maxHeartbeats 2000000 in
theorem sDeed_2 (a b : Int) (ha : 0 ≤ a ∧ a ≤ 999) (hb : 0 ≤ b ∧ b ≤ 999) (q : Bool) (hq : q = true ↔ (True ∨ a = 0) ∧ (False ∨ b = 0)) (w : World) :
    Calls Try.prog 78 #[.agg #[.int .i64 2, .int .i64 a, .int .i64 b]] w fun e w' => e = .returned (.bool q) ∧ Below w.heap.size w w' := by
  have k0 : Hid (Kept w [(w.heap.size, #[.int .i64 2, .int .i64 a, .int .i64 b], 57)] (w.alloc (.cells #[.int .i64 2, .int .i64 a, .int .i64 b] 57))) := hid (((Kept.nil w).push _ _).sub (by simp))
  have HA := hid ha
  have HB := hid hb
  have HQ := hid hq
  clear ha hb hq
  go_enter Try.func78, Try.ntmps78
  go_wp2_with fail
  refine (l00In_t 2 1 8 (by decide) (by decide) _).mono ?_
  rintro e u0 ⟨rfl, rfl⟩
  go_wp2_with fail
  refine (l00In_t a 0 999 HA.out.1 HA.out.2 _).mono ?_
  rintro e u0 ⟨rfl, rfl⟩
  go_wp2_with fail
  refine (l00In_t b 0 999 HB.out.1 HB.out.2 _).mono ?_
  rintro e u0 ⟨rfl, rfl⟩
  go_wp2_with fail
  refine (sWordsD _).mono ?_
  rintro e u3 ⟨rfl, h3⟩
  have k3 : Hid (Kept w [(w.heap.size, #[.int .i64 2, .int .i64 a, .int .i64 b], 57), ((w.alloc (.cells #[.int .i64 2, .int .i64 a, .int .i64 b] 57)).heap.size + 1, #[.int .i64 0, .int .i64 2, .int .i64 1, .int .i64 2, .int .i64 1, .int .i64 1, .int .i64 1, .int .i64 0, .int .i64 0], 3)] u3) := hid (by rw [h3]; exact (((k0.out.push #[.string { data := #[] }, .string { data := #[103, 105, 118, 101] }, .string { data := #[119, 111, 114, 107] }, .string { data := #[104, 97, 110, 100] }, .string { data := #[100, 101, 108, 105, 118, 101, 114] }, .string { data := #[99, 111, 112, 121] }, .string { data := #[100, 114, 111, 112] }, .string { data := #[115, 97, 118, 101] }, .string { data := #[99, 114, 97, 115, 104] }] 9).push #[.int .i64 0, .int .i64 2, .int .i64 1, .int .i64 2, .int .i64 1, .int .i64 1, .int .i64 1, .int .i64 0, .int .i64 0] 3)).sub (by simp))
  clear h3
  have c0 : u3.cell? ⟨w.heap.size, 0, none⟩ = some (.int .i64 2) := (cell_of_row u3 _ 0 _ _ _ (k3.out.at (x := (w.heap.size, #[.int .i64 2, .int .i64 a, .int .i64 b], 57)) (by simp))).trans rfl
  have c1 : u3.cell? ⟨w.heap.size, 1, none⟩ = some (.int .i64 a) := (cell_of_row u3 _ 1 _ _ _ (k3.out.at (x := (w.heap.size, #[.int .i64 2, .int .i64 a, .int .i64 b], 57)) (by simp))).trans rfl
  have c2 : u3.cell? ⟨w.heap.size, 2, none⟩ = some (.int .i64 b) := (cell_of_row u3 _ 2 _ _ _ (k3.out.at (x := (w.heap.size, #[.int .i64 2, .int .i64 a, .int .i64 b], 57)) (by simp))).trans rfl
  have d2 : u3.cell? ⟨(w.alloc (.cells #[.int .i64 2, .int .i64 a, .int .i64 b] 57)).heap.size + 1, 2, none⟩ = some (.int .i64 1) := (cell_of_row u3 _ 2 _ _ _ (k3.out.at (x := ((w.alloc (.cells #[.int .i64 2, .int .i64 a, .int .i64 b] 57)).heap.size + 1, #[.int .i64 0, .int .i64 2, .int .i64 1, .int .i64 2, .int .i64 1, .int .i64 1, .int .i64 1, .int .i64 0, .int .i64 0], 3)) (by simp))).trans rfl
  have i2 := fun w2 => run_indexAt (P := Try.prog) (t := 200) (e := 3) Try.underlying200 (m := 1) (by kernel_rfl) (b := (w.alloc (.cells #[.int .i64 2, .int .i64 a, .int .i64 b] 57)).heap.size + 1) (o := 0) (n := 9) (cap := 9) (k := 2) (by omega) w2
  simp only [Nat.zero_add, Nat.mul_one, show ((2 : Nat) : Int) = 2 from rfl] at i2
  have hz : (w.alloc (.cells #[.int .i64 2, .int .i64 a, .int .i64 b] 57)).heap.size = w.heap.size + 1 := by simp
  rw [hz] at d2 i2
  clear hz k0
  by_cases g2 : b = 0
  · obtain rfl : q = true := by
      rcases q with _ | _
      · exact absurd (HQ.out.2 (by simp [g2])) (by decide)
      · rfl
    clear HQ
    go_wp2_with fail
    go_ret
    exact ⟨rfl, k3.out.1⟩
  · obtain rfl : q = false := by
      rcases q with _ | _
      · rfl
      · exact absurd (HQ.out.1 rfl) (by simp [g2])
    clear HQ
    go_wp2_with fail
    go_ret
    exact ⟨by first | rfl | exact congrArg (fun x => Ending.returned (Value.bool x)) (beq_false_of_ne g2) | exact congrArg (fun x => Ending.returned (Value.bool x)) (beq_false_of_ne g1), k3.out.1⟩

set_option maxRecDepth 100000 in
set_option maxHeartbeats 2000000 in
theorem sDeed_3 (a b : Int) (ha : 0 ≤ a ∧ a ≤ 999) (hb : 0 ≤ b ∧ b ≤ 999) (q : Bool) (hq : q = true ↔ (True ∨ a = 0) ∧ (True ∨ b = 0)) (w : World) :
    Calls Try.prog 78 #[.agg #[.int .i64 3, .int .i64 a, .int .i64 b]] w fun e w' => e = .returned (.bool q) ∧ Below w.heap.size w w' := by
  have k0 : Hid (Kept w [(w.heap.size, #[.int .i64 3, .int .i64 a, .int .i64 b], 57)] (w.alloc (.cells #[.int .i64 3, .int .i64 a, .int .i64 b] 57))) := hid (((Kept.nil w).push _ _).sub (by simp))
  have HA := hid ha
  have HB := hid hb
  have HQ := hid hq
  clear ha hb hq
  go_enter Try.func78, Try.ntmps78
  go_wp2_with fail
  refine (l00In_t 3 1 8 (by decide) (by decide) _).mono ?_
  rintro e u0 ⟨rfl, rfl⟩
  go_wp2_with fail
  refine (l00In_t a 0 999 HA.out.1 HA.out.2 _).mono ?_
  rintro e u0 ⟨rfl, rfl⟩
  go_wp2_with fail
  refine (l00In_t b 0 999 HB.out.1 HB.out.2 _).mono ?_
  rintro e u0 ⟨rfl, rfl⟩
  go_wp2_with fail
  refine (sWordsD _).mono ?_
  rintro e u3 ⟨rfl, h3⟩
  have k3 : Hid (Kept w [(w.heap.size, #[.int .i64 3, .int .i64 a, .int .i64 b], 57), ((w.alloc (.cells #[.int .i64 3, .int .i64 a, .int .i64 b] 57)).heap.size + 1, #[.int .i64 0, .int .i64 2, .int .i64 1, .int .i64 2, .int .i64 1, .int .i64 1, .int .i64 1, .int .i64 0, .int .i64 0], 3)] u3) := hid (by rw [h3]; exact (((k0.out.push #[.string { data := #[] }, .string { data := #[103, 105, 118, 101] }, .string { data := #[119, 111, 114, 107] }, .string { data := #[104, 97, 110, 100] }, .string { data := #[100, 101, 108, 105, 118, 101, 114] }, .string { data := #[99, 111, 112, 121] }, .string { data := #[100, 114, 111, 112] }, .string { data := #[115, 97, 118, 101] }, .string { data := #[99, 114, 97, 115, 104] }] 9).push #[.int .i64 0, .int .i64 2, .int .i64 1, .int .i64 2, .int .i64 1, .int .i64 1, .int .i64 1, .int .i64 0, .int .i64 0] 3)).sub (by simp))
  clear h3
  have c0 : u3.cell? ⟨w.heap.size, 0, none⟩ = some (.int .i64 3) := (cell_of_row u3 _ 0 _ _ _ (k3.out.at (x := (w.heap.size, #[.int .i64 3, .int .i64 a, .int .i64 b], 57)) (by simp))).trans rfl
  have c1 : u3.cell? ⟨w.heap.size, 1, none⟩ = some (.int .i64 a) := (cell_of_row u3 _ 1 _ _ _ (k3.out.at (x := (w.heap.size, #[.int .i64 3, .int .i64 a, .int .i64 b], 57)) (by simp))).trans rfl
  have c2 : u3.cell? ⟨w.heap.size, 2, none⟩ = some (.int .i64 b) := (cell_of_row u3 _ 2 _ _ _ (k3.out.at (x := (w.heap.size, #[.int .i64 3, .int .i64 a, .int .i64 b], 57)) (by simp))).trans rfl
  have d2 : u3.cell? ⟨(w.alloc (.cells #[.int .i64 3, .int .i64 a, .int .i64 b] 57)).heap.size + 1, 3, none⟩ = some (.int .i64 2) := (cell_of_row u3 _ 3 _ _ _ (k3.out.at (x := ((w.alloc (.cells #[.int .i64 3, .int .i64 a, .int .i64 b] 57)).heap.size + 1, #[.int .i64 0, .int .i64 2, .int .i64 1, .int .i64 2, .int .i64 1, .int .i64 1, .int .i64 1, .int .i64 0, .int .i64 0], 3)) (by simp))).trans rfl
  have i2 := fun w2 => run_indexAt (P := Try.prog) (t := 200) (e := 3) Try.underlying200 (m := 1) (by kernel_rfl) (b := (w.alloc (.cells #[.int .i64 3, .int .i64 a, .int .i64 b] 57)).heap.size + 1) (o := 0) (n := 9) (cap := 9) (k := 3) (by omega) w2
  simp only [Nat.zero_add, Nat.mul_one, show ((3 : Nat) : Int) = 3 from rfl] at i2
  have hz : (w.alloc (.cells #[.int .i64 3, .int .i64 a, .int .i64 b] 57)).heap.size = w.heap.size + 1 := by simp
  rw [hz] at d2 i2
  clear hz k0
  obtain rfl : q = true := HQ.out.2 (by simp)
  clear HQ
  go_wp2_with fail
  go_ret
  exact ⟨rfl, k3.out.1⟩

set_option maxRecDepth 100000 in
set_option maxHeartbeats 2000000 in
theorem sDeed_4 (a b : Int) (ha : 0 ≤ a ∧ a ≤ 999) (hb : 0 ≤ b ∧ b ≤ 999) (q : Bool) (hq : q = true ↔ (True ∨ a = 0) ∧ (False ∨ b = 0)) (w : World) :
    Calls Try.prog 78 #[.agg #[.int .i64 4, .int .i64 a, .int .i64 b]] w fun e w' => e = .returned (.bool q) ∧ Below w.heap.size w w' := by
  have k0 : Hid (Kept w [(w.heap.size, #[.int .i64 4, .int .i64 a, .int .i64 b], 57)] (w.alloc (.cells #[.int .i64 4, .int .i64 a, .int .i64 b] 57))) := hid (((Kept.nil w).push _ _).sub (by simp))
  have HA := hid ha
  have HB := hid hb
  have HQ := hid hq
  clear ha hb hq
  go_enter Try.func78, Try.ntmps78
  go_wp2_with fail
  refine (l00In_t 4 1 8 (by decide) (by decide) _).mono ?_
  rintro e u0 ⟨rfl, rfl⟩
  go_wp2_with fail
  refine (l00In_t a 0 999 HA.out.1 HA.out.2 _).mono ?_
  rintro e u0 ⟨rfl, rfl⟩
  go_wp2_with fail
  refine (l00In_t b 0 999 HB.out.1 HB.out.2 _).mono ?_
  rintro e u0 ⟨rfl, rfl⟩
  go_wp2_with fail
  refine (sWordsD _).mono ?_
  rintro e u3 ⟨rfl, h3⟩
  have k3 : Hid (Kept w [(w.heap.size, #[.int .i64 4, .int .i64 a, .int .i64 b], 57), ((w.alloc (.cells #[.int .i64 4, .int .i64 a, .int .i64 b] 57)).heap.size + 1, #[.int .i64 0, .int .i64 2, .int .i64 1, .int .i64 2, .int .i64 1, .int .i64 1, .int .i64 1, .int .i64 0, .int .i64 0], 3)] u3) := hid (by rw [h3]; exact (((k0.out.push #[.string { data := #[] }, .string { data := #[103, 105, 118, 101] }, .string { data := #[119, 111, 114, 107] }, .string { data := #[104, 97, 110, 100] }, .string { data := #[100, 101, 108, 105, 118, 101, 114] }, .string { data := #[99, 111, 112, 121] }, .string { data := #[100, 114, 111, 112] }, .string { data := #[115, 97, 118, 101] }, .string { data := #[99, 114, 97, 115, 104] }] 9).push #[.int .i64 0, .int .i64 2, .int .i64 1, .int .i64 2, .int .i64 1, .int .i64 1, .int .i64 1, .int .i64 0, .int .i64 0] 3)).sub (by simp))
  clear h3
  have c0 : u3.cell? ⟨w.heap.size, 0, none⟩ = some (.int .i64 4) := (cell_of_row u3 _ 0 _ _ _ (k3.out.at (x := (w.heap.size, #[.int .i64 4, .int .i64 a, .int .i64 b], 57)) (by simp))).trans rfl
  have c1 : u3.cell? ⟨w.heap.size, 1, none⟩ = some (.int .i64 a) := (cell_of_row u3 _ 1 _ _ _ (k3.out.at (x := (w.heap.size, #[.int .i64 4, .int .i64 a, .int .i64 b], 57)) (by simp))).trans rfl
  have c2 : u3.cell? ⟨w.heap.size, 2, none⟩ = some (.int .i64 b) := (cell_of_row u3 _ 2 _ _ _ (k3.out.at (x := (w.heap.size, #[.int .i64 4, .int .i64 a, .int .i64 b], 57)) (by simp))).trans rfl
  have d2 : u3.cell? ⟨(w.alloc (.cells #[.int .i64 4, .int .i64 a, .int .i64 b] 57)).heap.size + 1, 4, none⟩ = some (.int .i64 1) := (cell_of_row u3 _ 4 _ _ _ (k3.out.at (x := ((w.alloc (.cells #[.int .i64 4, .int .i64 a, .int .i64 b] 57)).heap.size + 1, #[.int .i64 0, .int .i64 2, .int .i64 1, .int .i64 2, .int .i64 1, .int .i64 1, .int .i64 1, .int .i64 0, .int .i64 0], 3)) (by simp))).trans rfl
  have i2 := fun w2 => run_indexAt (P := Try.prog) (t := 200) (e := 3) Try.underlying200 (m := 1) (by kernel_rfl) (b := (w.alloc (.cells #[.int .i64 4, .int .i64 a, .int .i64 b] 57)).heap.size + 1) (o := 0) (n := 9) (cap := 9) (k := 4) (by omega) w2
  simp only [Nat.zero_add, Nat.mul_one, show ((4 : Nat) : Int) = 4 from rfl] at i2
  have hz : (w.alloc (.cells #[.int .i64 4, .int .i64 a, .int .i64 b] 57)).heap.size = w.heap.size + 1 := by simp
  rw [hz] at d2 i2
  clear hz k0
  by_cases g2 : b = 0
  · obtain rfl : q = true := by
      rcases q with _ | _
      · exact absurd (HQ.out.2 (by simp [g2])) (by decide)
      · rfl
    clear HQ
    go_wp2_with fail
    go_ret
    exact ⟨rfl, k3.out.1⟩
  · obtain rfl : q = false := by
      rcases q with _ | _
      · rfl
      · exact absurd (HQ.out.1 rfl) (by simp [g2])
    clear HQ
    go_wp2_with fail
    go_ret
    exact ⟨by first | rfl | exact congrArg (fun x => Ending.returned (Value.bool x)) (beq_false_of_ne g2) | exact congrArg (fun x => Ending.returned (Value.bool x)) (beq_false_of_ne g1), k3.out.1⟩

set_option maxRecDepth 100000 in
set_option maxHeartbeats 2000000 in
theorem sDeed_5 (a b : Int) (ha : 0 ≤ a ∧ a ≤ 999) (hb : 0 ≤ b ∧ b ≤ 999) (q : Bool) (hq : q = true ↔ (True ∨ a = 0) ∧ (False ∨ b = 0)) (w : World) :
    Calls Try.prog 78 #[.agg #[.int .i64 5, .int .i64 a, .int .i64 b]] w fun e w' => e = .returned (.bool q) ∧ Below w.heap.size w w' := by
  have k0 : Hid (Kept w [(w.heap.size, #[.int .i64 5, .int .i64 a, .int .i64 b], 57)] (w.alloc (.cells #[.int .i64 5, .int .i64 a, .int .i64 b] 57))) := hid (((Kept.nil w).push _ _).sub (by simp))
  have HA := hid ha
  have HB := hid hb
  have HQ := hid hq
  clear ha hb hq
  go_enter Try.func78, Try.ntmps78
  go_wp2_with fail
  refine (l00In_t 5 1 8 (by decide) (by decide) _).mono ?_
  rintro e u0 ⟨rfl, rfl⟩
  go_wp2_with fail
  refine (l00In_t a 0 999 HA.out.1 HA.out.2 _).mono ?_
  rintro e u0 ⟨rfl, rfl⟩
  go_wp2_with fail
  refine (l00In_t b 0 999 HB.out.1 HB.out.2 _).mono ?_
  rintro e u0 ⟨rfl, rfl⟩
  go_wp2_with fail
  refine (sWordsD _).mono ?_
  rintro e u3 ⟨rfl, h3⟩
  have k3 : Hid (Kept w [(w.heap.size, #[.int .i64 5, .int .i64 a, .int .i64 b], 57), ((w.alloc (.cells #[.int .i64 5, .int .i64 a, .int .i64 b] 57)).heap.size + 1, #[.int .i64 0, .int .i64 2, .int .i64 1, .int .i64 2, .int .i64 1, .int .i64 1, .int .i64 1, .int .i64 0, .int .i64 0], 3)] u3) := hid (by rw [h3]; exact (((k0.out.push #[.string { data := #[] }, .string { data := #[103, 105, 118, 101] }, .string { data := #[119, 111, 114, 107] }, .string { data := #[104, 97, 110, 100] }, .string { data := #[100, 101, 108, 105, 118, 101, 114] }, .string { data := #[99, 111, 112, 121] }, .string { data := #[100, 114, 111, 112] }, .string { data := #[115, 97, 118, 101] }, .string { data := #[99, 114, 97, 115, 104] }] 9).push #[.int .i64 0, .int .i64 2, .int .i64 1, .int .i64 2, .int .i64 1, .int .i64 1, .int .i64 1, .int .i64 0, .int .i64 0] 3)).sub (by simp))
  clear h3
  have c0 : u3.cell? ⟨w.heap.size, 0, none⟩ = some (.int .i64 5) := (cell_of_row u3 _ 0 _ _ _ (k3.out.at (x := (w.heap.size, #[.int .i64 5, .int .i64 a, .int .i64 b], 57)) (by simp))).trans rfl
  have c1 : u3.cell? ⟨w.heap.size, 1, none⟩ = some (.int .i64 a) := (cell_of_row u3 _ 1 _ _ _ (k3.out.at (x := (w.heap.size, #[.int .i64 5, .int .i64 a, .int .i64 b], 57)) (by simp))).trans rfl
  have c2 : u3.cell? ⟨w.heap.size, 2, none⟩ = some (.int .i64 b) := (cell_of_row u3 _ 2 _ _ _ (k3.out.at (x := (w.heap.size, #[.int .i64 5, .int .i64 a, .int .i64 b], 57)) (by simp))).trans rfl
  have d2 : u3.cell? ⟨(w.alloc (.cells #[.int .i64 5, .int .i64 a, .int .i64 b] 57)).heap.size + 1, 5, none⟩ = some (.int .i64 1) := (cell_of_row u3 _ 5 _ _ _ (k3.out.at (x := ((w.alloc (.cells #[.int .i64 5, .int .i64 a, .int .i64 b] 57)).heap.size + 1, #[.int .i64 0, .int .i64 2, .int .i64 1, .int .i64 2, .int .i64 1, .int .i64 1, .int .i64 1, .int .i64 0, .int .i64 0], 3)) (by simp))).trans rfl
  have i2 := fun w2 => run_indexAt (P := Try.prog) (t := 200) (e := 3) Try.underlying200 (m := 1) (by kernel_rfl) (b := (w.alloc (.cells #[.int .i64 5, .int .i64 a, .int .i64 b] 57)).heap.size + 1) (o := 0) (n := 9) (cap := 9) (k := 5) (by omega) w2
  simp only [Nat.zero_add, Nat.mul_one, show ((5 : Nat) : Int) = 5 from rfl] at i2
  have hz : (w.alloc (.cells #[.int .i64 5, .int .i64 a, .int .i64 b] 57)).heap.size = w.heap.size + 1 := by simp
  rw [hz] at d2 i2
  clear hz k0
  by_cases g2 : b = 0
  · obtain rfl : q = true := by
      rcases q with _ | _
      · exact absurd (HQ.out.2 (by simp [g2])) (by decide)
      · rfl
    clear HQ
    go_wp2_with fail
    go_ret
    exact ⟨rfl, k3.out.1⟩
  · obtain rfl : q = false := by
      rcases q with _ | _
      · rfl
      · exact absurd (HQ.out.1 rfl) (by simp [g2])
    clear HQ
    go_wp2_with fail
    go_ret
    exact ⟨by first | rfl | exact congrArg (fun x => Ending.returned (Value.bool x)) (beq_false_of_ne g2) | exact congrArg (fun x => Ending.returned (Value.bool x)) (beq_false_of_ne g1), k3.out.1⟩

set_option maxRecDepth 100000 in
set_option maxHeartbeats 2000000 in
theorem sDeed_6 (a b : Int) (ha : 0 ≤ a ∧ a ≤ 999) (hb : 0 ≤ b ∧ b ≤ 999) (q : Bool) (hq : q = true ↔ (True ∨ a = 0) ∧ (False ∨ b = 0)) (w : World) :
    Calls Try.prog 78 #[.agg #[.int .i64 6, .int .i64 a, .int .i64 b]] w fun e w' => e = .returned (.bool q) ∧ Below w.heap.size w w' := by
  have k0 : Hid (Kept w [(w.heap.size, #[.int .i64 6, .int .i64 a, .int .i64 b], 57)] (w.alloc (.cells #[.int .i64 6, .int .i64 a, .int .i64 b] 57))) := hid (((Kept.nil w).push _ _).sub (by simp))
  have HA := hid ha
  have HB := hid hb
  have HQ := hid hq
  clear ha hb hq
  go_enter Try.func78, Try.ntmps78
  go_wp2_with fail
  refine (l00In_t 6 1 8 (by decide) (by decide) _).mono ?_
  rintro e u0 ⟨rfl, rfl⟩
  go_wp2_with fail
  refine (l00In_t a 0 999 HA.out.1 HA.out.2 _).mono ?_
  rintro e u0 ⟨rfl, rfl⟩
  go_wp2_with fail
  refine (l00In_t b 0 999 HB.out.1 HB.out.2 _).mono ?_
  rintro e u0 ⟨rfl, rfl⟩
  go_wp2_with fail
  refine (sWordsD _).mono ?_
  rintro e u3 ⟨rfl, h3⟩
  have k3 : Hid (Kept w [(w.heap.size, #[.int .i64 6, .int .i64 a, .int .i64 b], 57), ((w.alloc (.cells #[.int .i64 6, .int .i64 a, .int .i64 b] 57)).heap.size + 1, #[.int .i64 0, .int .i64 2, .int .i64 1, .int .i64 2, .int .i64 1, .int .i64 1, .int .i64 1, .int .i64 0, .int .i64 0], 3)] u3) := hid (by rw [h3]; exact (((k0.out.push #[.string { data := #[] }, .string { data := #[103, 105, 118, 101] }, .string { data := #[119, 111, 114, 107] }, .string { data := #[104, 97, 110, 100] }, .string { data := #[100, 101, 108, 105, 118, 101, 114] }, .string { data := #[99, 111, 112, 121] }, .string { data := #[100, 114, 111, 112] }, .string { data := #[115, 97, 118, 101] }, .string { data := #[99, 114, 97, 115, 104] }] 9).push #[.int .i64 0, .int .i64 2, .int .i64 1, .int .i64 2, .int .i64 1, .int .i64 1, .int .i64 1, .int .i64 0, .int .i64 0] 3)).sub (by simp))
  clear h3
  have c0 : u3.cell? ⟨w.heap.size, 0, none⟩ = some (.int .i64 6) := (cell_of_row u3 _ 0 _ _ _ (k3.out.at (x := (w.heap.size, #[.int .i64 6, .int .i64 a, .int .i64 b], 57)) (by simp))).trans rfl
  have c1 : u3.cell? ⟨w.heap.size, 1, none⟩ = some (.int .i64 a) := (cell_of_row u3 _ 1 _ _ _ (k3.out.at (x := (w.heap.size, #[.int .i64 6, .int .i64 a, .int .i64 b], 57)) (by simp))).trans rfl
  have c2 : u3.cell? ⟨w.heap.size, 2, none⟩ = some (.int .i64 b) := (cell_of_row u3 _ 2 _ _ _ (k3.out.at (x := (w.heap.size, #[.int .i64 6, .int .i64 a, .int .i64 b], 57)) (by simp))).trans rfl
  have d2 : u3.cell? ⟨(w.alloc (.cells #[.int .i64 6, .int .i64 a, .int .i64 b] 57)).heap.size + 1, 6, none⟩ = some (.int .i64 1) := (cell_of_row u3 _ 6 _ _ _ (k3.out.at (x := ((w.alloc (.cells #[.int .i64 6, .int .i64 a, .int .i64 b] 57)).heap.size + 1, #[.int .i64 0, .int .i64 2, .int .i64 1, .int .i64 2, .int .i64 1, .int .i64 1, .int .i64 1, .int .i64 0, .int .i64 0], 3)) (by simp))).trans rfl
  have i2 := fun w2 => run_indexAt (P := Try.prog) (t := 200) (e := 3) Try.underlying200 (m := 1) (by kernel_rfl) (b := (w.alloc (.cells #[.int .i64 6, .int .i64 a, .int .i64 b] 57)).heap.size + 1) (o := 0) (n := 9) (cap := 9) (k := 6) (by omega) w2
  simp only [Nat.zero_add, Nat.mul_one, show ((6 : Nat) : Int) = 6 from rfl] at i2
  have hz : (w.alloc (.cells #[.int .i64 6, .int .i64 a, .int .i64 b] 57)).heap.size = w.heap.size + 1 := by simp
  rw [hz] at d2 i2
  clear hz k0
  by_cases g2 : b = 0
  · obtain rfl : q = true := by
      rcases q with _ | _
      · exact absurd (HQ.out.2 (by simp [g2])) (by decide)
      · rfl
    clear HQ
    go_wp2_with fail
    go_ret
    exact ⟨rfl, k3.out.1⟩
  · obtain rfl : q = false := by
      rcases q with _ | _
      · rfl
      · exact absurd (HQ.out.1 rfl) (by simp [g2])
    clear HQ
    go_wp2_with fail
    go_ret
    exact ⟨by first | rfl | exact congrArg (fun x => Ending.returned (Value.bool x)) (beq_false_of_ne g2) | exact congrArg (fun x => Ending.returned (Value.bool x)) (beq_false_of_ne g1), k3.out.1⟩

set_option maxRecDepth 100000 in
set_option maxHeartbeats 2000000 in
theorem sDeed_7 (a b : Int) (ha : 0 ≤ a ∧ a ≤ 999) (hb : 0 ≤ b ∧ b ≤ 999) (q : Bool) (hq : q = true ↔ (False ∨ a = 0) ∧ (False ∨ b = 0)) (w : World) :
    Calls Try.prog 78 #[.agg #[.int .i64 7, .int .i64 a, .int .i64 b]] w fun e w' => e = .returned (.bool q) ∧ Below w.heap.size w w' := by
  have k0 : Hid (Kept w [(w.heap.size, #[.int .i64 7, .int .i64 a, .int .i64 b], 57)] (w.alloc (.cells #[.int .i64 7, .int .i64 a, .int .i64 b] 57))) := hid (((Kept.nil w).push _ _).sub (by simp))
  have HA := hid ha
  have HB := hid hb
  have HQ := hid hq
  clear ha hb hq
  go_enter Try.func78, Try.ntmps78
  go_wp2_with fail
  refine (l00In_t 7 1 8 (by decide) (by decide) _).mono ?_
  rintro e u0 ⟨rfl, rfl⟩
  go_wp2_with fail
  refine (l00In_t a 0 999 HA.out.1 HA.out.2 _).mono ?_
  rintro e u0 ⟨rfl, rfl⟩
  go_wp2_with fail
  refine (l00In_t b 0 999 HB.out.1 HB.out.2 _).mono ?_
  rintro e u0 ⟨rfl, rfl⟩
  go_wp2_with fail
  refine (sWordsD _).mono ?_
  rintro e u3 ⟨rfl, h3⟩
  have k3 : Hid (Kept w [(w.heap.size, #[.int .i64 7, .int .i64 a, .int .i64 b], 57), ((w.alloc (.cells #[.int .i64 7, .int .i64 a, .int .i64 b] 57)).heap.size + 1, #[.int .i64 0, .int .i64 2, .int .i64 1, .int .i64 2, .int .i64 1, .int .i64 1, .int .i64 1, .int .i64 0, .int .i64 0], 3)] u3) := hid (by rw [h3]; exact (((k0.out.push #[.string { data := #[] }, .string { data := #[103, 105, 118, 101] }, .string { data := #[119, 111, 114, 107] }, .string { data := #[104, 97, 110, 100] }, .string { data := #[100, 101, 108, 105, 118, 101, 114] }, .string { data := #[99, 111, 112, 121] }, .string { data := #[100, 114, 111, 112] }, .string { data := #[115, 97, 118, 101] }, .string { data := #[99, 114, 97, 115, 104] }] 9).push #[.int .i64 0, .int .i64 2, .int .i64 1, .int .i64 2, .int .i64 1, .int .i64 1, .int .i64 1, .int .i64 0, .int .i64 0] 3)).sub (by simp))
  clear h3
  have c0 : u3.cell? ⟨w.heap.size, 0, none⟩ = some (.int .i64 7) := (cell_of_row u3 _ 0 _ _ _ (k3.out.at (x := (w.heap.size, #[.int .i64 7, .int .i64 a, .int .i64 b], 57)) (by simp))).trans rfl
  have c1 : u3.cell? ⟨w.heap.size, 1, none⟩ = some (.int .i64 a) := (cell_of_row u3 _ 1 _ _ _ (k3.out.at (x := (w.heap.size, #[.int .i64 7, .int .i64 a, .int .i64 b], 57)) (by simp))).trans rfl
  have c2 : u3.cell? ⟨w.heap.size, 2, none⟩ = some (.int .i64 b) := (cell_of_row u3 _ 2 _ _ _ (k3.out.at (x := (w.heap.size, #[.int .i64 7, .int .i64 a, .int .i64 b], 57)) (by simp))).trans rfl
  have d2 : u3.cell? ⟨(w.alloc (.cells #[.int .i64 7, .int .i64 a, .int .i64 b] 57)).heap.size + 1, 7, none⟩ = some (.int .i64 0) := (cell_of_row u3 _ 7 _ _ _ (k3.out.at (x := ((w.alloc (.cells #[.int .i64 7, .int .i64 a, .int .i64 b] 57)).heap.size + 1, #[.int .i64 0, .int .i64 2, .int .i64 1, .int .i64 2, .int .i64 1, .int .i64 1, .int .i64 1, .int .i64 0, .int .i64 0], 3)) (by simp))).trans rfl
  have i2 := fun w2 => run_indexAt (P := Try.prog) (t := 200) (e := 3) Try.underlying200 (m := 1) (by kernel_rfl) (b := (w.alloc (.cells #[.int .i64 7, .int .i64 a, .int .i64 b] 57)).heap.size + 1) (o := 0) (n := 9) (cap := 9) (k := 7) (by omega) w2
  simp only [Nat.zero_add, Nat.mul_one, show ((7 : Nat) : Int) = 7 from rfl] at i2
  have hz : (w.alloc (.cells #[.int .i64 7, .int .i64 a, .int .i64 b] 57)).heap.size = w.heap.size + 1 := by simp
  rw [hz] at d2 i2
  clear hz k0
  by_cases g1 : a = 0
  · by_cases g2 : b = 0
    · obtain rfl : q = true := by
        rcases q with _ | _
        · exact absurd (HQ.out.2 (by simp [g1, g2])) (by decide)
        · rfl
      clear HQ
      go_wp2_with fail
      go_ret
      exact ⟨rfl, k3.out.1⟩
    · obtain rfl : q = false := by
        rcases q with _ | _
        · rfl
        · exact absurd (HQ.out.1 rfl) (by simp [g2])
      clear HQ
      go_wp2_with fail
      go_ret
      exact ⟨by first | rfl | exact congrArg (fun x => Ending.returned (Value.bool x)) (beq_false_of_ne g2) | exact congrArg (fun x => Ending.returned (Value.bool x)) (beq_false_of_ne g1), k3.out.1⟩
  · obtain rfl : q = false := by
      rcases q with _ | _
      · rfl
      · exact absurd (HQ.out.1 rfl) (by simp [g1])
    clear HQ
    go_wp2_with fail
    go_ret
    exact ⟨by first | rfl | exact congrArg (fun x => Ending.returned (Value.bool x)) (beq_false_of_ne g2) | exact congrArg (fun x => Ending.returned (Value.bool x)) (beq_false_of_ne g1), k3.out.1⟩

set_option maxRecDepth 100000 in
set_option maxHeartbeats 2000000 in
theorem sDeed_8 (a b : Int) (ha : 0 ≤ a ∧ a ≤ 999) (hb : 0 ≤ b ∧ b ≤ 999) (q : Bool) (hq : q = true ↔ (False ∨ a = 0) ∧ (False ∨ b = 0)) (w : World) :
    Calls Try.prog 78 #[.agg #[.int .i64 8, .int .i64 a, .int .i64 b]] w fun e w' => e = .returned (.bool q) ∧ Below w.heap.size w w' := by
  have k0 : Hid (Kept w [(w.heap.size, #[.int .i64 8, .int .i64 a, .int .i64 b], 57)] (w.alloc (.cells #[.int .i64 8, .int .i64 a, .int .i64 b] 57))) := hid (((Kept.nil w).push _ _).sub (by simp))
  have HA := hid ha
  have HB := hid hb
  have HQ := hid hq
  clear ha hb hq
  go_enter Try.func78, Try.ntmps78
  go_wp2_with fail
  refine (l00In_t 8 1 8 (by decide) (by decide) _).mono ?_
  rintro e u0 ⟨rfl, rfl⟩
  go_wp2_with fail
  refine (l00In_t a 0 999 HA.out.1 HA.out.2 _).mono ?_
  rintro e u0 ⟨rfl, rfl⟩
  go_wp2_with fail
  refine (l00In_t b 0 999 HB.out.1 HB.out.2 _).mono ?_
  rintro e u0 ⟨rfl, rfl⟩
  go_wp2_with fail
  refine (sWordsD _).mono ?_
  rintro e u3 ⟨rfl, h3⟩
  have k3 : Hid (Kept w [(w.heap.size, #[.int .i64 8, .int .i64 a, .int .i64 b], 57), ((w.alloc (.cells #[.int .i64 8, .int .i64 a, .int .i64 b] 57)).heap.size + 1, #[.int .i64 0, .int .i64 2, .int .i64 1, .int .i64 2, .int .i64 1, .int .i64 1, .int .i64 1, .int .i64 0, .int .i64 0], 3)] u3) := hid (by rw [h3]; exact (((k0.out.push #[.string { data := #[] }, .string { data := #[103, 105, 118, 101] }, .string { data := #[119, 111, 114, 107] }, .string { data := #[104, 97, 110, 100] }, .string { data := #[100, 101, 108, 105, 118, 101, 114] }, .string { data := #[99, 111, 112, 121] }, .string { data := #[100, 114, 111, 112] }, .string { data := #[115, 97, 118, 101] }, .string { data := #[99, 114, 97, 115, 104] }] 9).push #[.int .i64 0, .int .i64 2, .int .i64 1, .int .i64 2, .int .i64 1, .int .i64 1, .int .i64 1, .int .i64 0, .int .i64 0] 3)).sub (by simp))
  clear h3
  have c0 : u3.cell? ⟨w.heap.size, 0, none⟩ = some (.int .i64 8) := (cell_of_row u3 _ 0 _ _ _ (k3.out.at (x := (w.heap.size, #[.int .i64 8, .int .i64 a, .int .i64 b], 57)) (by simp))).trans rfl
  have c1 : u3.cell? ⟨w.heap.size, 1, none⟩ = some (.int .i64 a) := (cell_of_row u3 _ 1 _ _ _ (k3.out.at (x := (w.heap.size, #[.int .i64 8, .int .i64 a, .int .i64 b], 57)) (by simp))).trans rfl
  have c2 : u3.cell? ⟨w.heap.size, 2, none⟩ = some (.int .i64 b) := (cell_of_row u3 _ 2 _ _ _ (k3.out.at (x := (w.heap.size, #[.int .i64 8, .int .i64 a, .int .i64 b], 57)) (by simp))).trans rfl
  have d2 : u3.cell? ⟨(w.alloc (.cells #[.int .i64 8, .int .i64 a, .int .i64 b] 57)).heap.size + 1, 8, none⟩ = some (.int .i64 0) := (cell_of_row u3 _ 8 _ _ _ (k3.out.at (x := ((w.alloc (.cells #[.int .i64 8, .int .i64 a, .int .i64 b] 57)).heap.size + 1, #[.int .i64 0, .int .i64 2, .int .i64 1, .int .i64 2, .int .i64 1, .int .i64 1, .int .i64 1, .int .i64 0, .int .i64 0], 3)) (by simp))).trans rfl
  have i2 := fun w2 => run_indexAt (P := Try.prog) (t := 200) (e := 3) Try.underlying200 (m := 1) (by kernel_rfl) (b := (w.alloc (.cells #[.int .i64 8, .int .i64 a, .int .i64 b] 57)).heap.size + 1) (o := 0) (n := 9) (cap := 9) (k := 8) (by omega) w2
  simp only [Nat.zero_add, Nat.mul_one, show ((8 : Nat) : Int) = 8 from rfl] at i2
  have hz : (w.alloc (.cells #[.int .i64 8, .int .i64 a, .int .i64 b] 57)).heap.size = w.heap.size + 1 := by simp
  rw [hz] at d2 i2
  clear hz k0
  by_cases g1 : a = 0
  · by_cases g2 : b = 0
    · obtain rfl : q = true := by
        rcases q with _ | _
        · exact absurd (HQ.out.2 (by simp [g1, g2])) (by decide)
        · rfl
      clear HQ
      go_wp2_with fail
      go_ret
      exact ⟨rfl, k3.out.1⟩
    · obtain rfl : q = false := by
        rcases q with _ | _
        · rfl
        · exact absurd (HQ.out.1 rfl) (by simp [g2])
      clear HQ
      go_wp2_with fail
      go_ret
      exact ⟨by first | rfl | exact congrArg (fun x => Ending.returned (Value.bool x)) (beq_false_of_ne g2) | exact congrArg (fun x => Ending.returned (Value.bool x)) (beq_false_of_ne g1), k3.out.1⟩
  · obtain rfl : q = false := by
      rcases q with _ | _
      · rfl
      · exact absurd (HQ.out.1 rfl) (by simp [g1])
    clear HQ
    go_wp2_with fail
    go_ret
    exact ⟨by first | rfl | exact congrArg (fun x => Ending.returned (Value.bool x)) (beq_false_of_ne g2) | exact congrArg (fun x => Ending.returned (Value.bool x)) (beq_false_of_ne g1), k3.out.1⟩

theorem sDeed (k a b : Int) (q : Bool) (hq : q = true ↔ dOk k a b) (w : World) :
    Calls Try.prog 78 #[.agg #[.int .i64 k, .int .i64 a, .int .i64 b]] w fun e w' => e = .returned (.bool q) ∧ Below w.heap.size w w' := by
  by_cases h : 1 ≤ k ∧ k ≤ 8
  · by_cases ha : 0 ≤ a ∧ a ≤ 999
    · by_cases hb : 0 ≤ b ∧ b ≤ 999
      · have hx : k = 1 ∨ k = 2 ∨ k = 3 ∨ k = 4 ∨ k = 5 ∨ k = 6 ∨ k = 7 ∨ k = 8 := by omega
        have hq2 : q = true ↔ (0 < nkD k ∨ a = 0) ∧ (1 < nkD k ∨ b = 0) := by rw [hq]; unfold dOk; omega
        clear hq
        rcases hx with rfl | rfl | rfl | rfl | rfl | rfl | rfl | rfl
        · exact sDeed_1 a b ha hb q (by rw [hq2]; simp [nkD]) w
        · exact sDeed_2 a b ha hb q (by rw [hq2]; simp [nkD]) w
        · exact sDeed_3 a b ha hb q (by rw [hq2]; simp [nkD]) w
        · exact sDeed_4 a b ha hb q (by rw [hq2]; simp [nkD]) w
        · exact sDeed_5 a b ha hb q (by rw [hq2]; simp [nkD]) w
        · exact sDeed_6 a b ha hb q (by rw [hq2]; simp [nkD]) w
        · exact sDeed_7 a b ha hb q (by rw [hq2]; simp [nkD]) w
        · exact sDeed_8 a b ha hb q (by rw [hq2]; simp [nkD]) w
      · obtain rfl : q = false := by
          rcases q with _ | _
          · rfl
          · have := hq.1 rfl; unfold dOk at this; omega
        exact sDeed_b k a b h ha hb w
    · obtain rfl : q = false := by
        rcases q with _ | _
        · rfl
        · have := hq.1 rfl; unfold dOk at this; omega
      exact sDeed_a k a b h ha w
  · obtain rfl : q = false := by
      rcases q with _ | _
      · rfl
      · have := hq.1 rfl; unfold dOk at this; omega
    exact sDeed_k k a b h w

theorem toDeed (k a b : Int) (w : World) :
    Calls Try.prog 30 #[.agg #[.int .i64 k, .int .i64 a, .int .i64 b]] w fun e w' => e = .returned (.agg #[.int .i64 k, .int .i64 a, .int .i64 b]) ∧ Below w.heap.size w w' := by
  have k0 : Hid (Kept w [(w.heap.size + 1, #[.int .i64 k, .int .i64 a, .int .i64 b], 57)] (((w.alloc (.cells #[.int .i64 k, .int .i64 a, .int .i64 b] 55)).alloc (.cells #[.int .i64 k, .int .i64 a, .int .i64 b] 57)).alloc (.cells #[.int .i64 k, .int .i64 a, .int .i64 b] 57))) := hid (((((Kept.nil w).push _ _).push _ _).push _ _).sub (by simp))
  go_enter Try.func30, Try.ntmps30
  go_wp2
  exact bodyPost_ret (results_cell_row rfl _ _ (w.heap.size + 1) 57 #[.int .i64 k, .int .i64 a, .int .i64 b] (0, 0) _ rfl (k0.out.at (x := (w.heap.size + 1, #[.int .i64 k, .int .i64 a, .int .i64 b], 57)) (by simp)) Try.underlying57 rfl (by kernel_rfl)) rfl ⟨rfl, k0.out.1⟩

theorem sValidDeed (k a b : Int) (q : Bool) (hq : q = true ↔ dOk k a b) (w : World) :
    Calls Try.prog 29 #[.agg #[.int .i64 k, .int .i64 a, .int .i64 b]] w fun e w' => e = .returned (.bool q) ∧ Below w.heap.size w w' := by
  have HQ := hid hq
  have k0 : Hid (Kept w [(w.heap.size, #[.int .i64 k, .int .i64 a, .int .i64 b], 57)] (w.alloc (.cells #[.int .i64 k, .int .i64 a, .int .i64 b] 57))) := hid (((Kept.nil w).push _ _).sub (by simp))
  clear hq
  go_enter Try.func29, Try.ntmps29
  go_wp2_with (refine wpList_load_row rfl 57 _ rfl w.heap.size rfl 57 #[.int .i64 k, .int .i64 a, .int .i64 b] (0, 0) _ (k0.out.at (x := (w.heap.size, #[.int .i64 k, .int .i64 a, .int .i64 b], 57)) (by simp)) Try.underlying57 rfl (by kernel_rfl) ?_)
  refine (sDeed k a b q HQ.out _).mono ?_
  rintro e u ⟨rfl, hb⟩
  have k1 := hid (k0.out.stay hb)
  go_wp2
  go_ret
  exact ⟨rfl, k1.out.1⟩

theorem lawValidDeed (c : Nat → Int) (w : World) :
    Calls Try.prog 8 #[.agg #[.int .i64 (c 0), .int .i64 (c 1), .int .i64 (c 2)]] w fun e w' => e = .returned (.bool true) ∧ Below w.heap.size w w' := by
  generalize c 0 = k
  generalize c 1 = a
  generalize c 2 = b
  obtain ⟨q, hq⟩ : ∃ q : Bool, q = true ↔ dOk k a b := by
    by_cases h : dOk k a b
    · exact ⟨true, by simp [h]⟩
    · exact ⟨false, by simp [h]⟩
  have HI := hid (fun w => iDeed k a b q hq w)
  have HS := hid (fun w => sValidDeed k a b q hq w)
  have k0 : Hid (Kept w [(w.heap.size, #[.int .i64 k, .int .i64 a, .int .i64 b], 55)] (w.alloc (.cells #[.int .i64 k, .int .i64 a, .int .i64 b] 55))) := hid (((Kept.nil w).push _ _).sub (by simp))
  clear hq
  cases q
  all_goals
    go_enter Try.func8, Try.ntmps8
    go_wp2_with (refine wpList_load_row rfl 55 _ rfl w.heap.size rfl 55 #[.int .i64 k, .int .i64 a, .int .i64 b] (0, 0) _ (k0.out.at (x := (w.heap.size, #[.int .i64 k, .int .i64 a, .int .i64 b], 55)) (by simp)) Try.underlying55 rfl (by kernel_rfl) ?_)
    refine (toDeed k a b _).mono ?_
    rintro e u1 ⟨rfl, b1⟩
    have k1 := hid (k0.out.stay b1)
    clear b1
    go_wp2_with fail
    refine (HS.out _).mono ?_
    rintro e u2 ⟨rfl, b2⟩
    have k2 := hid (k1.out.stay b2)
    clear b2
    go_wp2_with (refine wpList_load_row rfl 55 _ rfl w.heap.size rfl 55 #[.int .i64 k, .int .i64 a, .int .i64 b] (0, 0) _ (k2.out.at (x := (w.heap.size, #[.int .i64 k, .int .i64 a, .int .i64 b], 55)) (by simp)) Try.underlying55 rfl (by kernel_rfl) ?_)
    refine (toDeed k a b _).mono ?_
    rintro e u3 ⟨rfl, b3⟩
    have k3 := hid (k2.out.stay b3)
    clear b3
    go_wp2_with fail
    refine (HI.out _).mono ?_
    rintro e u4 ⟨rfl, b4⟩
    have k4 := hid (k3.out.stay b4)
    clear b4
    go_wp2
    go_ret
    exact ⟨rfl, k4.out.1⟩

theorem words_cons : ∀ (v : List Char) (r : List Char), (∀ c ∈ v, c ≠ Char.ofNat 32) → wordsSigns (v ++ Char.ofNat 32 :: r) = v :: wordsSigns r
  | [], r, _ => rfl
  | c :: v, r, h => by
    have ih := words_cons v r (fun x hx => h x (by simp [hx]))
    have hc : c ≠ Char.ofNat 32 := h c (by simp)
    show wordsSigns (c :: (v ++ Char.ofNat 32 :: r)) = _
    rw [wordsSigns.eq_3 _ _ (fun e => hc e), ih]

def w0 : List Nat := [104, 97, 114, 110, 101, 115, 115]

def w1 : List Nat := [99, 51, 54, 52, 56, 54, 53, 52, 51, 50, 97, 52, 52, 52, 101, 99, 51, 56, 52, 98, 48, 52, 50, 55, 102, 100, 102, 49, 49, 55, 52, 48, 49, 99, 100, 49, 50, 50, 97, 52, 51, 53, 50, 98, 56, 101, 57, 52, 97, 56, 99, 57, 48, 99, 56, 52, 55, 98, 97, 55, 52, 57, 50, 101]

def w2 : List Nat := [99, 117, 116]

def w3 : List Nat := [97, 116, 32, 108, 111, 111, 112, 46, 101, 120, 97, 109, 112, 108, 101, 47, 103, 48, 49, 50, 50, 52, 47, 108, 97, 119, 115, 46, 70, 110, 69, 120, 97, 99, 116, 83, 116, 105, 114, 67, 111, 108, 117, 109, 110, 32, 108, 111, 111, 112, 46, 101, 120, 97, 109, 112, 108, 101, 47, 103, 48, 49, 50, 50, 52, 47, 108, 97, 119, 115, 46, 70, 110, 69, 120, 97, 99, 116, 71, 114, 111, 119, 79, 110, 99, 101, 32, 108, 111, 111, 112, 46, 101, 120, 97, 109, 112, 108, 101, 47, 103, 48, 49, 50, 50, 52, 47, 108, 97, 119, 115, 46, 70, 110, 69, 120, 97, 99, 116, 71, 114, 111, 119, 83, 116, 101, 112, 115, 32, 108, 111, 111, 112, 46, 101, 120, 97, 109, 112, 108, 101, 47, 103, 48, 49, 50, 50, 52, 47, 108, 97, 119, 115, 46, 70, 110, 69, 120, 97, 99, 116, 83, 116, 101, 112, 115, 84, 111, 68, 114, 121, 32, 108, 111, 111, 112, 46, 101, 120, 97, 109, 112, 108, 101, 47, 103, 48, 49, 50, 50, 52, 47, 108, 97, 119, 115, 46, 70, 110, 69, 120, 97, 99, 116, 71, 114, 111, 119, 67, 111, 108, 117, 109, 110, 32, 108, 111, 111, 112, 46, 101, 120, 97, 109, 112, 108, 101, 47, 103, 48, 49, 50, 50, 52, 47, 108, 97, 119, 115, 46, 70, 110, 69, 120, 97, 99, 116, 86, 97, 108, 105, 100, 68, 101, 101, 100, 32, 108, 111, 111, 112, 46, 101, 120, 97, 109, 112, 108, 101, 47, 103, 48, 49, 50, 50, 52, 47, 108, 97, 119, 115, 46, 70, 110, 69, 120, 97, 99, 116, 67, 111, 108, 108, 105, 100, 101, 80, 97, 105, 114, 115, 32, 108, 111, 111, 112, 46, 101, 120, 97, 109, 112, 108, 101, 47, 103, 48, 49, 50, 50, 52, 47, 108, 97, 119, 115, 46, 70, 110, 69, 120, 97, 99, 116, 83, 116, 101, 97, 100, 121, 83, 111, 117, 110, 100, 105, 110, 103, 32, 108, 111, 111, 112, 46, 101, 120, 97, 109, 112, 108, 101, 47, 103, 48, 49, 50, 50, 52, 47, 108, 97, 119, 115, 46, 70, 110, 69, 120, 97, 99, 116, 82, 105, 115, 101, 73, 110, 32, 108, 111, 111, 112, 46, 101, 120, 97, 109, 112, 108, 101, 47, 103, 48, 49, 50, 50, 52, 47, 108, 97, 119, 115, 46, 70, 110, 69, 120, 97, 99, 116, 84, 104, 105, 114, 100, 82, 111, 111, 116]

def letters (l : List Nat) : List Char := l.map Char.ofNat

theorem head_reads : Try.prog.initOrder = String.ofList (letters w0 ++ Char.ofNat 32 :: (letters w1 ++ Char.ofNat 32 :: (letters w2 ++ Char.ofNat 32 :: letters w3))) := by kernel_rfl

theorem no_blank {l : List Nat} (h : l.all (fun n => Char.ofNat n != Char.ofNat 32) = true) : ∀ c ∈ letters l, c ≠ Char.ofNat 32 := by
  intro c hc
  obtain ⟨n, hn, rfl⟩ := List.mem_map.1 hc
  have := List.all_eq_true.1 h n hn
  simpa using this

theorem h0 : letters w0 = "harness".toList := by kernel_rfl

theorem h2 : letters w2 = "cut".toList := by kernel_rfl

theorem sums : isSumSigns (letters w1) = true := by kernel_rfl

theorem words : wordsSigns Try.prog.initOrder.toList = "harness".toList :: letters w1 :: "cut".toList :: wordsSigns (letters w3) := by
  rw [head_reads, String.toList_ofList, words_cons _ _ (no_blank (by decide +kernel)), words_cons _ _ (no_blank (by decide +kernel)), words_cons _ _ (no_blank (by decide +kernel)), h0, h2]

theorem behind : ∃ r, behindMainWord (wordsSigns Try.prog.initOrder.toList) = "cut".toList :: r := by
  refine ⟨wordsSigns (letters w3), ?_⟩
  rw [words]
  generalize wordsSigns (letters w3) = r
  have hs := sums
  generalize letters w1 = v at hs
  unfold behindMainWord
  simp [hs]

theorem not_later : Try.prog.laysLater = false := by kernel_rfl

theorem no_reflect : Try.prog.bearsReflect = false := by kernel_rfl

theorem no_doors : Try.prog.doorFits [] = true := by kernel_rfl

theorem strips (r : List (List Char)) : stripLifts liftWords ("cut".toList :: r) = ([], "cut".toList :: r) := by kernel_rfl

theorem may_enter_of (P : Program) (r : List (List Char)) (h : behindMainWord (wordsSigns P.initOrder.toList) = "cut".toList :: r) (h1 : P.laysLater = false) (h2 : P.bearsReflect = false) (h3 : P.doorFits [] = true) : P.mayEnter = true := by
  unfold Program.mayEnter
  rw [h]
  dsimp only
  rw [strips, h1, h2, h3]
  kernel_rfl

theorem lifts_final_of (P : Program) (r : List (List Char)) (h : behindMainWord (wordsSigns P.initOrder.toList) = "cut".toList :: r) : P.liftsFinal = false := by
  unfold Program.liftsFinal Program.headLifts
  rw [h]
  dsimp only
  rw [strips]
  kernel_rfl

theorem made_of (P : Program) (r : List (List Char)) (h : behindMainWord (wordsSigns P.initOrder.toList) = "cut".toList :: r) : P.make = some .cut := by
  unfold Program.make
  rw [h]
  kernel_rfl

theorem may_enter : Try.prog.mayEnter = true := let ⟨r, h⟩ := behind; may_enter_of _ r h not_later no_reflect no_doors

theorem lifts_final : Try.prog.liftsFinal = false := let ⟨r, h⟩ := behind; lifts_final_of _ r h

theorem made : Try.prog.make = some .cut := let ⟨r, h⟩ := behind; made_of _ r h

theorem laid : laidOutB Try.prog = true := by kernel_rfl

theorem rowed : mapsRowed Try.prog = true := by kernel_rfl

theorem no_stops : Try.prog.stops = [] := by kernel_rfl

theorem no_knobs : Try.prog.stopKnobs = [] := by kernel_rfl

theorem plain_keys : Try.prog.plainKeys = false := by kernel_rfl

theorem stops_heard : Try.prog.stopsHeard = true := by kernel_rfl

theorem arr1 {α : Type} {cs : Array α} (h : cs.size = 1) : ∃ c0, cs = #[c0] := by
  obtain ⟨l⟩ := cs
  match l, h with
  | [a], _ => exact ⟨a, rfl⟩

theorem own : ownKnob Try.prog.godebug = none := by kernel_rfl

theorem cellsD : Try.prog.cellsOf 55 = 3 := by kernel_rfl

theorem typesD : Try.prog.cellTypes Try.prog.depth 55 = some (List.replicate 3 2) := by kernel_rfl

theorem rdd : Try.prog.readableRec 55 = true ∧ 55 < Try.prog.types.size := ⟨by kernel_rfl, of_decide_eq_true (by kernel_rfl)⟩
end Go.Proofs.Ythpimindkmmkjaa

namespace Go.Proofs.Ythpimindkmmkjaa.fnExactValidDeed
open Go.RowKit Go.Fl Go.ChangeShapes Go.WideShapes Go.ChangeAt

set_option maxHeartbeats 2000000 in
theorem closed : joinedFacts Try.prog 8 Try.f8 Rows.fnExactValidDeedSpec Rows.fnExactValidDeedRow = true := by
  unfold joinedFacts
  simp only [Bool.and_eq_true]
  exact ⟨⟨⟨⟨⟨⟨⟨⟨⟨⟨⟨⟨⟨⟨⟨⟨⟨⟨⟨⟨⟨⟨⟨⟨⟨⟨⟨⟨⟨⟨⟨(by as_aux_lemma => kernel_rfl),
    laid⟩,
    rowed⟩,
    (by as_aux_lemma => kernel_rfl)⟩,
    (by as_aux_lemma => kernel_rfl)⟩,
    (by as_aux_lemma => kernel_rfl)⟩,
    (by rw [no_stops]; rfl)⟩,
    (by as_aux_lemma => kernel_rfl)⟩,
    (by rw [no_knobs]; rfl)⟩,
    (by as_aux_lemma => kernel_rfl)⟩,
    (by as_aux_lemma => kernel_rfl)⟩,
    (by as_aux_lemma => kernel_rfl)⟩,
    (by as_aux_lemma => kernel_rfl)⟩,
    (by as_aux_lemma => kernel_rfl)⟩,
    (by as_aux_lemma => kernel_rfl)⟩,
    (by as_aux_lemma => kernel_rfl)⟩,
    (by as_aux_lemma => kernel_rfl)⟩,
    (by as_aux_lemma => kernel_rfl)⟩,
    (by as_aux_lemma => kernel_rfl)⟩,
    (by as_aux_lemma => kernel_rfl)⟩,
    (by as_aux_lemma => kernel_rfl)⟩,
    (by as_aux_lemma => kernel_rfl)⟩,
    (show (Rows.fnExactValidDeedRow.plainKeys == Try.prog.plainKeys) = true by rw [plain_keys]; rfl)⟩,
    (by as_aux_lemma => kernel_rfl)⟩,
    stops_heard⟩,
    may_enter⟩,
    (show (Rows.fnExactValidDeedRow.lifted == Try.prog.liftsFinal) = true by rw [lifts_final]; rfl)⟩,
    (show (Try.prog.make == some Rows.fnExactValidDeedRow.make) = true by rw [made]; rfl)⟩,
    (by as_aux_lemma => kernel_rfl)⟩,
    (by as_aux_lemma => kernel_rfl)⟩,
    (by as_aux_lemma => kernel_rfl)⟩,
    (by as_aux_lemma => kernel_rfl)⟩

set_option maxRecDepth 100000 in
theorem lifted (os : Os) (started : os.Started) (H : Type) (enc : TypeId × Value → H) :
    ReturnsInHanded {} Try.checked os 8 .any (Rows.fnExactValidDeedSpec.pre6 enc Try.prog Try.f8 Rows.fnExactValidDeedRow.domain false) (Rows.fnExactValidDeedSpec.post enc Try.prog Try.f8 false true false false) := by
  refine LawFrame.lifted (C := Try.checked) (fn := Try.f8) (n := 1) (tb := 4) started own (by kernel_rfl) Try.func8 laid ?_ rfl rfl ?_ rfl Try.underlying4
    (ChangeSpec.witness6 (enc := enc) (C := Try.checked) false ⟨#[], #[.agg (Array.replicate 3 (.int .i64 0))], []⟩ 8 (by kernel_rfl) (by kernel_rfl) (by kernel_rfl) (by kernel_rfl)) ?_
  · intro t ht
    simp only [Try.params8, List.mem_cons, List.not_mem_nil, or_false] at ht
    subst ht; exact rdd
  · intro ds hd
    match ds, hd with
    | [_], _ => rfl
  · intro W base args ds ps hval hn _
    obtain ⟨v0, rfl⟩ : ∃ v0, args = #[v0] := arr1 hn
    obtain ⟨c0, rfl, hb0⟩ := open_ints Try.underlying55 rfl Try.underlying2 cellsD typesD (hval 0 55 v0 rfl rfl)
    exact lawValidDeed c0 W

theorem over : Rows.fnExactValidDeedRow.holds Try.pinned (OpenSpec.ofChange Rows.fnExactValidDeedSpec) :=
  OpenClaim.holds_of_wide 8 Try.f8 rfl rfl rfl rfl rfl rfl rfl ⟨rfl, rfl, rfl, rfl, rfl⟩ rfl rfl rfl rfl rfl (by kernel_rfl) Try.func8 closed
    (of_decide_eq_true (by kernel_rfl)) (by unfold Func.isWrapper; rw [if_neg (by decide +kernel)]; exact ⟨rfl, rfl⟩)
    (fun os started H enc _ => lifted os started H enc)

theorem proved : Rows.FnExactValidDeedSaid := over
#print axioms proved
end Go.Proofs.Ythpimindkmmkjaa.fnExactValidDeed
