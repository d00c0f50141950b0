import Derived.Test.YtnnhoololemaaaaBGatherDust
import Derived.Test.YtnnhoololemaaaaChecked
import Derived.Test.YtnnhoololemaaaaRows
import Derived.Laws.FloatArith
import Derived.ProofKit
import Derived.WalkKit
import Derived.WalkLawsBesides
import Derived.WalkSpells
import Derived.Deep.QuietTactic
import Derived.BigQuiet
import Derived.Deep.RegionHeld3
import Derived.ChangeKeysEq
import Derived.Laws.BitsAllLaws
import Derived.Deep.MidRow
import Derived.StillTailTactics
import Derived.OpenShut
/- The law FnExactGatherDust of chapter 1: at every argument the call returns true, and what was there before it is as it was. -/
namespace Go.Proofs.Ytnnhoololemaaaa
open Go.RowKit Go.Fl

@[go_sem] theorem ext_f64bits (y : Nat) (w : World) : (callFunc 203 #[.float .f64 y]).run Try.prog w = .ok (.value (.int .u64 y)) w := by
  rw [run_callFunc_extern Try.func203 (by kernel_rfl) (by kernel_rfl) (by kernel_rfl) (e := Extern.MathFloatBits.float64bits) (by kernel_rfl)]
  rfl

@[go_sem] theorem ext_f64from (n : Int) (w : World) : (callFunc 202 #[.int .u64 n]).run Try.prog w = .ok (.value (.float .f64 n.toNat)) w := by
  rw [run_callFunc_extern Try.func202 (by kernel_rfl) (by kernel_rfl) (by kernel_rfl) (e := Extern.MathFloatBits.float64frombits) (by kernel_rfl)]
  rfl

theorem hid {p : Prop} (h : p) : Hid p := h

@[go_sem] theorem ext_f32bits (y : Nat) (w : World) : (callFunc 183 #[.float .f32 y]).run Try.prog w = .ok (.value (.int .u32 y)) w := by
  rw [run_callFunc_extern Try.func183 (by kernel_rfl) (by kernel_rfl) (by kernel_rfl) (e := Extern.MathFloatBits.float32bits) (by kernel_rfl)]
  rfl

theorem back {P : Program} {f : FuncId} {args : Array Value} {w : World} {v : Value} (h : Calls P f args w fun e w' => e = .returned v ∧ w = w') : Calls P f args w fun e w' => e = .returned v ∧ w' = w :=
  h.mono fun _ _ ⟨a, b⟩ => ⟨a, b.symm⟩

theorem l00In_t (n a b : Int) (h1 : a ≤ n) (h2 : n ≤ b) (w : World) :
    Calls Try.prog 121 #[.int .i64 n, .int .i64 a, .int .i64 b] w fun e w' => e = .returned (.bool true) ∧ w = w' := by
  go_enter Try.func121, Try.ntmps121
  go_wp2
  go_ret
  exact ⟨by first | rfl | (simp; done) | (simp; omega), rfl⟩

theorem l00In_f (n a b : Int) (hn : ¬ (a ≤ n ∧ n ≤ b)) (w : World) :
    Calls Try.prog 121 #[.int .i64 n, .int .i64 a, .int .i64 b] w fun e w' => e = .returned (.bool false) ∧ w = w' := by
  by_cases h0 : a ≤ n
  · have h3 : b < n := by omega
    clear hn
    go_enter Try.func121, Try.ntmps121
    go_wp2
    go_ret
    exact ⟨by first | rfl | (simp; done) | (simp; omega), rfl⟩
  · have h3 : n < a := by omega
    have h4 : decide (a ≤ n) = false := by simp; omega
    clear hn h0
    go_enter Try.func121, Try.ntmps121
    go_wp2
    go_ret
    exact ⟨by simp, rfl⟩

def Cnt (n : Int) : Prop := 0 ≤ n ∧ n ≤ 1000000000

def Bx (b : Nat → Int) : Prop := ∀ i, i < 21 → Cnt (b i)

theorem isCount_t (n : Int) (h : Cnt n) (w : World) :
    Calls Try.prog 169 #[.int .i64 n] w fun e w' => e = .returned (.bool true) ∧ w = w' := by
  have h1 : decide (0 ≤ n) = true := decide_eq_true h.1
  have h2 := h.2
  clear h
  go_enter Try.func169, Try.ntmps169
  go_wp2
  go_ret
  exact ⟨by first | rfl | (simp; done) | (simp; omega), rfl⟩

theorem isCount_f (n : Int) (hn : ¬ Cnt n) (w : World) :
    Calls Try.prog 169 #[.int .i64 n] w fun e w' => e = .returned (.bool false) ∧ w = w' := by
  unfold Cnt at hn
  by_cases h0 : 0 ≤ n
  · have h2 : ¬ n ≤ 1000000000 := by omega
    have h3 : 1000000000 < n := by omega
    clear hn h2
    go_enter Try.func169, Try.ntmps169
    go_wp2
    go_ret
    exact ⟨by first | rfl | (simp; done) | (simp; omega), rfl⟩
  · have h3 : n < 0 := by omega
    have h4 : decide (0 ≤ n) = false := by simp; omega
    clear hn h0
    go_enter Try.func169, Try.ntmps169
    go_wp2
    go_ret
    exact ⟨by simp, rfl⟩

theorem info_box : (Try.prog.info? 80).map (·.size) = some 21 := by kernel_rfl

theorem info_lbox : (Try.prog.info? 76).map (·.size) = some 21 := by kernel_rfl

theorem info_cnt : (Try.prog.info? 78).map (·.size) = some 20 := by kernel_rfl

theorem info_i20 : (Try.prog.info? 74).map (·.size) = some 20 := by kernel_rfl

theorem info_int : (Try.prog.info? 2).map (·.size) = some 1 := by kernel_rfl

theorem ixc (b : Nat → Int) (k : Nat) (hk : k < 20) (w : World) :
    (Instr.index 78 (.agg (vls 20 (ilw b))) (.int .i64 (k : Int))).run Try.prog w = .ok (.int .i64 (b k)) w :=
  run_index_vls Try.underlying78 Try.underlying2 rfl info_int 20 (ilw b) k hk hk w

set_option maxRecDepth 100000 in
theorem iValidBox_t (b : Nat → Int) (h : Bx b) (w : World) :
    Calls Try.prog 84 #[.agg (vls 21 (ilw b))] w fun e w' => e = .returned (.bool true) ∧ Below w.heap.size w w' := by
  have A0 := hid (vAt.new w 21 (ilw b) 80)
  have b0 := boxed w (.cells (vls 21 (ilw b)) 80)
  have H := hid h
  clear h
  have hc20 : Cnt (b 20) := H.out 20 (by omega)
  have q20 := A0.out.cell (k := 20) (by omega)
  go_enter Try.func84, Try.ntmps84
  go_wp2_with (refine wpList_load_head rfl 78 _ rfl w.heap.size rfl 21 (ilw b) 80 A0.out 20 (by omega) _ Try.underlying78 rfl info_cnt ?_)
  go_loop [7] (fun i => ∃ k : Nat, k ≤ 20 ∧ i = .int .i64 k) (fun i => 20 - (intOf i).toNat)
  case atStart => exact ⟨0, by omega, rfl⟩
  case round =>
    obtain ⟨k, hk, rfl⟩ := hrel
    by_cases hlt : k < 20
    · have hix := ixc b k hlt
      go_wp2_with (go_at_call 169; refine (isCount_t (b k) (H.out k (by omega)) _).mono ?_; rintro e w' ⟨rfl, rfl⟩)
      go_round
      case rel => exact ⟨k + 1, by omega, by go_num⟩
      case measure => simp [intOf]; omega
    · go_wp2_with (go_at_call 169; refine (isCount_t (b 20) hc20 _).mono ?_; rintro e w' ⟨rfl, rfl⟩)
      go_ret
      exact ⟨rfl, b0⟩

set_option maxRecDepth 100000 in
theorem iValidBox_f (b : Nat → Int) (h : ¬ Bx b) (w : World) :
    Calls Try.prog 84 #[.agg (vls 21 (ilw b))] w fun e w' => e = .returned (.bool false) ∧ Below w.heap.size w w' := by
  have A0 := hid (vAt.new w 21 (ilw b) 80)
  have b0 := boxed w (.cells (vls 21 (ilw b)) 80)
  have H := hid h
  clear h
  have q20 := A0.out.icell (k := 20) (by omega)
  go_enter Try.func84, Try.ntmps84
  go_wp2_with (refine wpList_load_head rfl 78 _ rfl w.heap.size rfl 21 (ilw b) 80 A0.out 20 (by omega) _ Try.underlying78 rfl info_cnt ?_)
  go_loop [7] (fun i => ∃ k : Nat, k ≤ 20 ∧ Hid (∀ i, i < k → Cnt (b i)) ∧ i = .int .i64 k) (fun i => 20 - (intOf i).toNat)
  case atStart => exact ⟨0, by omega, hid (fun i hi => by omega), rfl⟩
  case round =>
    obtain ⟨k, hk, HK, rfl⟩ := hrel
    by_cases hlt : k < 20
    · have hix := ixc b k hlt
      by_cases hc : Cnt (b k)
      · have HC := hid hc
        clear hc
        go_wp2_with (go_at_call 169; refine (isCount_t (b k) HC.out _).mono ?_; rintro e w' ⟨rfl, rfl⟩)
        go_round
        case rel => exact ⟨k + 1, by omega, hid (all_step HK.out HC.out), by go_num⟩
        case measure => simp [intOf]; omega
      · have HC := hid hc
        clear hc
        go_wp2_with (go_at_call 169; refine (isCount_f (b k) HC.out _).mono ?_; rintro e w' ⟨rfl, rfl⟩)
        go_ret
        exact ⟨rfl, b0⟩
    · have hc : ¬ Cnt (b 20) := fun hc => H.out fun i hi => by
        rcases Nat.lt_or_eq_of_le (Nat.le_of_lt_succ hi) with h1 | h1
        · exact HK.out i (by omega)
        · rw [h1]; exact hc
      have HC := hid hc
      clear hc
      go_wp2_with (go_at_call 169; refine (isCount_f (b 20) HC.out _).mono ?_; rintro e w' ⟨rfl, rfl⟩)
      go_ret
      exact ⟨rfl, b0⟩

set_option maxRecDepth 100000 in
theorem sBoxOk_t (b : Nat → Int) (h : Bx b) (w : World) (g : Nat) (T : TypeId) (hg : vAt w g 21 (ilw b) T) :
    Calls Try.prog 167 #[.pointer (some ⟨g, 0, none⟩)] w fun e w' => e = .returned (.bool true) ∧ w = w' := by
  have H := hid h
  have G := hid hg
  clear h hg
  have q20 := G.out.icell (k := 20) (by omega)
  go_enter Try.func167, Try.ntmps167
  go_wp2
  go_loop [3] (fun i => ∃ k : Nat, k ≤ 20 ∧ i = .int .i64 k) (fun i => 20 - (intOf i).toNat)
  case atStart => exact ⟨0, by omega, rfl⟩
  case round =>
    obtain ⟨k, hk, rfl⟩ := hrel
    by_cases hlt : k < 20
    · have q := G.out.icell (k := k) (by omega)
      go_wp2_with (go_at_call 121; refine (l00In_t (b k) 0 1000000000 (H.out k (by omega)).1 (H.out k (by omega)).2 _).mono ?_; rintro e w' ⟨rfl, rfl⟩)
      go_round
      case rel => exact ⟨k + 1, by omega, by go_num⟩
      case measure => simp [intOf]; omega
    · go_wp2_with (go_at_call 121; refine (l00In_t (b 20) 0 1000000000 (H.out 20 (by omega)).1 (H.out 20 (by omega)).2 _).mono ?_; rintro e w' ⟨rfl, rfl⟩)
      go_ret
      exact ⟨rfl, rfl⟩

set_option maxRecDepth 100000 in
theorem sBoxOk_f (b : Nat → Int) (h : ¬ Bx b) (w : World) (g : Nat) (T : TypeId) (hg : vAt w g 21 (ilw b) T) :
    Calls Try.prog 167 #[.pointer (some ⟨g, 0, none⟩)] w fun e w' => e = .returned (.bool false) ∧ w = w' := by
  have H := hid h
  have G := hid hg
  clear h hg
  have q20 := G.out.icell (k := 20) (by omega)
  go_enter Try.func167, Try.ntmps167
  go_wp2
  go_loop [3] (fun i => ∃ k : Nat, k ≤ 20 ∧ Hid (∀ i, i < k → Cnt (b i)) ∧ i = .int .i64 k) (fun i => 20 - (intOf i).toNat)
  case atStart => exact ⟨0, by omega, hid (fun i hi => by omega), rfl⟩
  case round =>
    obtain ⟨k, hk, HK, rfl⟩ := hrel
    by_cases hlt : k < 20
    · have q := G.out.icell (k := k) (by omega)
      by_cases hc : Cnt (b k)
      · have HC := hid hc
        clear hc
        go_wp2_with (go_at_call 121; refine (l00In_t (b k) 0 1000000000 HC.out.1 HC.out.2 _).mono ?_; rintro e w' ⟨rfl, rfl⟩)
        go_round
        case rel => exact ⟨k + 1, by omega, hid (all_step HK.out HC.out), by go_num⟩
        case measure => simp [intOf]; omega
      · have HC := hid hc
        clear hc
        go_wp2_with (go_at_call 121; refine (l00In_f (b k) 0 1000000000 HC.out _).mono ?_; rintro e w' ⟨rfl, rfl⟩)
        go_ret
        exact ⟨rfl, rfl⟩
    · have hc : ¬ Cnt (b 20) := fun hc => H.out fun i hi => by
        rcases Nat.lt_or_eq_of_le (Nat.le_of_lt_succ hi) with h1 | h1
        · exact HK.out i (by omega)
        · rw [h1]; exact hc
      have HC := hid hc
      clear hc
      go_wp2_with (go_at_call 121; refine (l00In_f (b 20) 0 1000000000 HC.out _).mono ?_; rintro e w' ⟨rfl, rfl⟩)
      go_ret
      exact ⟨rfl, rfl⟩

set_option maxRecDepth 100000 in
theorem toCounts (b : Nat → Int) (w : World) :
    Calls Try.prog 168 #[.agg (vls 20 (ilw b))] w fun e w' => e = .returned (.agg (vls 20 (ilw b))) ∧ Below w.heap.size w w' := by
  have A0 := hid (((vAt.new w 20 (ilw b) 74).alloc (.cells (vls 20 (ilw fun _ => 0)) 78)).alloc (.cells (vls 20 (ilw fun _ => 0)) 78))
  have A1 := hid ((vAt.new1 w (.cells (vls 20 (ilw b)) 74) 20 (ilw fun _ => 0) 78).alloc (.cells (vls 20 (ilw fun _ => 0)) 78))
  have A2 := hid (vAt.new2 w (.cells (vls 20 (ilw b)) 74) (.cells (vls 20 (ilw fun _ => 0)) 78) 20 (ilw fun _ => 0) 78)
  have b0 := boxed3 w (.cells (vls 20 (ilw b)) 74) (.cells (vls 20 (ilw fun _ => 0)) 78) (.cells (vls 20 (ilw fun _ => 0)) 78)
  go_enter Try.func168, Try.ntmps168
  go_wp2
  go_loopw [4] (fun i wr => ∃ k : Nat, k ≤ 20 ∧ i = .int .i64 k ∧ Hid (vAt wr w.heap.size 20 (ilw b) 74) ∧ Hid (vAt wr (w.heap.size + 1) 20 (ilw fun _ => 0) 78) ∧ Hid (vAt wr (w.heap.size + 1 + 1) 20 (prtV (ilw b) (ilw fun _ => 0) k) 78) ∧ Hid (Below w.heap.size w wr)) (fun i _ => 20 - (intOf i).toNat)
  case atStart => exact ⟨0, by omega, rfl, A0, A1, hid (A2.out.ext fun i _ => (prtV_zero _ _ i).symm), hid b0⟩
  case round =>
    obtain ⟨k, hk, rfl, h0, h1, h2, hb⟩ := hrel
    by_cases hlt : k < 20
    · have q0 := h0.out.icell hlt
      have q2 := h2.out.cell hlt
      have f2 := h2.out.frozen k
      go_wp2
      go_roundw
      case rel => exact ⟨k + 1, by omega, by go_num, hid (h0.out.setOther (by simp; omega) _), hid (h1.out.setOther (by simp) _), hid ((h2.out.set k (ilw b k)).ext (fun i _ => prtV_succ _ _ k i)), hid (hb.out.setCell (by simp; omega) _)⟩
      case measure => simp [intOf]; omega
    · obtain rfl : k = 20 := by omega
      have h2' := hid (h2.out.ext (prtV_all _ _ 20))
      clear h2
      go_wp2_with (first | (refine wpList_load_row rfl 78 _ rfl (w.heap.size + 1 + 1) rfl 78 (vls 20 (ilw b)) (0, 0) _ h2'.out Try.underlying78 rfl (by rw [vls_size]; exact info_cnt) ?_) | (refine wpList_store_row rfl 78 _ _ rfl (w.heap.size + 1) (vls 20 (ilw b)) rfl rfl 78 _ h1.out (by rw [vls_size]; exact info_cnt) (by simp) (vls_one (ilw_one b)) ?_))
      exact bodyPost_ret (results_cell_row rfl _ _ (w.heap.size + 1) 78 (vls 20 (ilw b)) (0, 0) _ rfl (h1.out.setRow (ilw b)) Try.underlying78 rfl (by rw [vls_size]; exact info_cnt)) rfl ⟨rfl, below_row hb.out (by omega) _⟩

theorem box_last (b : Nat → Int) (i : Nat) (hi : i < 21) : updV (prtV (ilw b) (ilw fun _ => 0) 20) 20 (.int .i64 (b 20)) i = ilw b i := by
  unfold updV prtV ilw
  by_cases h1 : i = 20
  · rw [if_pos h1, h1]
  · rw [if_neg h1, if_pos (by omega)]

set_option maxRecDepth 100000 in
theorem toBox (b : Nat → Int) (w : World) :
    Calls Try.prog 83 #[.agg (vls 21 (ilw b))] w fun e w' => e = .returned (.agg (vls 21 (ilw b))) ∧ Below w.heap.size w w' := by
  have A0 := hid (((vAt.new w 21 (ilw b) 76).alloc (.cells (vls 21 (ilw fun _ => 0)) 80)).alloc (.cells (vls 21 (ilw fun _ => 0)) 80))
  have A1 := hid ((vAt.new1 w (.cells (vls 21 (ilw b)) 76) 21 (ilw fun _ => 0) 80).alloc (.cells (vls 21 (ilw fun _ => 0)) 80))
  have A2 := hid (vAt.new2 w (.cells (vls 21 (ilw b)) 76) (.cells (vls 21 (ilw fun _ => 0)) 80) 21 (ilw fun _ => 0) 80)
  have b0 := boxed3 w (.cells (vls 21 (ilw b)) 76) (.cells (vls 21 (ilw fun _ => 0)) 80) (.cells (vls 21 (ilw fun _ => 0)) 80)
  go_enter Try.func83, Try.ntmps83
  go_wp2_with (refine wpList_load_head rfl 74 _ rfl w.heap.size rfl 21 (ilw b) 76 A0.out 20 (by omega) _ Try.underlying74 rfl info_i20 ?_)
  refine (toCounts b _).mono ?_
  rintro e w1 ⟨rfl, hb1⟩
  have A0 := hid (A0.out.stay hb1)
  have A1 := hid (A1.out.stay hb1)
  have A2 := hid (A2.out.stay hb1)
  have c0 := stp b0 (Nat.le_refl _) hb1
  have N0 := hid (A0.out.setPartOther (k := w.heap.size + 1 + 1) (by omega) 0 (vls 20 (ilw b)).toList)
  have N1 := hid (A1.out.setPartOther (k := w.heap.size + 1 + 1) (by omega) 0 (vls 20 (ilw b)).toList)
  have N2 := hid ((A2.out.setPart 0 20 (ilw b)).ext fun i _ => updR_zero _ _ _ i)
  have nb := below_cells (g := w.heap.size + 1 + 1) (by omega) (vls 20 (ilw b)).toList 0 c0
  clear A0 A1 b0 c0
  have tok1 : True := trivial
  go_wp2_with (first | (have _t := M2; refine wpList_load_row rfl 80 _ rfl (w.heap.size + 1 + 1) rfl 80 (vls 21 (ilw b)) (0, 0) _ M2.out Try.underlying80 rfl (by rw [vls_size]; exact info_box) ?_) | (have _t := M2; refine wpList_store_row rfl 80 _ _ rfl (w.heap.size + 1) (vls 21 (ilw b)) rfl rfl 80 _ M1.out (by rw [vls_size]; exact info_box) (by simp) (vls_one (ilw_one b)) ?_) | (have _t := tok1; refine wpList_store_head rfl 78 _ _ rfl (w.heap.size + 1 + 1) 20 (ilw b) rfl rfl 21 (ilw fun _ => 0) 80 A2.out (by omega) info_cnt (ilw_one b) ?_; intro w9 hw9; rw [← hw9] at N0 N1 N2 nb; clear hw9 A2 tok1; have q0 := N0.out.icell (k := 20) (by omega); have q2 := N2.out.cell (k := 20) (by omega); have f2 := N2.out.frozen 20; have M1 := hid (N1.out.setOther (a := ⟨w.heap.size + 1 + 1, 20, none⟩) (by simp) (.int .i64 (b 20))); have M2 := hid ((N2.out.set 20 (.int .i64 (b 20))).ext (d := ilw b) (box_last b)); have mb := nb.setCell (p := ⟨w.heap.size + 1 + 1, 20, none⟩) (by simp; omega) (.int .i64 (b 20))))
  exact bodyPost_ret (results_cell_row rfl _ _ (w.heap.size + 1) 80 (vls 21 (ilw b)) (0, 0) _ rfl (M1.out.setRow (ilw b)) Try.underlying80 rfl (by rw [vls_size]; exact info_box)) rfl ⟨rfl, below_row mb (by omega) _⟩

theorem iUnits (k : Nat) (hk : k < 20) (w : World) :
    Calls Try.prog 170 #[.int .i64 (k : Int)] w fun e w' => e = .returned (.int .i64 ((2 : Int) ^ k)) ∧ w = w' := by
  have H : k = 0 ∨ k = 1 ∨ k = 2 ∨ k = 3 ∨ k = 4 ∨ k = 5 ∨ k = 6 ∨ k = 7 ∨ k = 8 ∨ k = 9 ∨ k = 10 ∨ k = 11 ∨ k = 12 ∨ k = 13 ∨ k = 14 ∨ k = 15 ∨ k = 16 ∨ k = 17 ∨ k = 18 ∨ k = 19 := by omega
  rcases H with rfl | rfl | rfl | rfl | rfl | rfl | rfl | rfl | rfl | rfl | rfl | rfl | rfl | rfl | rfl | rfl | rfl | rfl | rfl | rfl
  all_goals
    go_enter Try.func170, Try.ntmps170
    go_wp2
    go_ret
    exact ⟨rfl, rfl⟩

theorem pow_le (k : Nat) (hk : k < 20) : (1 : Int) ≤ (2 : Int) ^ k ∧ (2 : Int) ^ k ≤ 524288 := by
  have H : k = 0 ∨ k = 1 ∨ k = 2 ∨ k = 3 ∨ k = 4 ∨ k = 5 ∨ k = 6 ∨ k = 7 ∨ k = 8 ∨ k = 9 ∨ k = 10 ∨ k = 11 ∨ k = 12 ∨ k = 13 ∨ k = 14 ∨ k = 15 ∨ k = 16 ∨ k = 17 ∨ k = 18 ∨ k = 19 := by omega
  rcases H with rfl | rfl | rfl | rfl | rfl | rfl | rfl | rfl | rfl | rfl | rfl | rfl | rfl | rfl | rfl | rfl | rfl | rfl | rfl | rfl <;> decide

theorem wrap_id {n : Int} (h1 : -9223372036854775808 ≤ n) (h2 : n ≤ 9223372036854775807) : wrap64 n = n := by
  unfold wrap64; omega

set_option maxRecDepth 100000 in
theorem iWithin_t (b : Nat → Int) (h : Bx b) (w : World) :
    Calls Try.prog 174 #[.agg (vls 21 (ilw b))] w fun e w' => e = .returned (.tuple #[.agg (vls 21 (ilw b)), .int .i64 0]) ∧ Below w.heap.size w w' := by
  have A0 := hid ((vAt.new w 21 (ilw b) 80).alloc (.cells (vls 21 (ilw fun _ => 0)) 80))
  have A1 := hid (vAt.new1 w (.cells (vls 21 (ilw b)) 80) 21 (ilw fun _ => 0) 80)
  have b0 := boxed2 w (.cells (vls 21 (ilw b)) 80) (.cells (vls 21 (ilw fun _ => 0)) 80)
  have H := hid h
  clear h
  go_enter Try.func174, Try.ntmps174
  go_wp2_with (refine wpList_load_row rfl 80 _ rfl (w.heap.size) rfl 80 (vls 21 (ilw b)) (0, 0) _ A0.out Try.underlying80 rfl (by rw [vls_size]; exact info_box) ?_)
  refine (iValidBox_t b H.out _).mono ?_
  rintro e w1 ⟨rfl, hb1⟩
  have A0 := hid (A0.out.stay hb1)
  have A1 := hid (A1.out.stay hb1)
  have c0 := stp b0 (Nat.le_refl _) hb1
  go_wp2_with (first | (refine wpList_load_row rfl 80 _ rfl (w.heap.size) rfl 80 (vls 21 (ilw b)) (0, 0) _ A0.out Try.underlying80 rfl (by rw [vls_size]; exact info_box) ?_) | (refine wpList_store_row rfl 80 _ _ rfl (w.heap.size + 1) (vls 21 (ilw b)) rfl rfl 80 _ A1.out (by rw [vls_size]; exact info_box) (by simp) (vls_one (ilw_one b)) ?_))
  exact bodyPost_ret (results_row_tmp rfl _ _ (w.heap.size + 1) 80 (vls 21 (ilw b)) (0, 0) _ rfl (A1.out.setRow (ilw b)) Try.underlying80 rfl (by rw [vls_size]; exact info_box)) rfl ⟨rfl, below_row c0 (by omega) _⟩

set_option maxRecDepth 100000 in
theorem iWithin_f (b : Nat → Int) (h : ¬ Bx b) (w : World) :
    Calls Try.prog 174 #[.agg (vls 21 (ilw b))] w fun e w' => e = .returned (.tuple #[.agg (vls 21 (ilw fun _ => 0)), .int .i64 3]) ∧ Below w.heap.size w w' := by
  have A0 := hid ((vAt.new w 21 (ilw b) 80).alloc (.cells (vls 21 (ilw fun _ => 0)) 80))
  have A1 := hid (vAt.new1 w (.cells (vls 21 (ilw b)) 80) 21 (ilw fun _ => 0) 80)
  have b0 := boxed2 w (.cells (vls 21 (ilw b)) 80) (.cells (vls 21 (ilw fun _ => 0)) 80)
  have H := hid h
  clear h
  go_enter Try.func174, Try.ntmps174
  go_wp2_with (refine wpList_load_row rfl 80 _ rfl (w.heap.size) rfl 80 (vls 21 (ilw b)) (0, 0) _ A0.out Try.underlying80 rfl (by rw [vls_size]; exact info_box) ?_)
  refine (iValidBox_f b H.out _).mono ?_
  rintro e w1 ⟨rfl, hb1⟩
  have A1 := hid (A1.out.stay hb1)
  have c0 := stp b0 (Nat.le_refl _) hb1
  go_wp2_with (refine wpList_store_row rfl 80 _ _ rfl (w.heap.size + 1) (vls 21 (ilw fun _ => 0)) rfl rfl 80 _ A1.out (by rw [vls_size]; exact info_box) (by simp) (vls_one (ilw_one _)) ?_)
  exact bodyPost_ret (results_row_tmp rfl _ _ (w.heap.size + 1) 80 (vls 21 (ilw fun _ => 0)) (0, 0) _ rfl (A1.out.setRow (ilw fun _ => 0)) Try.underlying80 rfl (by rw [vls_size]; exact info_box)) rfl ⟨rfl, below_row c0 (by omega) _⟩

/-- Dust becomes droplets of the class k. -/
def gat1 (c : Nat → Int) (k : Nat) : Nat → Int := updI (updI c k (c k + c 20 / (2 : Int) ^ k)) 20 (c 20 % (2 : Int) ^ k)

/-- .. of the greatest j classes. -/
def gath (b : Nat → Int) : Nat → Nat → Int
  | 0 => b
  | j + 1 => gat1 (gath b j) (19 - j)

theorem updI_same (b : Nat → Int) (k : Nat) (x : Int) : updI b k x k = x := if_pos rfl

theorem updI_ne (b : Nat → Int) (k : Nat) (x : Int) {i : Nat} (h : i ≠ k) : updI b k x i = b i := if_neg h

theorem wrapEq (x : Int) : IntKind.i64.wrap x = wrap64 x := by rw [IntKind.wrap_i64]; unfold wrap64; first | rfl | omega

theorem wrapI {n : Int} (h1 : -9223372036854775808 ≤ n) (h2 : n ≤ 9223372036854775807) : IntKind.i64.wrap n = n := by rw [wrapEq, wrap_id h1 h2]

theorem div_bnd {x p : Int} (h0 : 0 ≤ x) (h1 : 1 ≤ p) : 0 ≤ x / p ∧ x / p ≤ x ∧ 0 ≤ x % p ∧ x % p ≤ x :=
  ⟨Int.ediv_nonneg h0 (by omega), Int.ediv_le_self _ h0, Int.emod_nonneg _ (by omega), by
    have := Int.mul_ediv_add_emod x p
    have h2 := Int.mul_nonneg (show 0 ≤ p by omega) (Int.ediv_nonneg h0 (show 0 ≤ p by omega))
    omega⟩

theorem gath_bnd {b : Nat → Int} (h : Bx b) : ∀ j, j ≤ 20 → (0 ≤ gath b j 20 ∧ gath b j 20 ≤ 1000000000) ∧ ∀ i, i < 20 → 0 ≤ gath b j i ∧ gath b j i ≤ 1000000000 + 1000000000 * (j : Int)
  | 0, _ => ⟨h 20 (by omega), fun i hi => by have := h i (by omega); unfold Cnt at this; simp only [gath]; omega⟩
  | j + 1, hj => by
    obtain ⟨h1, h2⟩ := gath_bnd h j (by omega)
    have hp := pow_le (19 - j) (by omega)
    have hd := div_bnd (p := (2 : Int) ^ (19 - j)) h1.1 hp.1
    refine ⟨?_, fun i hi => ?_⟩
    · show 0 ≤ gat1 (gath b j) (19 - j) 20 ∧ gat1 (gath b j) (19 - j) 20 ≤ _
      unfold gat1
      rw [updI_same]; omega
    · have h3 := h2 i hi
      show 0 ≤ gat1 (gath b j) (19 - j) i ∧ gat1 (gath b j) (19 - j) i ≤ _
      unfold gat1
      rw [updI_ne _ _ _ (by omega)]
      by_cases e : i = 19 - j
      · rw [e] at h3 ⊢
        rw [updI_same]; omega
      · rw [updI_ne _ _ _ e]; omega

theorem gath_add {b : Nat → Int} (h : Bx b) (j : Nat) (hj : j < 20) (k : Nat) (hk : k < 20) : IntKind.i64.wrap (gath b j k + IntKind.i64.wrap ((gath b j 20).tdiv ((2 : Int) ^ k))) = gath b j k + gath b j 20 / (2 : Int) ^ k := by
  obtain ⟨h1, h2⟩ := gath_bnd h j (by omega)
  have h3 := h2 k hk
  have hp := pow_le k hk
  have hd := div_bnd (p := (2 : Int) ^ k) h1.1 hp.1
  rw [Int.tdiv_eq_ediv_of_nonneg h1.1, wrapI (n := gath b j 20 / (2 : Int) ^ k) (by omega) (by omega)]
  exact wrapI (by omega) (by omega)

theorem gath_mod {b : Nat → Int} (h : Bx b) (j : Nat) (hj : j < 20) (k : Nat) : (gath b j 20).tmod ((2 : Int) ^ k) = gath b j 20 % (2 : Int) ^ k := by
  obtain ⟨h1, _⟩ := gath_bnd h j (by omega)
  exact Int.tmod_eq_emod_of_nonneg h1.1

set_option maxRecDepth 100000 in
theorem iGatherDust_t (b : Nat → Int) (h : Bx b) (r : Nat → Int) (q : Int) (hr : ∀ w, Calls Try.prog 174 #[.agg (vls 21 (ilw (gath b 20)))] w fun e w' => e = .returned (.tuple #[.agg (vls 21 (ilw r)), .int .i64 q]) ∧ Below w.heap.size w w') (w : World) :
    Calls Try.prog 103 #[.agg (vls 21 (ilw b))] w fun e w' => e = .returned (.tuple #[.agg (vls 21 (ilw r)), .int .i64 q]) ∧ Below w.heap.size w w' := by
  have A0 := hid ((vAt.new w 21 (ilw b) 80).alloc (.cells (vls 21 (ilw fun _ => 0)) 80))
  have A1 := hid (vAt.new1 w (.cells (vls 21 (ilw b)) 80) 21 (ilw fun _ => 0) 80)
  have b0 := boxed2 w (.cells (vls 21 (ilw b)) 80) (.cells (vls 21 (ilw fun _ => 0)) 80)
  have H := hid h
  clear h
  go_enter Try.func103, Try.ntmps103
  go_wp2_with (refine wpList_load_row rfl 80 _ rfl (w.heap.size) rfl 80 (vls 21 (ilw b)) (0, 0) _ A0.out Try.underlying80 rfl (by rw [vls_size]; exact info_box) ?_)
  refine (iValidBox_t b H.out _).mono ?_
  rintro e w1 ⟨rfl, hb1⟩
  have A0 := hid (A0.out.stay hb1)
  have A1 := hid (A1.out.stay hb1)
  have c0 := stp b0 (Nat.le_refl _) hb1
  have hl := hb1.size
  simp at hl
  have HL := hid hl
  clear hl b0 hb1
  have A2 := hid (vAt.new w1 21 (ilw fun _ => 0) 80)
  have M1 := hid ((A1.out.alloc (.cells (vls 21 (ilw fun _ => 0)) 80)).setRowOther (k := w1.heap.size) (Nat.ne_of_lt A1.out.lt) (vls 21 (ilw b)))
  have M2 := hid (A2.out.setRow (ilw b))
  have c1 := below_row (c0.alloc c0.size (.cells (vls 21 (ilw fun _ => 0)) 80)) c0.size (g := w1.heap.size) (vls 21 (ilw b))
  have tok1 : True := trivial
  go_wp2_with (first | (have _t := tok1; refine wpList_load_row rfl 80 _ rfl (w.heap.size) rfl 80 (vls 21 (ilw b)) (0, 0) _ A0.out Try.underlying80 rfl (by rw [vls_size]; exact info_box) ?_) | (have _t := tok1; refine wpList_store_row rfl 80 _ _ rfl (w1.heap.size) (vls 21 (ilw b)) rfl rfl 80 _ A2.out (by rw [vls_size]; exact info_box) (by simp) (vls_one (ilw_one b)) ?_; generalize ((w1.alloc (.cells (vls 21 (ilw fun _ => 0)) 80)).setRow w1.heap.size (vls 21 (ilw b))) = w9 at M1 M2 c1 ⊢; clear A0 A1 A2 tok1))
  have hl := HL.out
  go_loopw [5] (fun i wr => ∃ j : Nat, j ≤ 20 ∧ i = .int .i64 (19 - (j : Int)) ∧ Hid (vAt wr (w.heap.size + 1) 21 (ilw fun _ => 0) 80) ∧ Hid (vAt wr w1.heap.size 21 (ilw (gath b j)) 80) ∧ Hid (Below w.heap.size w wr)) (fun i _ => (intOf i + 1).toNat)
  case atStart => exact ⟨0, by omega, rfl, M1, M2, hid c1⟩
  case round =>
    obtain ⟨j, hj, rfl, h1, h2, hb⟩ := hrel
    by_cases hlt : j < 20
    · obtain ⟨k, hk, hk2⟩ : ∃ k : Nat, (19 - (j : Int)) = (k : Int) ∧ k < 20 := ⟨19 - j, by omega, by omega⟩
      rw [hk]
      have hk3 : (k : Int) < 20 := by omega
      have hp0 : ¬ (2 : Int) ^ k = 0 := by have := pow_le k hk2; omega
      have ek := hid (show k = 19 - j by omega)
      go_wp2_with fail
      have h1 := hid h1.out.drew
      have h2 := hid h2.out.drew
      have hb := hid hb.out.drew
      refine wp_region_still_tail 12 (by kernel_rfl) (by kernel_rfl) ?_
      change wpStill _ _ wr.drew (fun a' => wpList _ _ _ _ a' wr.drew) _ _
      simp only [List.take_succ_cons, List.take_zero, List.drop_succ_cons, List.drop_zero]
      generalize wr.drew = w2 at h1 h2 hb ⊢
      have q2 := h2.out.icell (k := k) (by omega)
      have q3 := h2.out.icell (k := 20) (by omega)
      have f2 := h2.out.frozen k
      repeat still_step
      still_call (back (iUnits k hk2 _))
      repeat still_step
      refine wpStill_nil ?_
      rw [gath_add H.out j hlt k hk2]
      have M1 := hid (h1.out.setOther (a := ⟨w1.heap.size, k, none⟩) (by simp; omega) (.int .i64 (gath b j k + gath b j 20 / (2 : Int) ^ k)))
      have M2 := hid (h2.out.iset k (gath b j k + gath b j 20 / (2 : Int) ^ k))
      have mb := hb.out.setCell (p := ⟨w1.heap.size, k, none⟩) (by simp; omega) (.int .i64 (gath b j k + gath b j 20 / (2 : Int) ^ k))
      clear h1 hb
      go_wp2_with fail
      clear h2 q2 q3 f2
      generalize w2.setCell ⟨w1.heap.size, k, none⟩ (.int .i64 (gath b j k + gath b j 20 / (2 : Int) ^ k)) = w3 at M1 M2 mb ⊢
      have M1 := hid M1.out.drew
      have M2 := hid M2.out.drew
      have mb := mb.drew
      refine wp_region_still_tail 6 (by kernel_rfl) (by kernel_rfl) ?_
      change wpStill _ _ w3.drew (fun a' => wpList _ _ _ _ a' w3.drew) _ _
      simp only [List.take_succ_cons, List.take_zero, List.drop_succ_cons, List.drop_zero]
      generalize w3.drew = w4 at M1 M2 mb ⊢
      have q3 : w4.cell? ⟨w1.heap.size, 20, none⟩ = some (.int .i64 (gath b j 20)) := (M2.out.icell (k := 20) (by omega)).trans (by rw [updI_ne _ _ _ (by omega)])
      have f3 := M2.out.frozen 20
      repeat still_step
      still_call (back (iUnits k hk2 _))
      repeat still_step
      refine wpStill_nil ?_
      rw [gath_mod H.out j hlt k]
      have K1 := hid (M1.out.setOther (a := ⟨w1.heap.size, 20, none⟩) (by simp; omega) (.int .i64 (gath b j 20 % (2 : Int) ^ k)))
      have K2 := hid (M2.out.iset 20 (gath b j 20 % (2 : Int) ^ k))
      have kb := mb.setCell (p := ⟨w1.heap.size, 20, none⟩) (by simp; omega) (.int .i64 (gath b j 20 % (2 : Int) ^ k))
      go_wp2
      go_roundw
      case rel => exact ⟨j + 1, by omega, by first | rfl | (simp; done) | (simp; omega), K1, by rw [show gath b (j + 1) = gat1 (gath b j) k by rw [ek.out]; rfl]; exact K2, hid kb⟩
      case measure => first | (simp [intOf]; done) | (simp [intOf]; omega)
    · obtain rfl : j = 20 := by omega
      go_wp2_with (refine wpList_load_row rfl 80 _ rfl (w1.heap.size) rfl 80 (vls 21 (ilw (gath b 20))) (0, 0) _ h2.out Try.underlying80 rfl (by rw [vls_size]; exact info_box) ?_)
      refine (hr _).mono ?_
      rintro e w5 ⟨rfl, hb5⟩
      have K1 := hid (h1.out.stay hb5)
      have kb := stp hb.out (Nat.le_refl _) hb5
      go_wp2_with (refine wpList_store_row rfl 80 _ _ rfl (w.heap.size + 1) (vls 21 (ilw r)) rfl rfl 80 _ K1.out (by rw [vls_size]; exact info_box) (by simp) (vls_one (ilw_one r)) ?_)
      exact bodyPost_ret (results_row_tmp rfl _ _ (w.heap.size + 1) 80 (vls 21 (ilw r)) (0, 0) _ rfl (K1.out.setRow (ilw r)) Try.underlying80 rfl (by rw [vls_size]; exact info_box)) rfl ⟨rfl, below_row kb (by omega) _⟩

theorem gath_adds {b : Nat → Int} (h : Bx b) (j : Nat) (hj : j < 20) (k : Nat) (hk : k < 20) : wrap64 (gath b j k + gath b j 20 / (2 : Int) ^ k) = gath b j k + gath b j 20 / (2 : Int) ^ k := by
  obtain ⟨h1, h2⟩ := gath_bnd h j (by omega)
  have h3 := h2 k hk
  have hp := pow_le k hk
  have hd := div_bnd (p := (2 : Int) ^ k) h1.1 hp.1
  exact wrap_id (by omega) (by omega)

theorem gath_subs {b : Nat → Int} (h : Bx b) (j : Nat) (hj : j < 20) (k : Nat) (hk : k < 20) : wrap64 (gath b j 20 - wrap64 (gath b j 20 / (2 : Int) ^ k * (2 : Int) ^ k)) = gath b j 20 % (2 : Int) ^ k := by
  obtain ⟨h1, _⟩ := gath_bnd h j (by omega)
  have hp := pow_le k hk
  have hd := div_bnd (p := (2 : Int) ^ k) h1.1 hp.1
  have he := Int.mul_ediv_add_emod (gath b j 20) ((2 : Int) ^ k)
  rw [Int.mul_comm] at he
  rw [wrap_id (n := gath b j 20 / (2 : Int) ^ k * (2 : Int) ^ k) (by omega) (by omega)]
  rw [wrap_id (by omega) (by omega)]
  omega

set_option maxRecDepth 100000 in
theorem sGatherDust_t (b : Nat → Int) (h : Bx b) (r : Nat → Int) (q : Int) (hq : (Bx (gath b 20) ∧ r = gath b 20 ∧ q = 0) ∨ (¬ Bx (gath b 20) ∧ r = (fun _ => 0) ∧ q = 3)) (w : World) :
    Calls Try.prog 102 #[.agg (vls 21 (ilw b))] w fun e w' => e = .returned (.tuple #[.agg (vls 21 (ilw r)), .int .i64 q]) ∧ Below w.heap.size w w' := by
  have A0 := hid ((vAt.new w 21 (ilw b) 80).alloc (.cells (vls 21 (ilw fun _ => 0)) 80))
  have A1 := hid (vAt.new1 w (.cells (vls 21 (ilw b)) 80) 21 (ilw fun _ => 0) 80)
  have b0 := boxed2 w (.cells (vls 21 (ilw b)) 80) (.cells (vls 21 (ilw fun _ => 0)) 80)
  have H := hid h
  have HQ := hid hq
  clear h hq
  go_enter Try.func102, Try.ntmps102
  go_wp2_with fail
  refine (sBoxOk_t b H.out _ w.heap.size 80 A0.out).mono ?_
  rintro e w1 ⟨rfl, rfl⟩
  generalize ((w.alloc (.cells (vls 21 (ilw b)) 80)).alloc (.cells (vls 21 (ilw fun _ => 0)) 80)) = w1 at A0 A1 b0 ⊢
  go_wp2
  go_loopw [4, 5] (fun i _ wr => ∃ j : Nat, j ≤ 20 ∧ i = .int .i64 (19 - (j : Int)) ∧ Hid (vAt wr w.heap.size 21 (ilw (gath b j)) 80) ∧ Hid (vAt wr (w.heap.size + 1) 21 (ilw fun _ => 0) 80) ∧ Hid (Below w.heap.size w wr)) (fun i _ _ => (intOf i + 1).toNat)
  case atStart => exact ⟨0, by omega, rfl, A0, A1, hid b0⟩
  case round =>
    obtain ⟨j, hj, rfl, h2, h1, hb⟩ := hrel
    by_cases hlt : j < 20
    · obtain ⟨k, hk, hk2⟩ : ∃ k : Nat, (19 - (j : Int)) = (k : Int) ∧ k < 20 := ⟨19 - j, by omega, by omega⟩
      rw [hk]
      have hk3 : (k : Int) < 20 := by omega
      have ek := hid (show k = 19 - j by omega)
      have q2 := h2.out.icell (k := k) (by omega)
      have q3 := h2.out.icell (k := 20) (by omega)
      have f2 := h2.out.frozen k
      have f3 := h2.out.frozen 20
      go_wp2_with fail
      rw [gath_adds H.out j hlt k hk2, gath_subs H.out j hlt k hk2]
      have M1 := hid (h1.out.setOther (a := ⟨w.heap.size, k, none⟩) (by simp) (.int .i64 (gath b j k + gath b j 20 / (2 : Int) ^ k)))
      have M2 := hid (h2.out.iset k (gath b j k + gath b j 20 / (2 : Int) ^ k))
      have mb := hb.out.setCell (p := ⟨w.heap.size, k, none⟩) (Nat.le_refl _) (.int .i64 (gath b j k + gath b j 20 / (2 : Int) ^ k))
      have K1 := hid (M1.out.setOther (a := ⟨w.heap.size, 20, none⟩) (by simp) (.int .i64 (gath b j 20 % (2 : Int) ^ k)))
      have K2 := hid (M2.out.iset 20 (gath b j 20 % (2 : Int) ^ k))
      have kb := mb.setCell (p := ⟨w.heap.size, 20, none⟩) (Nat.le_refl _) (.int .i64 (gath b j 20 % (2 : Int) ^ k))
      refine ⟨⟨j + 1, by omega, by first | rfl | (simp; done) | (simp; omega), ?_, K1, hid kb⟩, by first | (simp [intOf]; done) | (simp [intOf]; omega)⟩
      rw [show gath b (j + 1) = gat1 (gath b j) k by rw [ek.out]; rfl]
      exact K2
    · obtain rfl : j = 20 := by omega
      go_wp2_with fail
      rcases HQ.out with ⟨hq, rfl, rfl⟩ | ⟨hq, rfl, rfl⟩
      · refine (sBoxOk_t (gath b 20) hq _ w.heap.size 80 h2.out).mono ?_
        rintro e w2 ⟨rfl, rfl⟩
        go_wp2_with (first | (refine wpList_load_row rfl 80 _ rfl (w.heap.size) rfl 80 (vls 21 (ilw (gath b 20))) (0, 0) _ h2.out Try.underlying80 rfl (by rw [vls_size]; exact info_box) ?_) | (refine wpList_store_row rfl 80 _ _ rfl (w.heap.size + 1) (vls 21 (ilw (gath b 20))) rfl rfl 80 _ h1.out (by rw [vls_size]; exact info_box) (by simp) (vls_one (ilw_one _)) ?_))
        exact bodyPost_ret (results_row_tmp rfl _ _ (w.heap.size + 1) 80 (vls 21 (ilw (gath b 20))) (0, 0) _ rfl (h1.out.setRow (ilw (gath b 20))) Try.underlying80 rfl (by rw [vls_size]; exact info_box)) rfl ⟨rfl, below_row hb.out (by omega) _⟩
      · refine (sBoxOk_f (gath b 20) hq _ w.heap.size 80 h2.out).mono ?_
        rintro e w2 ⟨rfl, rfl⟩
        go_wp2_with (refine wpList_store_row rfl 80 _ _ rfl (w.heap.size + 1) (vls 21 (ilw fun _ => 0)) rfl rfl 80 _ h1.out (by rw [vls_size]; exact info_box) (by simp) (vls_one (ilw_one _)) ?_)
        exact bodyPost_ret (results_row_tmp rfl _ _ (w.heap.size + 1) 80 (vls 21 (ilw fun _ => 0)) (0, 0) _ rfl (h1.out.setRow (ilw fun _ => 0)) Try.underlying80 rfl (by rw [vls_size]; exact info_box)) rfl ⟨rfl, below_row hb.out (by omega) _⟩

set_option maxRecDepth 100000 in
theorem iGatherDust_f (b : Nat → Int) (h : ¬ Bx b) (w : World) :
    Calls Try.prog 103 #[.agg (vls 21 (ilw b))] w fun e w' => e = .returned (.tuple #[.agg (vls 21 (ilw fun _ => 0)), .int .i64 1]) ∧ Below w.heap.size w w' := by
  have A0 := hid ((vAt.new w 21 (ilw b) 80).alloc (.cells (vls 21 (ilw fun _ => 0)) 80))
  have A1 := hid (vAt.new1 w (.cells (vls 21 (ilw b)) 80) 21 (ilw fun _ => 0) 80)
  have b0 := boxed2 w (.cells (vls 21 (ilw b)) 80) (.cells (vls 21 (ilw fun _ => 0)) 80)
  have H := hid h
  clear h
  go_enter Try.func103, Try.ntmps103
  go_wp2_with (refine wpList_load_row rfl 80 _ rfl (w.heap.size) rfl 80 (vls 21 (ilw b)) (0, 0) _ A0.out Try.underlying80 rfl (by rw [vls_size]; exact info_box) ?_)
  refine (iValidBox_f b H.out _).mono ?_
  rintro e w1 ⟨rfl, hb1⟩
  have A1 := hid (A1.out.stay hb1)
  have c0 := stp b0 (Nat.le_refl _) hb1
  go_wp2_with (refine wpList_store_row rfl 80 _ _ rfl (w.heap.size + 1) (vls 21 (ilw fun _ => 0)) rfl rfl 80 _ A1.out (by rw [vls_size]; exact info_box) (by simp) (vls_one (ilw_one _)) ?_)
  exact bodyPost_ret (results_row_tmp rfl _ _ (w.heap.size + 1) 80 (vls 21 (ilw fun _ => 0)) (0, 0) _ rfl (A1.out.setRow (ilw fun _ => 0)) Try.underlying80 rfl (by rw [vls_size]; exact info_box)) rfl ⟨rfl, below_row c0 (by omega) _⟩

set_option maxRecDepth 100000 in
theorem sGatherDust_f (b : Nat → Int) (h : ¬ Bx b) (w : World) :
    Calls Try.prog 102 #[.agg (vls 21 (ilw b))] w fun e w' => e = .returned (.tuple #[.agg (vls 21 (ilw fun _ => 0)), .int .i64 1]) ∧ Below w.heap.size w w' := by
  have A0 := hid ((vAt.new w 21 (ilw b) 80).alloc (.cells (vls 21 (ilw fun _ => 0)) 80))
  have A1 := hid (vAt.new1 w (.cells (vls 21 (ilw b)) 80) 21 (ilw fun _ => 0) 80)
  have b0 := boxed2 w (.cells (vls 21 (ilw b)) 80) (.cells (vls 21 (ilw fun _ => 0)) 80)
  have H := hid h
  clear h
  go_enter Try.func102, Try.ntmps102
  go_wp2_with fail
  refine (sBoxOk_f b H.out _ w.heap.size 80 A0.out).mono ?_
  rintro e w1 ⟨rfl, rfl⟩
  go_wp2_with (refine wpList_store_row rfl 80 _ _ rfl (w.heap.size + 1) (vls 21 (ilw fun _ => 0)) rfl rfl 80 _ A1.out (by rw [vls_size]; exact info_box) (by simp) (vls_one (ilw_one _)) ?_)
  exact bodyPost_ret (results_row_tmp rfl _ _ (w.heap.size + 1) 80 (vls 21 (ilw fun _ => 0)) (0, 0) _ rfl (A1.out.setRow (ilw fun _ => 0)) Try.underlying80 rfl (by rw [vls_size]; exact info_box)) rfl ⟨rfl, below_row b0 (by omega) _⟩

set_option maxRecDepth 100000 in
theorem eqCounts (b : Nat → Int) (w : World) :
    Calls Try.prog 175 #[.agg (vls 20 (ilw b)), .agg (vls 20 (ilw b))] w fun e w' => e = .returned (.bool true) ∧ Below w.heap.size w w' := by
  have A0 := hid ((vAt.new w 20 (ilw b) 78).alloc (.cells (vls 20 (ilw b)) 78))
  have A1 := hid (vAt.new1 w (.cells (vls 20 (ilw b)) 78) 20 (ilw b) 78)
  have b0 := boxed2 w (.cells (vls 20 (ilw b)) 78) (.cells (vls 20 (ilw b)) 78)
  go_enter Try.func175, Try.ntmps175
  go_wp2
  go_loopw [5] (fun i wr => ∃ k : Nat, k ≤ 20 ∧ i = .int .i64 k ∧ Hid (vAt wr w.heap.size 20 (ilw b) 78) ∧ Hid (vAt wr (w.heap.size + 1) 20 (ilw b) 78) ∧ Hid (Below w.heap.size w wr)) (fun i _ => 20 - (intOf i).toNat)
  case atStart => exact ⟨0, by omega, rfl, A0, A1, hid b0⟩
  case round =>
    obtain ⟨k, hk, rfl, h0, h1, hb⟩ := hrel
    by_cases hlt : k < 20
    · have q0 := h0.out.icell hlt
      have q1 := h1.out.icell hlt
      go_wp2_with fail
      go_quiet (fail)
      go_wp2
      go_roundw
      case rel => exact ⟨k + 1, by omega, by go_num, h0, h1, hid (below_drewN hb.out _)⟩
      case measure => simp [intOf]; omega
    · go_wp2
      go_ret
      exact ⟨rfl, hb.out⟩

set_option maxRecDepth 100000 in
theorem eqBox (b : Nat → Int) (w : World) :
    Calls Try.prog 92 #[.agg (vls 21 (ilw b)), .agg (vls 21 (ilw b))] w fun e w' => e = .returned (.bool true) ∧ Below w.heap.size w w' := by
  have A0 := hid ((vAt.new w 21 (ilw b) 80).alloc (.cells (vls 21 (ilw b)) 80))
  have A1 := hid (vAt.new1 w (.cells (vls 21 (ilw b)) 80) 21 (ilw b) 80)
  have b0 := boxed2 w (.cells (vls 21 (ilw b)) 80) (.cells (vls 21 (ilw b)) 80)
  go_enter Try.func92, Try.ntmps92
  go_wp2_with (first | (refine wpList_load_head rfl 78 _ rfl w.heap.size rfl 21 (ilw b) 80 A0.out 20 (by omega) _ Try.underlying78 rfl info_cnt ?_) | (refine wpList_load_head rfl 78 _ rfl (w.heap.size + 1) rfl 21 (ilw b) 80 A1.out 20 (by omega) _ Try.underlying78 rfl info_cnt ?_))
  refine (eqCounts b _).mono ?_
  rintro e w1 ⟨rfl, hb1⟩
  have A0 := hid (A0.out.stay hb1)
  have A1 := hid (A1.out.stay hb1)
  have c0 := stp b0 (Nat.le_refl _) hb1
  have q0 := A0.out.icell (k := 20) (by omega)
  have q1 := A1.out.icell (k := 20) (by omega)
  go_wp2
  go_ret
  exact ⟨rfl, c0⟩

set_option maxRecDepth 100000 in
theorem coreGatherDust (x0 : Nat → Int) (r0 : Nat → Int) (r1 : Int)
    (hS : ∀ w, Calls Try.prog 102 #[.agg (vls 21 (ilw x0))] w fun e w' => e = .returned (.tuple #[.agg (vls 21 (ilw r0)), .int .i64 r1]) ∧ Below w.heap.size w w')
    (hI : ∀ w, Calls Try.prog 103 #[.agg (vls 21 (ilw x0))] w fun e w' => e = .returned (.tuple #[.agg (vls 21 (ilw r0)), .int .i64 r1]) ∧ Below w.heap.size w w') (w : World) :
    Calls Try.prog 30 #[.agg (vls 21 (ilw x0))] w fun e w' => e = .returned (.bool true) ∧ Below w.heap.size w w' := by
  have A0 := hid (heap_alloc_new w (.cells (vls 21 (ilw x0)) 76))
  have b0 := boxed w (.cells (vls 21 (ilw x0)) 76)
  have HS := hid hS
  have HI := hid hI
  clear hS hI
  go_enter Try.func30, Try.ntmps30
  go_wp2_with (first | (refine wpList_load_row rfl 76 _ rfl (w.heap.size) rfl 76 (vls 21 (ilw x0)) (0, 0) _ A0.out Try.underlying76 rfl (by rw [vls_size]; exact info_lbox) ?_))
  refine (toBox x0 _).mono ?_
  rintro e u0 ⟨rfl, hbu0⟩
  have bu0 := stp b0 (Nat.le_refl _) hbu0
  have A0 := hid (stayB A0.out hbu0)
  go_wp2_with fail
  refine (HS.out _).mono ?_
  rintro e v0 ⟨rfl, hbv0⟩
  have bv0 := stp bu0 (Nat.le_refl _) hbv0
  have A0 := hid (stayB A0.out hbv0)
  have N0 := hid (heap_alloc_new v0 (.cells (vls 21 (ilw fun _ => 0)) 80))
  have A0 := hid (rowOther (allocB A0.out (.cells (vls 21 (ilw fun _ => 0)) 80)) (k := v0.heap.size) (Nat.ne_of_lt (lt_of_block A0.out)) (vls 21 (ilw r0)))
  have R0 := hid (setRow_heap (v0.alloc (.cells (vls 21 (ilw fun _ => 0)) 80)) v0.heap.size _ (vls 21 (ilw r0)) _ _ N0.out)
  have bX0 : Below w.heap.size w ((v0.alloc (.cells (vls 21 (ilw fun _ => 0)) 80)).setRow v0.heap.size (vls 21 (ilw r0))) := below_row (bv0.alloc bv0.size _) bv0.size _
  go_wp2_with (first | (refine wpList_load_row rfl 76 _ rfl (w.heap.size) rfl 76 (vls 21 (ilw x0)) (0, 0) _ A0.out Try.underlying76 rfl (by rw [vls_size]; exact info_lbox) ?_) | (refine wpList_store_row rfl 80 _ _ rfl (v0.heap.size) (vls 21 (ilw r0)) rfl rfl 80 _ N0.out (by rw [vls_size]; exact info_box) (by simp) (vls_one (ilw_one r0)) ?_))
  refine (toBox x0 _).mono ?_
  rintro e u1 ⟨rfl, hbu1⟩
  have bu1 := stp bX0 (Nat.le_refl _) hbu1
  have A0 := hid (stayB A0.out hbu1)
  have R0 := hid (stayB R0.out hbu1)
  go_wp2_with fail
  refine (HI.out _).mono ?_
  rintro e v1 ⟨rfl, hbv1⟩
  have bv1 := stp bu1 (Nat.le_refl _) hbv1
  have A0 := hid (stayB A0.out hbv1)
  have R0 := hid (stayB R0.out hbv1)
  have N1 := hid (heap_alloc_new v1 (.cells (vls 21 (ilw fun _ => 0)) 80))
  have A0 := hid (rowOther (allocB A0.out (.cells (vls 21 (ilw fun _ => 0)) 80)) (k := v1.heap.size) (Nat.ne_of_lt (lt_of_block A0.out)) (vls 21 (ilw r0)))
  have R0 := hid (rowOther (allocB R0.out (.cells (vls 21 (ilw fun _ => 0)) 80)) (k := v1.heap.size) (Nat.ne_of_lt (lt_of_block R0.out)) (vls 21 (ilw r0)))
  have R1 := hid (setRow_heap (v1.alloc (.cells (vls 21 (ilw fun _ => 0)) 80)) v1.heap.size _ (vls 21 (ilw r0)) _ _ N1.out)
  have bX1 : Below w.heap.size w ((v1.alloc (.cells (vls 21 (ilw fun _ => 0)) 80)).setRow v1.heap.size (vls 21 (ilw r0))) := below_row (bv1.alloc bv1.size _) bv1.size _
  go_wp2_with (first | (refine wpList_store_row rfl 80 _ _ rfl (v1.heap.size) (vls 21 (ilw r0)) rfl rfl 80 _ N1.out (by rw [vls_size]; exact info_box) (by simp) (vls_one (ilw_one r0)) ?_) | (refine wpList_load_row rfl 80 _ rfl (v1.heap.size) rfl 80 (vls 21 (ilw r0)) (0, 0) _ R1.out Try.underlying80 rfl (by rw [vls_size]; exact info_box) ?_) | (refine wpList_load_row rfl 80 _ rfl (v0.heap.size) rfl 80 (vls 21 (ilw r0)) (0, 0) _ R0.out Try.underlying80 rfl (by rw [vls_size]; exact info_box) ?_))
  refine (eqBox r0 _).mono ?_
  rintro e z ⟨rfl, hbz⟩
  have bz := stp bX1 (Nat.le_refl _) hbz
  go_wp2
  go_ret
  exact ⟨rfl, bz⟩

theorem lawGatherDust (b : Nat → Int) (_hb : ∀ i, i < 21 → inI64 (b i)) (w : World) :
    Calls Try.prog 30 #[.agg (vls 21 (ilw b))] w fun e w' => e = .returned (.bool true) ∧ Below w.heap.size w w' := by
  rcases Classical.em (Bx b) with h | h
  · rcases Classical.em (Bx (gath b 20)) with h2 | h2
    · exact coreGatherDust b _ _ (sGatherDust_t b h (gath b 20) 0 (.inl ⟨h2, rfl, rfl⟩)) (iGatherDust_t b h _ _ (iWithin_t _ h2)) w
    · exact coreGatherDust b _ _ (sGatherDust_t b h (fun _ => 0) 3 (.inr ⟨h2, rfl, rfl⟩)) (iGatherDust_t b h _ _ (iWithin_f _ h2)) w
  · exact coreGatherDust b _ _ (sGatherDust_f b h) (iGatherDust_f b h) w

theorem words_cons : ∀ (v : List Char) (r : List Char), (∀ c ∈ v, c ≠ Char.ofNat 32) → wordsSigns (v ++ Char.ofNat 32 :: r) = v :: wordsSigns r
  | [], r, _ => rfl
  | c :: v, r, h => by
    have ih := words_cons v r (fun x hx => h x (by simp [hx]))
    have hc : c ≠ Char.ofNat 32 := h c (by simp)
    show wordsSigns (c :: (v ++ Char.ofNat 32 :: r)) = _
    rw [wordsSigns.eq_3 _ _ (fun e => hc e), ih]

def w0 : List Nat := [104, 97, 114, 110, 101, 115, 115]

def w1 : List Nat := [97, 97, 48, 52, 102, 49, 99, 51, 50, 54, 56, 53, 56, 53, 102, 57, 99, 56, 55, 101, 50, 56, 99, 101, 57, 99, 99, 99, 52, 98, 56, 57, 52, 51, 53, 102, 101, 102, 99, 51, 54, 98, 102, 57, 51, 50, 53, 51, 57, 101, 54, 98, 50, 101, 98, 55, 50, 53, 53, 97, 54, 51, 54, 55]

def w2 : List Nat := [99, 117, 116]

def w3 : List Nat := [97, 116, 32, 108, 111, 111, 112, 46, 101, 120, 97, 109, 112, 108, 101, 47, 103, 48, 49, 50, 50, 52, 47, 108, 97, 119, 115, 46, 70, 110, 69, 120, 97, 99, 116, 84, 104, 105, 114, 100, 82, 111, 111, 116, 32, 108, 111, 111, 112, 46, 101, 120, 97, 109, 112, 108, 101, 47, 103, 48, 49, 50, 50, 52, 47, 108, 97, 119, 115, 46, 70, 110, 69, 120, 97, 99, 116, 83, 104, 105, 102, 116, 77, 97, 115, 115, 101, 115, 32, 108, 111, 111, 112, 46, 101, 120, 97, 109, 112, 108, 101, 47, 103, 48, 49, 50, 50, 52, 47, 108, 97, 119, 115, 46, 70, 110, 69, 120, 97, 99, 116, 71, 97, 105, 110, 115, 65, 116, 32, 108, 111, 111, 112, 46, 101, 120, 97, 109, 112, 108, 101, 47, 103, 48, 49, 50, 50, 52, 47, 108, 97, 119, 115, 46, 70, 110, 69, 120, 97, 99, 116, 71, 114, 111, 119, 79, 110, 99, 101, 32, 108, 111, 111, 112, 46, 101, 120, 97, 109, 112, 108, 101, 47, 103, 48, 49, 50, 50, 52, 47, 108, 97, 119, 115, 46, 70, 110, 69, 120, 97, 99, 116, 71, 114, 111, 119, 83, 116, 101, 112, 115, 32, 108, 111, 111, 112, 46, 101, 120, 97, 109, 112, 108, 101, 47, 103, 48, 49, 50, 50, 52, 47, 108, 97, 119, 115, 46, 70, 110, 69, 120, 97, 99, 116, 83, 116, 101, 112, 115, 84, 111, 68, 114, 121, 32, 108, 111, 111, 112, 46, 101, 120, 97, 109, 112, 108, 101, 47, 103, 48, 49, 50, 50, 52, 47, 108, 97, 119, 115, 46, 70, 110, 69, 120, 97, 99, 116, 86, 97, 108, 105, 100, 75, 101, 114, 110, 101, 108, 32, 108, 111, 111, 112, 46, 101, 120, 97, 109, 112, 108, 101, 47, 103, 48, 49, 50, 50, 52, 47, 108, 97, 119, 115, 46, 70, 110, 69, 120, 97, 99, 116, 83, 97, 109, 101, 75, 101, 114, 110, 101, 108, 32, 108, 111, 111, 112, 46, 101, 120, 97, 109, 112, 108, 101, 47, 103, 48, 49, 50, 50, 52, 47, 108, 97, 119, 115, 46, 70, 110, 69, 120, 97, 99, 116, 70, 97, 108, 108, 79, 102, 32, 108, 111, 111, 112, 46, 101, 120, 97, 109, 112, 108, 101, 47, 103, 48, 49, 50, 50, 52, 47, 108, 97, 119, 115, 46, 70, 110, 69, 120, 97, 99, 116, 70, 108, 97, 116, 75, 101, 114, 110, 101, 108, 32, 108, 111, 111, 112, 46, 101, 120, 97, 109, 112, 108, 101, 47, 103, 48, 49, 50, 50, 52, 47, 108, 97, 119, 115, 46, 70, 110, 69, 120, 97, 99, 116, 83, 117, 109, 75, 101, 114, 110, 101, 108, 32, 108, 111, 111, 112, 46, 101, 120, 97, 109, 112, 108, 101, 47, 103, 48, 49, 50, 50, 52, 47, 108, 97, 119, 115, 46, 70, 110, 69, 120, 97, 99, 116, 70, 97, 108, 108, 75, 101, 114, 110, 101, 108, 32, 108, 111, 111, 112, 46, 101, 120, 97, 109, 112, 108, 101, 47, 103, 48, 49, 50, 50, 52, 47, 108, 97, 119, 115, 46, 70, 110, 69, 120, 97, 99, 116, 65, 100, 100, 75, 101, 114, 110, 101, 108, 115, 32, 108, 111, 111, 112, 46, 101, 120, 97, 109, 112, 108, 101, 47, 103, 48, 49, 50, 50, 52, 47, 108, 97, 119, 115, 46, 70, 110, 69, 120, 97, 99, 116, 83, 99, 97, 108, 101, 75, 101, 114, 110, 101, 108, 32, 108, 111, 111, 112, 46, 101, 120, 97, 109, 112, 108, 101, 47, 103, 48, 49, 50, 50, 52, 47, 108, 97, 119, 115, 46, 70, 110, 69, 120, 97, 99, 116, 69, 118, 101, 110, 116, 115, 79, 102, 32, 108, 111, 111, 112, 46, 101, 120, 97, 109, 112, 108, 101, 47, 103, 48, 49, 50, 50, 52, 47, 108, 97, 119, 115, 46, 70, 110, 69, 120, 97, 99, 116, 76, 111, 115, 115, 101, 115, 79, 102, 32, 108, 111, 111, 112, 46, 101, 120, 97, 109, 112, 108, 101, 47, 103, 48, 49, 50, 50, 52, 47, 108, 97, 119, 115, 46, 70, 110, 69, 120, 97, 99, 116, 67, 111, 108, 108, 105, 100, 101, 32, 108, 111, 111, 112, 46, 101, 120, 97, 109, 112, 108, 101, 47, 103, 48, 49, 50, 50, 52, 47, 108, 97, 119, 115, 46, 70, 110, 69, 120, 97, 99, 116, 67, 111, 108, 108, 105, 100, 101, 83, 116, 101, 112, 115, 32, 108, 111, 111, 112, 46, 101, 120, 97, 109, 112, 108, 101, 47, 103, 48, 49, 50, 50, 52, 47, 108, 97, 119, 115, 46, 70, 110, 69, 120, 97, 99, 116, 82, 97, 105, 110, 77, 97, 100, 101, 32, 108, 111, 111, 112, 46, 101, 120, 97, 109, 112, 108, 101, 47, 103, 48, 49, 50, 50, 52, 47, 108, 97, 119, 115, 46, 70, 110, 69, 120, 97, 99, 116, 66, 114, 101, 97, 107, 67, 108, 97, 115, 115, 32, 108, 111, 111, 112, 46, 101, 120, 97, 109, 112, 108, 101, 47, 103, 48, 49, 50, 50, 52, 47, 108, 97, 119, 115, 46, 70, 110, 69, 120, 97, 99, 116, 66, 114, 101, 97, 107, 76, 97, 114, 103, 101, 32, 108, 111, 111, 112, 46, 101, 120, 97, 109, 112, 108, 101, 47, 103, 48, 49, 50, 50, 52, 47, 108, 97, 119, 115, 46, 70, 110, 69, 120, 97, 99, 116, 86, 97, 108, 105, 100, 66, 111, 120, 32, 108, 111, 111, 112, 46, 101, 120, 97, 109, 112, 108, 101, 47, 103, 48, 49, 50, 50, 52, 47, 108, 97, 119, 115, 46, 70, 110, 69, 120, 97, 99, 116, 77, 97, 115, 115, 79, 102, 66, 111, 120, 32, 108, 111, 111, 112, 46, 101, 120, 97, 109, 112, 108, 101, 47, 103, 48, 49, 50, 50, 52, 47, 108, 97, 119, 115, 46, 70, 110, 69, 120, 97, 99, 116, 83, 105, 122, 101, 115, 79, 102, 66, 111, 120, 32, 108, 111, 111, 112, 46, 101, 120, 97, 109, 112, 108, 101, 47, 103, 48, 49, 50, 50, 52, 47, 108, 97, 119, 115, 46, 70, 110, 69, 120, 97, 99, 116, 67, 111, 108, 108, 105, 100, 101, 80, 97, 105, 114, 32, 108, 111, 111, 112, 46, 101, 120, 97, 109, 112, 108, 101, 47, 103, 48, 49, 50, 50, 52, 47, 108, 97, 119, 115, 46, 70, 110, 69, 120, 97, 99, 116, 67, 111, 108, 108, 105, 100, 101, 80, 97, 105, 114, 115, 32, 108, 111, 111, 112, 46, 101, 120, 97, 109, 112, 108, 101, 47, 103, 48, 49, 50, 50, 52, 47, 108, 97, 119, 115, 46, 70, 110, 69, 120, 97, 99, 116, 68, 114, 97, 119, 80, 97, 105, 114, 115, 32, 108, 111, 111, 112, 46, 101, 120, 97, 109, 112, 108, 101, 47, 103, 48, 49, 50, 50, 52, 47, 108, 97, 119, 115, 46, 70, 110, 69, 120, 97, 99, 116, 71, 97, 116, 104, 101, 114, 68, 117, 115, 116]

def letters (l : List Nat) : List Char := l.map Char.ofNat

theorem head_reads : Try.prog.initOrder = String.ofList (letters w0 ++ Char.ofNat 32 :: (letters w1 ++ Char.ofNat 32 :: (letters w2 ++ Char.ofNat 32 :: letters w3))) := by kernel_rfl

theorem no_blank {l : List Nat} (h : l.all (fun n => Char.ofNat n != Char.ofNat 32) = true) : ∀ c ∈ letters l, c ≠ Char.ofNat 32 := by
  intro c hc
  obtain ⟨n, hn, rfl⟩ := List.mem_map.1 hc
  have := List.all_eq_true.1 h n hn
  simpa using this

theorem h0 : letters w0 = "harness".toList := by kernel_rfl

theorem h2 : letters w2 = "cut".toList := by kernel_rfl

theorem sums : isSumSigns (letters w1) = true := by kernel_rfl

theorem words : wordsSigns Try.prog.initOrder.toList = "harness".toList :: letters w1 :: "cut".toList :: wordsSigns (letters w3) := by
  rw [head_reads, String.toList_ofList, words_cons _ _ (no_blank (by decide +kernel)), words_cons _ _ (no_blank (by decide +kernel)), words_cons _ _ (no_blank (by decide +kernel)), h0, h2]

theorem behind : ∃ r, behindMainWord (wordsSigns Try.prog.initOrder.toList) = "cut".toList :: r := by
  refine ⟨wordsSigns (letters w3), ?_⟩
  rw [words]
  generalize wordsSigns (letters w3) = r
  have hs := sums
  generalize letters w1 = v at hs
  unfold behindMainWord
  simp [hs]

theorem not_later : Try.prog.laysLater = false := by kernel_rfl

theorem no_reflect : Try.prog.bearsReflect = false := by kernel_rfl

theorem no_doors : Try.prog.doorFits [] = true := by kernel_rfl

theorem strips (r : List (List Char)) : stripLifts liftWords ("cut".toList :: r) = ([], "cut".toList :: r) := by kernel_rfl

theorem may_enter_of (P : Program) (r : List (List Char)) (h : behindMainWord (wordsSigns P.initOrder.toList) = "cut".toList :: r) (h1 : P.laysLater = false) (h2 : P.bearsReflect = false) (h3 : P.doorFits [] = true) : P.mayEnter = true := by
  unfold Program.mayEnter
  rw [h]
  dsimp only
  rw [strips, h1, h2, h3]
  kernel_rfl

theorem lifts_final_of (P : Program) (r : List (List Char)) (h : behindMainWord (wordsSigns P.initOrder.toList) = "cut".toList :: r) : P.liftsFinal = false := by
  unfold Program.liftsFinal Program.headLifts
  rw [h]
  dsimp only
  rw [strips]
  kernel_rfl

theorem made_of (P : Program) (r : List (List Char)) (h : behindMainWord (wordsSigns P.initOrder.toList) = "cut".toList :: r) : P.make = some .cut := by
  unfold Program.make
  rw [h]
  kernel_rfl

theorem may_enter : Try.prog.mayEnter = true := let ⟨r, h⟩ := behind; may_enter_of _ r h not_later no_reflect no_doors

theorem lifts_final : Try.prog.liftsFinal = false := let ⟨r, h⟩ := behind; lifts_final_of _ r h

theorem made : Try.prog.make = some .cut := let ⟨r, h⟩ := behind; made_of _ r h

theorem laid : laidOutB Try.prog = true := by kernel_rfl

theorem rowed : mapsRowed Try.prog = true := by kernel_rfl

theorem no_stops : Try.prog.stops = [] := by kernel_rfl

theorem no_knobs : Try.prog.stopKnobs = [] := by kernel_rfl

theorem plain_keys : Try.prog.plainKeys = false := by kernel_rfl

theorem stops_heard : Try.prog.stopsHeard = true := by kernel_rfl

theorem arr1 {α : Type} {cs : Array α} (h : cs.size = 1) : ∃ c0, cs = #[c0] := by
  obtain ⟨l⟩ := cs
  match l, h with
  | [a], _ => exact ⟨a, rfl⟩

theorem own : ownKnob Try.prog.godebug = none := by kernel_rfl

theorem cells21 : Try.prog.cellsOf 76 = 21 := by kernel_rfl

theorem types21 : Try.prog.cellTypes Try.prog.depth 76 = some (List.replicate 21 2) := by kernel_rfl

theorem rdb : Try.prog.readableRec 76 = true ∧ 76 < Try.prog.types.size := ⟨by kernel_rfl, of_decide_eq_true (by kernel_rfl)⟩
end Go.Proofs.Ytnnhoololemaaaa

namespace Go.Proofs.Ytnnhoololemaaaa.fnExactGatherDust
open Go.RowKit Go.Fl Go.ChangeShapes Go.WideShapes Go.ChangeAt

theorem closed : joinedFacts Try.prog 30 Try.f30 Rows.fnExactGatherDustSpec Rows.fnExactGatherDustRow = true := by
  unfold joinedFacts
  simp only [Bool.and_eq_true]
  exact ⟨⟨⟨⟨⟨⟨⟨⟨⟨⟨⟨⟨⟨⟨⟨⟨⟨⟨⟨⟨⟨⟨⟨⟨⟨⟨⟨⟨⟨⟨⟨(by as_aux_lemma => kernel_rfl),
    laid⟩,
    rowed⟩,
    (by as_aux_lemma => kernel_rfl)⟩,
    (by as_aux_lemma => kernel_rfl)⟩,
    (by as_aux_lemma => kernel_rfl)⟩,
    (by rw [no_stops]; rfl)⟩,
    (by as_aux_lemma => kernel_rfl)⟩,
    (by rw [no_knobs]; rfl)⟩,
    (by as_aux_lemma => kernel_rfl)⟩,
    (by as_aux_lemma => kernel_rfl)⟩,
    (by as_aux_lemma => kernel_rfl)⟩,
    (by as_aux_lemma => kernel_rfl)⟩,
    (by as_aux_lemma => kernel_rfl)⟩,
    (by as_aux_lemma => kernel_rfl)⟩,
    (by as_aux_lemma => kernel_rfl)⟩,
    (by as_aux_lemma => kernel_rfl)⟩,
    (by as_aux_lemma => kernel_rfl)⟩,
    (by as_aux_lemma => kernel_rfl)⟩,
    (by as_aux_lemma => kernel_rfl)⟩,
    (by as_aux_lemma => kernel_rfl)⟩,
    (by as_aux_lemma => kernel_rfl)⟩,
    (show (Rows.fnExactGatherDustRow.plainKeys == Try.prog.plainKeys) = true by rw [plain_keys]; rfl)⟩,
    (by as_aux_lemma => kernel_rfl)⟩,
    stops_heard⟩,
    may_enter⟩,
    (show (Rows.fnExactGatherDustRow.lifted == Try.prog.liftsFinal) = true by rw [lifts_final]; rfl)⟩,
    (show (Try.prog.make == some Rows.fnExactGatherDustRow.make) = true by rw [made]; rfl)⟩,
    (by as_aux_lemma => kernel_rfl)⟩,
    (by as_aux_lemma => kernel_rfl)⟩,
    (by as_aux_lemma => kernel_rfl)⟩,
    (by as_aux_lemma => kernel_rfl)⟩

set_option maxRecDepth 100000 in
theorem lifted (os : Os) (started : os.Started) (H : Type) (enc : TypeId × Value → H) :
    ReturnsInHanded {} Try.checked os 30 .any (Rows.fnExactGatherDustSpec.pre6 enc Try.prog Try.f30 Rows.fnExactGatherDustRow.domain false) (Rows.fnExactGatherDustSpec.post enc Try.prog Try.f30 false true false false) := by
  refine LawFrame.lifted (C := Try.checked) (fn := Try.f30) (n := 1) (tb := 4) started own (by kernel_rfl) Try.func30 laid ?_ rfl rfl ?_ rfl Try.underlying4
    (ChangeSpec.witness6 (enc := enc) (C := Try.checked) false ⟨#[], #[.agg (Array.replicate 21 (.int .i64 0))], []⟩ 8 (by kernel_rfl) (by kernel_rfl) (by kernel_rfl) (by kernel_rfl)) ?_
  · intro t ht
    simp only [Try.params30, List.mem_cons, List.not_mem_nil, or_false] at ht
    subst ht; exact rdb
  · intro ds hd
    match ds, hd with
    | [_], _ => rfl
  · intro W base args ds ps hval hn _
    obtain ⟨v0, rfl⟩ : ∃ v0, args = #[v0] := arr1 hn
    obtain ⟨c0, rfl, hb0⟩ := open_ints Try.underlying76 rfl Try.underlying2 cells21 types21 (hval 0 76 v0 rfl rfl)
    exact lawGatherDust c0 hb0 W

theorem over : Rows.fnExactGatherDustRow.holds Try.pinned (OpenSpec.ofChange Rows.fnExactGatherDustSpec) :=
  OpenClaim.holds_of_wide 30 Try.f30 rfl rfl rfl rfl rfl rfl rfl ⟨rfl, rfl, rfl, rfl, rfl⟩ rfl rfl rfl rfl rfl (by kernel_rfl) Try.func30 closed
    (of_decide_eq_true (by kernel_rfl)) (by unfold Func.isWrapper; rw [if_neg (by decide +kernel)]; exact ⟨rfl, rfl⟩)
    (fun os started H enc _ => lifted os started H enc)

theorem proved : Rows.FnExactGatherDustSaid := over
#print axioms proved
end Go.Proofs.Ytnnhoololemaaaa.fnExactGatherDust
