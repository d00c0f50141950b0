import Derived.Test.YtnnhoololemaaaaBMassOfBox
import Derived.Test.YtnnhoololemaaaaChecked
import Derived.Test.YtnnhoololemaaaaRows
import Derived.Laws.FloatArith
import Derived.ProofKit
import Derived.WalkKit
import Derived.WalkLawsBesides
import Derived.WalkSpells
import Derived.Deep.QuietTactic
import Derived.BigQuiet
import Derived.Deep.RegionHeld3
import Derived.ChangeKeysEq
import Derived.Laws.BitsAllLaws
import Derived.Deep.MidRow
import Derived.OpenShut
/- The law FnExactMassOfBox of chapter 1: at every argument the call returns true, and what was there before it is as it was. -/
namespace Go.Proofs.Ytnnhoololemaaaa
open Go.RowKit Go.Fl

@[go_sem] theorem ext_f64bits (y : Nat) (w : World) : (callFunc 203 #[.float .f64 y]).run Try.prog w = .ok (.value (.int .u64 y)) w := by
  rw [run_callFunc_extern Try.func203 (by kernel_rfl) (by kernel_rfl) (by kernel_rfl) (e := Extern.MathFloatBits.float64bits) (by kernel_rfl)]
  rfl

@[go_sem] theorem ext_f64from (n : Int) (w : World) : (callFunc 202 #[.int .u64 n]).run Try.prog w = .ok (.value (.float .f64 n.toNat)) w := by
  rw [run_callFunc_extern Try.func202 (by kernel_rfl) (by kernel_rfl) (by kernel_rfl) (e := Extern.MathFloatBits.float64frombits) (by kernel_rfl)]
  rfl

theorem hid {p : Prop} (h : p) : Hid p := h

@[go_sem] theorem ext_f32bits (y : Nat) (w : World) : (callFunc 183 #[.float .f32 y]).run Try.prog w = .ok (.value (.int .u32 y)) w := by
  rw [run_callFunc_extern Try.func183 (by kernel_rfl) (by kernel_rfl) (by kernel_rfl) (e := Extern.MathFloatBits.float32bits) (by kernel_rfl)]
  rfl

theorem l00In_t (n a b : Int) (h1 : a ≤ n) (h2 : n ≤ b) (w : World) :
    Calls Try.prog 121 #[.int .i64 n, .int .i64 a, .int .i64 b] w fun e w' => e = .returned (.bool true) ∧ w = w' := by
  go_enter Try.func121, Try.ntmps121
  go_wp2
  go_ret
  exact ⟨by first | rfl | (simp; done) | (simp; omega), rfl⟩

theorem l00In_f (n a b : Int) (hn : ¬ (a ≤ n ∧ n ≤ b)) (w : World) :
    Calls Try.prog 121 #[.int .i64 n, .int .i64 a, .int .i64 b] w fun e w' => e = .returned (.bool false) ∧ w = w' := by
  by_cases h0 : a ≤ n
  · have h3 : b < n := by omega
    clear hn
    go_enter Try.func121, Try.ntmps121
    go_wp2
    go_ret
    exact ⟨by first | rfl | (simp; done) | (simp; omega), rfl⟩
  · have h3 : n < a := by omega
    have h4 : decide (a ≤ n) = false := by simp; omega
    clear hn h0
    go_enter Try.func121, Try.ntmps121
    go_wp2
    go_ret
    exact ⟨by simp, rfl⟩

def Cnt (n : Int) : Prop := 0 ≤ n ∧ n ≤ 1000000000

def Bx (b : Nat → Int) : Prop := ∀ i, i < 21 → Cnt (b i)

theorem isCount_t (n : Int) (h : Cnt n) (w : World) :
    Calls Try.prog 169 #[.int .i64 n] w fun e w' => e = .returned (.bool true) ∧ w = w' := by
  have h1 : decide (0 ≤ n) = true := decide_eq_true h.1
  have h2 := h.2
  clear h
  go_enter Try.func169, Try.ntmps169
  go_wp2
  go_ret
  exact ⟨by first | rfl | (simp; done) | (simp; omega), rfl⟩

theorem isCount_f (n : Int) (hn : ¬ Cnt n) (w : World) :
    Calls Try.prog 169 #[.int .i64 n] w fun e w' => e = .returned (.bool false) ∧ w = w' := by
  unfold Cnt at hn
  by_cases h0 : 0 ≤ n
  · have h2 : ¬ n ≤ 1000000000 := by omega
    have h3 : 1000000000 < n := by omega
    clear hn h2
    go_enter Try.func169, Try.ntmps169
    go_wp2
    go_ret
    exact ⟨by first | rfl | (simp; done) | (simp; omega), rfl⟩
  · have h3 : n < 0 := by omega
    have h4 : decide (0 ≤ n) = false := by simp; omega
    clear hn h0
    go_enter Try.func169, Try.ntmps169
    go_wp2
    go_ret
    exact ⟨by simp, rfl⟩

theorem info_box : (Try.prog.info? 80).map (·.size) = some 21 := by kernel_rfl

theorem info_lbox : (Try.prog.info? 76).map (·.size) = some 21 := by kernel_rfl

theorem info_cnt : (Try.prog.info? 78).map (·.size) = some 20 := by kernel_rfl

theorem info_i20 : (Try.prog.info? 74).map (·.size) = some 20 := by kernel_rfl

theorem info_int : (Try.prog.info? 2).map (·.size) = some 1 := by kernel_rfl

theorem ixc (b : Nat → Int) (k : Nat) (hk : k < 20) (w : World) :
    (Instr.index 78 (.agg (vls 20 (ilw b))) (.int .i64 (k : Int))).run Try.prog w = .ok (.int .i64 (b k)) w :=
  run_index_vls Try.underlying78 Try.underlying2 rfl info_int 20 (ilw b) k hk hk w

set_option maxRecDepth 100000 in
theorem iValidBox_t (b : Nat → Int) (h : Bx b) (w : World) :
    Calls Try.prog 84 #[.agg (vls 21 (ilw b))] w fun e w' => e = .returned (.bool true) ∧ Below w.heap.size w w' := by
  have A0 := hid (vAt.new w 21 (ilw b) 80)
  have b0 := boxed w (.cells (vls 21 (ilw b)) 80)
  have H := hid h
  clear h
  have hc20 : Cnt (b 20) := H.out 20 (by omega)
  have q20 := A0.out.cell (k := 20) (by omega)
  go_enter Try.func84, Try.ntmps84
  go_wp2_with (refine wpList_load_head rfl 78 _ rfl w.heap.size rfl 21 (ilw b) 80 A0.out 20 (by omega) _ Try.underlying78 rfl info_cnt ?_)
  go_loop [7] (fun i => ∃ k : Nat, k ≤ 20 ∧ i = .int .i64 k) (fun i => 20 - (intOf i).toNat)
  case atStart => exact ⟨0, by omega, rfl⟩
  case round =>
    obtain ⟨k, hk, rfl⟩ := hrel
    by_cases hlt : k < 20
    · have hix := ixc b k hlt
      go_wp2_with (go_at_call 169; refine (isCount_t (b k) (H.out k (by omega)) _).mono ?_; rintro e w' ⟨rfl, rfl⟩)
      go_round
      case rel => exact ⟨k + 1, by omega, by go_num⟩
      case measure => simp [intOf]; omega
    · go_wp2_with (go_at_call 169; refine (isCount_t (b 20) hc20 _).mono ?_; rintro e w' ⟨rfl, rfl⟩)
      go_ret
      exact ⟨rfl, b0⟩

set_option maxRecDepth 100000 in
theorem iValidBox_f (b : Nat → Int) (h : ¬ Bx b) (w : World) :
    Calls Try.prog 84 #[.agg (vls 21 (ilw b))] w fun e w' => e = .returned (.bool false) ∧ Below w.heap.size w w' := by
  have A0 := hid (vAt.new w 21 (ilw b) 80)
  have b0 := boxed w (.cells (vls 21 (ilw b)) 80)
  have H := hid h
  clear h
  have q20 := A0.out.icell (k := 20) (by omega)
  go_enter Try.func84, Try.ntmps84
  go_wp2_with (refine wpList_load_head rfl 78 _ rfl w.heap.size rfl 21 (ilw b) 80 A0.out 20 (by omega) _ Try.underlying78 rfl info_cnt ?_)
  go_loop [7] (fun i => ∃ k : Nat, k ≤ 20 ∧ Hid (∀ i, i < k → Cnt (b i)) ∧ i = .int .i64 k) (fun i => 20 - (intOf i).toNat)
  case atStart => exact ⟨0, by omega, hid (fun i hi => by omega), rfl⟩
  case round =>
    obtain ⟨k, hk, HK, rfl⟩ := hrel
    by_cases hlt : k < 20
    · have hix := ixc b k hlt
      by_cases hc : Cnt (b k)
      · have HC := hid hc
        clear hc
        go_wp2_with (go_at_call 169; refine (isCount_t (b k) HC.out _).mono ?_; rintro e w' ⟨rfl, rfl⟩)
        go_round
        case rel => exact ⟨k + 1, by omega, hid (all_step HK.out HC.out), by go_num⟩
        case measure => simp [intOf]; omega
      · have HC := hid hc
        clear hc
        go_wp2_with (go_at_call 169; refine (isCount_f (b k) HC.out _).mono ?_; rintro e w' ⟨rfl, rfl⟩)
        go_ret
        exact ⟨rfl, b0⟩
    · have hc : ¬ Cnt (b 20) := fun hc => H.out fun i hi => by
        rcases Nat.lt_or_eq_of_le (Nat.le_of_lt_succ hi) with h1 | h1
        · exact HK.out i (by omega)
        · rw [h1]; exact hc
      have HC := hid hc
      clear hc
      go_wp2_with (go_at_call 169; refine (isCount_f (b 20) HC.out _).mono ?_; rintro e w' ⟨rfl, rfl⟩)
      go_ret
      exact ⟨rfl, b0⟩

set_option maxRecDepth 100000 in
theorem sBoxOk_t (b : Nat → Int) (h : Bx b) (w : World) (g : Nat) (T : TypeId) (hg : vAt w g 21 (ilw b) T) :
    Calls Try.prog 167 #[.pointer (some ⟨g, 0, none⟩)] w fun e w' => e = .returned (.bool true) ∧ w = w' := by
  have H := hid h
  have G := hid hg
  clear h hg
  have q20 := G.out.icell (k := 20) (by omega)
  go_enter Try.func167, Try.ntmps167
  go_wp2
  go_loop [3] (fun i => ∃ k : Nat, k ≤ 20 ∧ i = .int .i64 k) (fun i => 20 - (intOf i).toNat)
  case atStart => exact ⟨0, by omega, rfl⟩
  case round =>
    obtain ⟨k, hk, rfl⟩ := hrel
    by_cases hlt : k < 20
    · have q := G.out.icell (k := k) (by omega)
      go_wp2_with (go_at_call 121; refine (l00In_t (b k) 0 1000000000 (H.out k (by omega)).1 (H.out k (by omega)).2 _).mono ?_; rintro e w' ⟨rfl, rfl⟩)
      go_round
      case rel => exact ⟨k + 1, by omega, by go_num⟩
      case measure => simp [intOf]; omega
    · go_wp2_with (go_at_call 121; refine (l00In_t (b 20) 0 1000000000 (H.out 20 (by omega)).1 (H.out 20 (by omega)).2 _).mono ?_; rintro e w' ⟨rfl, rfl⟩)
      go_ret
      exact ⟨rfl, rfl⟩

set_option maxRecDepth 100000 in
theorem sBoxOk_f (b : Nat → Int) (h : ¬ Bx b) (w : World) (g : Nat) (T : TypeId) (hg : vAt w g 21 (ilw b) T) :
    Calls Try.prog 167 #[.pointer (some ⟨g, 0, none⟩)] w fun e w' => e = .returned (.bool false) ∧ w = w' := by
  have H := hid h
  have G := hid hg
  clear h hg
  have q20 := G.out.icell (k := 20) (by omega)
  go_enter Try.func167, Try.ntmps167
  go_wp2
  go_loop [3] (fun i => ∃ k : Nat, k ≤ 20 ∧ Hid (∀ i, i < k → Cnt (b i)) ∧ i = .int .i64 k) (fun i => 20 - (intOf i).toNat)
  case atStart => exact ⟨0, by omega, hid (fun i hi => by omega), rfl⟩
  case round =>
    obtain ⟨k, hk, HK, rfl⟩ := hrel
    by_cases hlt : k < 20
    · have q := G.out.icell (k := k) (by omega)
      by_cases hc : Cnt (b k)
      · have HC := hid hc
        clear hc
        go_wp2_with (go_at_call 121; refine (l00In_t (b k) 0 1000000000 HC.out.1 HC.out.2 _).mono ?_; rintro e w' ⟨rfl, rfl⟩)
        go_round
        case rel => exact ⟨k + 1, by omega, hid (all_step HK.out HC.out), by go_num⟩
        case measure => simp [intOf]; omega
      · have HC := hid hc
        clear hc
        go_wp2_with (go_at_call 121; refine (l00In_f (b k) 0 1000000000 HC.out _).mono ?_; rintro e w' ⟨rfl, rfl⟩)
        go_ret
        exact ⟨rfl, rfl⟩
    · have hc : ¬ Cnt (b 20) := fun hc => H.out fun i hi => by
        rcases Nat.lt_or_eq_of_le (Nat.le_of_lt_succ hi) with h1 | h1
        · exact HK.out i (by omega)
        · rw [h1]; exact hc
      have HC := hid hc
      clear hc
      go_wp2_with (go_at_call 121; refine (l00In_f (b 20) 0 1000000000 HC.out _).mono ?_; rintro e w' ⟨rfl, rfl⟩)
      go_ret
      exact ⟨rfl, rfl⟩

set_option maxRecDepth 100000 in
theorem toCounts (b : Nat → Int) (w : World) :
    Calls Try.prog 168 #[.agg (vls 20 (ilw b))] w fun e w' => e = .returned (.agg (vls 20 (ilw b))) ∧ Below w.heap.size w w' := by
  have A0 := hid (((vAt.new w 20 (ilw b) 74).alloc (.cells (vls 20 (ilw fun _ => 0)) 78)).alloc (.cells (vls 20 (ilw fun _ => 0)) 78))
  have A1 := hid ((vAt.new1 w (.cells (vls 20 (ilw b)) 74) 20 (ilw fun _ => 0) 78).alloc (.cells (vls 20 (ilw fun _ => 0)) 78))
  have A2 := hid (vAt.new2 w (.cells (vls 20 (ilw b)) 74) (.cells (vls 20 (ilw fun _ => 0)) 78) 20 (ilw fun _ => 0) 78)
  have b0 := boxed3 w (.cells (vls 20 (ilw b)) 74) (.cells (vls 20 (ilw fun _ => 0)) 78) (.cells (vls 20 (ilw fun _ => 0)) 78)
  go_enter Try.func168, Try.ntmps168
  go_wp2
  go_loopw [4] (fun i wr => ∃ k : Nat, k ≤ 20 ∧ i = .int .i64 k ∧ Hid (vAt wr w.heap.size 20 (ilw b) 74) ∧ Hid (vAt wr (w.heap.size + 1) 20 (ilw fun _ => 0) 78) ∧ Hid (vAt wr (w.heap.size + 1 + 1) 20 (prtV (ilw b) (ilw fun _ => 0) k) 78) ∧ Hid (Below w.heap.size w wr)) (fun i _ => 20 - (intOf i).toNat)
  case atStart => exact ⟨0, by omega, rfl, A0, A1, hid (A2.out.ext fun i _ => (prtV_zero _ _ i).symm), hid b0⟩
  case round =>
    obtain ⟨k, hk, rfl, h0, h1, h2, hb⟩ := hrel
    by_cases hlt : k < 20
    · have q0 := h0.out.icell hlt
      have q2 := h2.out.cell hlt
      have f2 := h2.out.frozen k
      go_wp2
      go_roundw
      case rel => exact ⟨k + 1, by omega, by go_num, hid (h0.out.setOther (by simp; omega) _), hid (h1.out.setOther (by simp) _), hid ((h2.out.set k (ilw b k)).ext (fun i _ => prtV_succ _ _ k i)), hid (hb.out.setCell (by simp; omega) _)⟩
      case measure => simp [intOf]; omega
    · obtain rfl : k = 20 := by omega
      have h2' := hid (h2.out.ext (prtV_all _ _ 20))
      clear h2
      go_wp2_with (first | (refine wpList_load_row rfl 78 _ rfl (w.heap.size + 1 + 1) rfl 78 (vls 20 (ilw b)) (0, 0) _ h2'.out Try.underlying78 rfl (by rw [vls_size]; exact info_cnt) ?_) | (refine wpList_store_row rfl 78 _ _ rfl (w.heap.size + 1) (vls 20 (ilw b)) rfl rfl 78 _ h1.out (by rw [vls_size]; exact info_cnt) (by simp) (vls_one (ilw_one b)) ?_))
      exact bodyPost_ret (results_cell_row rfl _ _ (w.heap.size + 1) 78 (vls 20 (ilw b)) (0, 0) _ rfl (h1.out.setRow (ilw b)) Try.underlying78 rfl (by rw [vls_size]; exact info_cnt)) rfl ⟨rfl, below_row hb.out (by omega) _⟩

theorem box_last (b : Nat → Int) (i : Nat) (hi : i < 21) : updV (prtV (ilw b) (ilw fun _ => 0) 20) 20 (.int .i64 (b 20)) i = ilw b i := by
  unfold updV prtV ilw
  by_cases h1 : i = 20
  · rw [if_pos h1, h1]
  · rw [if_neg h1, if_pos (by omega)]

set_option maxRecDepth 100000 in
theorem toBox (b : Nat → Int) (w : World) :
    Calls Try.prog 83 #[.agg (vls 21 (ilw b))] w fun e w' => e = .returned (.agg (vls 21 (ilw b))) ∧ Below w.heap.size w w' := by
  have A0 := hid (((vAt.new w 21 (ilw b) 76).alloc (.cells (vls 21 (ilw fun _ => 0)) 80)).alloc (.cells (vls 21 (ilw fun _ => 0)) 80))
  have A1 := hid ((vAt.new1 w (.cells (vls 21 (ilw b)) 76) 21 (ilw fun _ => 0) 80).alloc (.cells (vls 21 (ilw fun _ => 0)) 80))
  have A2 := hid (vAt.new2 w (.cells (vls 21 (ilw b)) 76) (.cells (vls 21 (ilw fun _ => 0)) 80) 21 (ilw fun _ => 0) 80)
  have b0 := boxed3 w (.cells (vls 21 (ilw b)) 76) (.cells (vls 21 (ilw fun _ => 0)) 80) (.cells (vls 21 (ilw fun _ => 0)) 80)
  go_enter Try.func83, Try.ntmps83
  go_wp2_with (refine wpList_load_head rfl 74 _ rfl w.heap.size rfl 21 (ilw b) 76 A0.out 20 (by omega) _ Try.underlying74 rfl info_i20 ?_)
  refine (toCounts b _).mono ?_
  rintro e w1 ⟨rfl, hb1⟩
  have A0 := hid (A0.out.stay hb1)
  have A1 := hid (A1.out.stay hb1)
  have A2 := hid (A2.out.stay hb1)
  have c0 := stp b0 (Nat.le_refl _) hb1
  have N0 := hid (A0.out.setPartOther (k := w.heap.size + 1 + 1) (by omega) 0 (vls 20 (ilw b)).toList)
  have N1 := hid (A1.out.setPartOther (k := w.heap.size + 1 + 1) (by omega) 0 (vls 20 (ilw b)).toList)
  have N2 := hid ((A2.out.setPart 0 20 (ilw b)).ext fun i _ => updR_zero _ _ _ i)
  have nb := below_cells (g := w.heap.size + 1 + 1) (by omega) (vls 20 (ilw b)).toList 0 c0
  clear A0 A1 b0 c0
  have tok1 : True := trivial
  go_wp2_with (first | (have _t := M2; refine wpList_load_row rfl 80 _ rfl (w.heap.size + 1 + 1) rfl 80 (vls 21 (ilw b)) (0, 0) _ M2.out Try.underlying80 rfl (by rw [vls_size]; exact info_box) ?_) | (have _t := M2; refine wpList_store_row rfl 80 _ _ rfl (w.heap.size + 1) (vls 21 (ilw b)) rfl rfl 80 _ M1.out (by rw [vls_size]; exact info_box) (by simp) (vls_one (ilw_one b)) ?_) | (have _t := tok1; refine wpList_store_head rfl 78 _ _ rfl (w.heap.size + 1 + 1) 20 (ilw b) rfl rfl 21 (ilw fun _ => 0) 80 A2.out (by omega) info_cnt (ilw_one b) ?_; intro w9 hw9; rw [← hw9] at N0 N1 N2 nb; clear hw9 A2 tok1; have q0 := N0.out.icell (k := 20) (by omega); have q2 := N2.out.cell (k := 20) (by omega); have f2 := N2.out.frozen 20; have M1 := hid (N1.out.setOther (a := ⟨w.heap.size + 1 + 1, 20, none⟩) (by simp) (.int .i64 (b 20))); have M2 := hid ((N2.out.set 20 (.int .i64 (b 20))).ext (d := ilw b) (box_last b)); have mb := nb.setCell (p := ⟨w.heap.size + 1 + 1, 20, none⟩) (by simp; omega) (.int .i64 (b 20))))
  exact bodyPost_ret (results_cell_row rfl _ _ (w.heap.size + 1) 80 (vls 21 (ilw b)) (0, 0) _ rfl (M1.out.setRow (ilw b)) Try.underlying80 rfl (by rw [vls_size]; exact info_box)) rfl ⟨rfl, below_row mb (by omega) _⟩

theorem iUnits (k : Nat) (hk : k < 20) (w : World) :
    Calls Try.prog 170 #[.int .i64 (k : Int)] w fun e w' => e = .returned (.int .i64 ((2 : Int) ^ k)) ∧ w = w' := by
  have H : k = 0 ∨ k = 1 ∨ k = 2 ∨ k = 3 ∨ k = 4 ∨ k = 5 ∨ k = 6 ∨ k = 7 ∨ k = 8 ∨ k = 9 ∨ k = 10 ∨ k = 11 ∨ k = 12 ∨ k = 13 ∨ k = 14 ∨ k = 15 ∨ k = 16 ∨ k = 17 ∨ k = 18 ∨ k = 19 := by omega
  rcases H with rfl | rfl | rfl | rfl | rfl | rfl | rfl | rfl | rfl | rfl | rfl | rfl | rfl | rfl | rfl | rfl | rfl | rfl | rfl | rfl
  all_goals
    go_enter Try.func170, Try.ntmps170
    go_wp2
    go_ret
    exact ⟨rfl, rfl⟩

/-- Dust, and the masses of the first k classes. -/
def massI (b : Nat → Int) : Nat → Int
  | 0 => b 20
  | k + 1 => massI b k + b k * (2 : Int) ^ k

theorem pow_le (k : Nat) (hk : k < 20) : (1 : Int) ≤ (2 : Int) ^ k ∧ (2 : Int) ^ k ≤ 524288 := by
  have H : k = 0 ∨ k = 1 ∨ k = 2 ∨ k = 3 ∨ k = 4 ∨ k = 5 ∨ k = 6 ∨ k = 7 ∨ k = 8 ∨ k = 9 ∨ k = 10 ∨ k = 11 ∨ k = 12 ∨ k = 13 ∨ k = 14 ∨ k = 15 ∨ k = 16 ∨ k = 17 ∨ k = 18 ∨ k = 19 := by omega
  rcases H with rfl | rfl | rfl | rfl | rfl | rfl | rfl | rfl | rfl | rfl | rfl | rfl | rfl | rfl | rfl | rfl | rfl | rfl | rfl | rfl <;> decide

theorem wrap_id {n : Int} (h1 : -9223372036854775808 ≤ n) (h2 : n ≤ 9223372036854775807) : wrap64 n = n := by
  unfold wrap64; omega

theorem prod_bnd {x p : Int} (h1 : 0 ≤ x) (h2 : x ≤ 1000000000) (h3 : 1 ≤ p) (h4 : p ≤ 524288) : 0 ≤ x * p ∧ x * p ≤ 524288000000000 := by
  refine ⟨Int.mul_nonneg h1 (by omega), ?_⟩
  have := Int.mul_le_mul h2 h4 (by omega) (by omega)
  omega

theorem massI_bnd {b : Nat → Int} (h : Bx b) : ∀ k, k ≤ 20 → 0 ≤ massI b k ∧ massI b k ≤ 1000000000 + 524288000000000 * (k : Int)
  | 0, _ => by have := h 20 (by omega); unfold Cnt at this; simp only [massI]; omega
  | k + 1, hk => by
    have ih := massI_bnd h k (by omega)
    have hb := h k (by omega)
    have hp := pow_le k (by omega)
    have := prod_bnd hb.1 hb.2 hp.1 hp.2
    simp only [massI]
    omega

theorem massI_step {b : Nat → Int} (h : Bx b) (k : Nat) (hk : k < 20) : wrap64 (massI b k + wrap64 (b k * (2 : Int) ^ k)) = massI b (k + 1) := by
  have ih := massI_bnd h k (by omega)
  have hb := h k (by omega)
  have hp := pow_le k (by omega)
  have := prod_bnd hb.1 hb.2 hp.1 hp.2
  rw [wrap_id (n := b k * (2 : Int) ^ k) (by omega) (by omega)]
  simp only [massI]
  exact wrap_id (by omega) (by omega)

set_option maxRecDepth 100000 in
theorem iMassOfBox (b : Nat → Int) (h : Bx b) (w : World) :
    Calls Try.prog 86 #[.agg (vls 21 (ilw b))] w fun e w' => e = .returned (.tuple #[.int .i64 (massI b 20), .int .i64 0]) ∧ Below w.heap.size w w' := by
  have A0 := hid (vAt.new w 21 (ilw b) 80)
  have b0 := boxed w (.cells (vls 21 (ilw b)) 80)
  have H := hid h
  clear h
  go_enter Try.func86, Try.ntmps86
  go_wp2_with (refine wpList_load_row rfl 80 _ rfl (w.heap.size) rfl 80 (vls 21 (ilw b)) (0, 0) _ A0.out Try.underlying80 rfl (by rw [vls_size]; exact info_box) ?_)
  refine (iValidBox_t b H.out _).mono ?_
  rintro e w1 ⟨rfl, hb1⟩
  have A1 := hid (A0.out.stay hb1)
  have c0 := stp b0 (Nat.le_refl _) hb1
  have q20 := A1.out.icell (k := 20) (by omega)
  go_wp2_with (refine wpList_load_head rfl 78 _ rfl w.heap.size rfl 21 (ilw b) 80 A1.out 20 (by omega) _ Try.underlying78 rfl info_cnt ?_)
  go_loop [4, 5, 6, 14] (fun s _ _ i => ∃ k : Nat, k ≤ 20 ∧ i = .int .i64 k ∧ s = .int .i64 (massI b k)) (fun _ _ _ i => 20 - (intOf i).toNat)
  case atStart => exact ⟨0, by omega, rfl, rfl⟩
  case round =>
    obtain ⟨k, hk, rfl, rfl⟩ := hrel
    by_cases hlt : k < 20
    · have hix := ixc b k hlt
      go_wp2_with (go_at_call 170; refine (iUnits k hlt _).mono ?_; rintro e w' ⟨rfl, rfl⟩)
      go_round
      case rel => exact ⟨k + 1, by omega, by go_num, by rw [massI_step H.out k hlt]⟩
      case measure => simp [intOf]; omega
    · obtain rfl : k = 20 := by omega
      go_wp2
      go_ret2
      exact ⟨rfl, c0⟩

set_option maxRecDepth 100000 in
theorem iMassOfBox_f (b : Nat → Int) (h : ¬ Bx b) (w : World) :
    Calls Try.prog 86 #[.agg (vls 21 (ilw b))] w fun e w' => e = .returned (.tuple #[.int .i64 0, .int .i64 1]) ∧ Below w.heap.size w w' := by
  have A0 := hid (vAt.new w 21 (ilw b) 80)
  have b0 := boxed w (.cells (vls 21 (ilw b)) 80)
  have H := hid h
  clear h
  go_enter Try.func86, Try.ntmps86
  go_wp2_with (refine wpList_load_row rfl 80 _ rfl (w.heap.size) rfl 80 (vls 21 (ilw b)) (0, 0) _ A0.out Try.underlying80 rfl (by rw [vls_size]; exact info_box) ?_)
  refine (iValidBox_f b H.out _).mono ?_
  rintro e w1 ⟨rfl, hb1⟩
  have c0 := stp b0 (Nat.le_refl _) hb1
  go_wp2
  go_ret2
  exact ⟨rfl, c0⟩

set_option maxRecDepth 100000 in
theorem sMassOfBox_f (b : Nat → Int) (h : ¬ Bx b) (w : World) :
    Calls Try.prog 85 #[.agg (vls 21 (ilw b))] w fun e w' => e = .returned (.tuple #[.int .i64 0, .int .i64 1]) ∧ Below w.heap.size w w' := by
  have A0 := hid (vAt.new w 21 (ilw b) 80)
  have b0 := boxed w (.cells (vls 21 (ilw b)) 80)
  have H := hid h
  clear h
  go_enter Try.func85, Try.ntmps85
  go_wp2_with fail
  refine (sBoxOk_f b H.out _ w.heap.size 80 A0.out).mono ?_
  rintro e w1 ⟨rfl, rfl⟩
  go_wp2
  go_ret2
  exact ⟨rfl, b0⟩

set_option maxRecDepth 100000 in
theorem sMassOfBox (b : Nat → Int) (h : Bx b) (w : World) :
    Calls Try.prog 85 #[.agg (vls 21 (ilw b))] w fun e w' => e = .returned (.tuple #[.int .i64 (massI b 20), .int .i64 0]) ∧ Below w.heap.size w w' := by
  have A0 := hid (vAt.new w 21 (ilw b) 80)
  have b0 := boxed w (.cells (vls 21 (ilw b)) 80)
  have H := hid h
  clear h
  have q20 := A0.out.icell (k := 20) (by omega)
  go_enter Try.func85, Try.ntmps85
  go_wp2_with fail
  refine (sBoxOk_t b H.out _ w.heap.size 80 A0.out).mono ?_
  rintro e w1 ⟨rfl, rfl⟩
  go_wp2
  go_loop [4, 5] (fun s i => ∃ k : Nat, k ≤ 20 ∧ i = .int .i64 k ∧ s = .int .i64 (massI b k)) (fun _ i => 20 - (intOf i).toNat)
  case atStart => exact ⟨0, by omega, rfl, rfl⟩
  case round =>
    obtain ⟨k, hk, rfl, rfl⟩ := hrel
    by_cases hlt : k < 20
    · have q := A0.out.icell (k := k) (by omega)
      go_wp2
      go_round
      case rel => exact ⟨k + 1, by omega, by go_num, by rw [massI_step H.out k hlt]⟩
      case measure => simp [intOf]; omega
    · obtain rfl : k = 20 := by omega
      go_wp2
      go_ret2
      exact ⟨rfl, b0⟩

set_option maxRecDepth 100000 in
theorem coreMassOfBox (x0 : Nat → Int) (r0 : Int) (r1 : Int)
    (hS : ∀ w, Calls Try.prog 85 #[.agg (vls 21 (ilw x0))] w fun e w' => e = .returned (.tuple #[.int .i64 r0, .int .i64 r1]) ∧ Below w.heap.size w w')
    (hI : ∀ w, Calls Try.prog 86 #[.agg (vls 21 (ilw x0))] w fun e w' => e = .returned (.tuple #[.int .i64 r0, .int .i64 r1]) ∧ Below w.heap.size w w') (w : World) :
    Calls Try.prog 25 #[.agg (vls 21 (ilw x0))] w fun e w' => e = .returned (.bool true) ∧ Below w.heap.size w w' := by
  have A0 := hid (heap_alloc_new w (.cells (vls 21 (ilw x0)) 76))
  have b0 := boxed w (.cells (vls 21 (ilw x0)) 76)
  have HS := hid hS
  have HI := hid hI
  clear hS hI
  go_enter Try.func25, Try.ntmps25
  go_wp2_with (first | (refine wpList_load_row rfl 76 _ rfl (w.heap.size) rfl 76 (vls 21 (ilw x0)) (0, 0) _ A0.out Try.underlying76 rfl (by rw [vls_size]; exact info_lbox) ?_))
  refine (toBox x0 _).mono ?_
  rintro e u0 ⟨rfl, hbu0⟩
  have bu0 := stp b0 (Nat.le_refl _) hbu0
  have A0 := hid (stayB A0.out hbu0)
  go_wp2_with fail
  refine (HS.out _).mono ?_
  rintro e v0 ⟨rfl, hbv0⟩
  have bv0 := stp bu0 (Nat.le_refl _) hbv0
  have A0 := hid (stayB A0.out hbv0)
  go_wp2_with (first | (refine wpList_load_row rfl 76 _ rfl (w.heap.size) rfl 76 (vls 21 (ilw x0)) (0, 0) _ A0.out Try.underlying76 rfl (by rw [vls_size]; exact info_lbox) ?_))
  refine (toBox x0 _).mono ?_
  rintro e u1 ⟨rfl, hbu1⟩
  have bu1 := stp bv0 (Nat.le_refl _) hbu1
  have A0 := hid (stayB A0.out hbu1)
  go_wp2_with fail
  refine (HI.out _).mono ?_
  rintro e v1 ⟨rfl, hbv1⟩
  have bv1 := stp bu1 (Nat.le_refl _) hbv1
  have A0 := hid (stayB A0.out hbv1)
  go_wp2
  go_ret
  exact ⟨rfl, bv1⟩

theorem lawMassOfBox (b : Nat → Int) (_hb : ∀ i, i < 21 → inI64 (b i)) (w : World) :
    Calls Try.prog 25 #[.agg (vls 21 (ilw b))] w fun e w' => e = .returned (.bool true) ∧ Below w.heap.size w w' := by
  rcases Classical.em (Bx b) with h | h
  · exact coreMassOfBox b _ _ (sMassOfBox b h) (iMassOfBox b h) w
  · exact coreMassOfBox b _ _ (sMassOfBox_f b h) (iMassOfBox_f b h) w

theorem words_cons : ∀ (v : List Char) (r : List Char), (∀ c ∈ v, c ≠ Char.ofNat 32) → wordsSigns (v ++ Char.ofNat 32 :: r) = v :: wordsSigns r
  | [], r, _ => rfl
  | c :: v, r, h => by
    have ih := words_cons v r (fun x hx => h x (by simp [hx]))
    have hc : c ≠ Char.ofNat 32 := h c (by simp)
    show wordsSigns (c :: (v ++ Char.ofNat 32 :: r)) = _
    rw [wordsSigns.eq_3 _ _ (fun e => hc e), ih]

def w0 : List Nat := [104, 97, 114, 110, 101, 115, 115]

def w1 : List Nat := [97, 97, 48, 52, 102, 49, 99, 51, 50, 54, 56, 53, 56, 53, 102, 57, 99, 56, 55, 101, 50, 56, 99, 101, 57, 99, 99, 99, 52, 98, 56, 57, 52, 51, 53, 102, 101, 102, 99, 51, 54, 98, 102, 57, 51, 50, 53, 51, 57, 101, 54, 98, 50, 101, 98, 55, 50, 53, 53, 97, 54, 51, 54, 55]

def w2 : List Nat := [99, 117, 116]

def w3 : List Nat := [97, 116, 32, 108, 111, 111, 112, 46, 101, 120, 97, 109, 112, 108, 101, 47, 103, 48, 49, 50, 50, 52, 47, 108, 97, 119, 115, 46, 70, 110, 69, 120, 97, 99, 116, 84, 104, 105, 114, 100, 82, 111, 111, 116, 32, 108, 111, 111, 112, 46, 101, 120, 97, 109, 112, 108, 101, 47, 103, 48, 49, 50, 50, 52, 47, 108, 97, 119, 115, 46, 70, 110, 69, 120, 97, 99, 116, 83, 104, 105, 102, 116, 77, 97, 115, 115, 101, 115, 32, 108, 111, 111, 112, 46, 101, 120, 97, 109, 112, 108, 101, 47, 103, 48, 49, 50, 50, 52, 47, 108, 97, 119, 115, 46, 70, 110, 69, 120, 97, 99, 116, 71, 97, 105, 110, 115, 65, 116, 32, 108, 111, 111, 112, 46, 101, 120, 97, 109, 112, 108, 101, 47, 103, 48, 49, 50, 50, 52, 47, 108, 97, 119, 115, 46, 70, 110, 69, 120, 97, 99, 116, 71, 114, 111, 119, 79, 110, 99, 101, 32, 108, 111, 111, 112, 46, 101, 120, 97, 109, 112, 108, 101, 47, 103, 48, 49, 50, 50, 52, 47, 108, 97, 119, 115, 46, 70, 110, 69, 120, 97, 99, 116, 71, 114, 111, 119, 83, 116, 101, 112, 115, 32, 108, 111, 111, 112, 46, 101, 120, 97, 109, 112, 108, 101, 47, 103, 48, 49, 50, 50, 52, 47, 108, 97, 119, 115, 46, 70, 110, 69, 120, 97, 99, 116, 83, 116, 101, 112, 115, 84, 111, 68, 114, 121, 32, 108, 111, 111, 112, 46, 101, 120, 97, 109, 112, 108, 101, 47, 103, 48, 49, 50, 50, 52, 47, 108, 97, 119, 115, 46, 70, 110, 69, 120, 97, 99, 116, 86, 97, 108, 105, 100, 75, 101, 114, 110, 101, 108, 32, 108, 111, 111, 112, 46, 101, 120, 97, 109, 112, 108, 101, 47, 103, 48, 49, 50, 50, 52, 47, 108, 97, 119, 115, 46, 70, 110, 69, 120, 97, 99, 116, 83, 97, 109, 101, 75, 101, 114, 110, 101, 108, 32, 108, 111, 111, 112, 46, 101, 120, 97, 109, 112, 108, 101, 47, 103, 48, 49, 50, 50, 52, 47, 108, 97, 119, 115, 46, 70, 110, 69, 120, 97, 99, 116, 70, 97, 108, 108, 79, 102, 32, 108, 111, 111, 112, 46, 101, 120, 97, 109, 112, 108, 101, 47, 103, 48, 49, 50, 50, 52, 47, 108, 97, 119, 115, 46, 70, 110, 69, 120, 97, 99, 116, 70, 108, 97, 116, 75, 101, 114, 110, 101, 108, 32, 108, 111, 111, 112, 46, 101, 120, 97, 109, 112, 108, 101, 47, 103, 48, 49, 50, 50, 52, 47, 108, 97, 119, 115, 46, 70, 110, 69, 120, 97, 99, 116, 83, 117, 109, 75, 101, 114, 110, 101, 108, 32, 108, 111, 111, 112, 46, 101, 120, 97, 109, 112, 108, 101, 47, 103, 48, 49, 50, 50, 52, 47, 108, 97, 119, 115, 46, 70, 110, 69, 120, 97, 99, 116, 70, 97, 108, 108, 75, 101, 114, 110, 101, 108, 32, 108, 111, 111, 112, 46, 101, 120, 97, 109, 112, 108, 101, 47, 103, 48, 49, 50, 50, 52, 47, 108, 97, 119, 115, 46, 70, 110, 69, 120, 97, 99, 116, 65, 100, 100, 75, 101, 114, 110, 101, 108, 115, 32, 108, 111, 111, 112, 46, 101, 120, 97, 109, 112, 108, 101, 47, 103, 48, 49, 50, 50, 52, 47, 108, 97, 119, 115, 46, 70, 110, 69, 120, 97, 99, 116, 83, 99, 97, 108, 101, 75, 101, 114, 110, 101, 108, 32, 108, 111, 111, 112, 46, 101, 120, 97, 109, 112, 108, 101, 47, 103, 48, 49, 50, 50, 52, 47, 108, 97, 119, 115, 46, 70, 110, 69, 120, 97, 99, 116, 69, 118, 101, 110, 116, 115, 79, 102, 32, 108, 111, 111, 112, 46, 101, 120, 97, 109, 112, 108, 101, 47, 103, 48, 49, 50, 50, 52, 47, 108, 97, 119, 115, 46, 70, 110, 69, 120, 97, 99, 116, 76, 111, 115, 115, 101, 115, 79, 102, 32, 108, 111, 111, 112, 46, 101, 120, 97, 109, 112, 108, 101, 47, 103, 48, 49, 50, 50, 52, 47, 108, 97, 119, 115, 46, 70, 110, 69, 120, 97, 99, 116, 67, 111, 108, 108, 105, 100, 101, 32, 108, 111, 111, 112, 46, 101, 120, 97, 109, 112, 108, 101, 47, 103, 48, 49, 50, 50, 52, 47, 108, 97, 119, 115, 46, 70, 110, 69, 120, 97, 99, 116, 67, 111, 108, 108, 105, 100, 101, 83, 116, 101, 112, 115, 32, 108, 111, 111, 112, 46, 101, 120, 97, 109, 112, 108, 101, 47, 103, 48, 49, 50, 50, 52, 47, 108, 97, 119, 115, 46, 70, 110, 69, 120, 97, 99, 116, 82, 97, 105, 110, 77, 97, 100, 101, 32, 108, 111, 111, 112, 46, 101, 120, 97, 109, 112, 108, 101, 47, 103, 48, 49, 50, 50, 52, 47, 108, 97, 119, 115, 46, 70, 110, 69, 120, 97, 99, 116, 66, 114, 101, 97, 107, 67, 108, 97, 115, 115, 32, 108, 111, 111, 112, 46, 101, 120, 97, 109, 112, 108, 101, 47, 103, 48, 49, 50, 50, 52, 47, 108, 97, 119, 115, 46, 70, 110, 69, 120, 97, 99, 116, 66, 114, 101, 97, 107, 76, 97, 114, 103, 101, 32, 108, 111, 111, 112, 46, 101, 120, 97, 109, 112, 108, 101, 47, 103, 48, 49, 50, 50, 52, 47, 108, 97, 119, 115, 46, 70, 110, 69, 120, 97, 99, 116, 86, 97, 108, 105, 100, 66, 111, 120, 32, 108, 111, 111, 112, 46, 101, 120, 97, 109, 112, 108, 101, 47, 103, 48, 49, 50, 50, 52, 47, 108, 97, 119, 115, 46, 70, 110, 69, 120, 97, 99, 116, 77, 97, 115, 115, 79, 102, 66, 111, 120, 32, 108, 111, 111, 112, 46, 101, 120, 97, 109, 112, 108, 101, 47, 103, 48, 49, 50, 50, 52, 47, 108, 97, 119, 115, 46, 70, 110, 69, 120, 97, 99, 116, 83, 105, 122, 101, 115, 79, 102, 66, 111, 120, 32, 108, 111, 111, 112, 46, 101, 120, 97, 109, 112, 108, 101, 47, 103, 48, 49, 50, 50, 52, 47, 108, 97, 119, 115, 46, 70, 110, 69, 120, 97, 99, 116, 67, 111, 108, 108, 105, 100, 101, 80, 97, 105, 114, 32, 108, 111, 111, 112, 46, 101, 120, 97, 109, 112, 108, 101, 47, 103, 48, 49, 50, 50, 52, 47, 108, 97, 119, 115, 46, 70, 110, 69, 120, 97, 99, 116, 67, 111, 108, 108, 105, 100, 101, 80, 97, 105, 114, 115, 32, 108, 111, 111, 112, 46, 101, 120, 97, 109, 112, 108, 101, 47, 103, 48, 49, 50, 50, 52, 47, 108, 97, 119, 115, 46, 70, 110, 69, 120, 97, 99, 116, 68, 114, 97, 119, 80, 97, 105, 114, 115, 32, 108, 111, 111, 112, 46, 101, 120, 97, 109, 112, 108, 101, 47, 103, 48, 49, 50, 50, 52, 47, 108, 97, 119, 115, 46, 70, 110, 69, 120, 97, 99, 116, 71, 97, 116, 104, 101, 114, 68, 117, 115, 116]

def letters (l : List Nat) : List Char := l.map Char.ofNat

theorem head_reads : Try.prog.initOrder = String.ofList (letters w0 ++ Char.ofNat 32 :: (letters w1 ++ Char.ofNat 32 :: (letters w2 ++ Char.ofNat 32 :: letters w3))) := by kernel_rfl

theorem no_blank {l : List Nat} (h : l.all (fun n => Char.ofNat n != Char.ofNat 32) = true) : ∀ c ∈ letters l, c ≠ Char.ofNat 32 := by
  intro c hc
  obtain ⟨n, hn, rfl⟩ := List.mem_map.1 hc
  have := List.all_eq_true.1 h n hn
  simpa using this

theorem h0 : letters w0 = "harness".toList := by kernel_rfl

theorem h2 : letters w2 = "cut".toList := by kernel_rfl

theorem sums : isSumSigns (letters w1) = true := by kernel_rfl

theorem words : wordsSigns Try.prog.initOrder.toList = "harness".toList :: letters w1 :: "cut".toList :: wordsSigns (letters w3) := by
  rw [head_reads, String.toList_ofList, words_cons _ _ (no_blank (by decide +kernel)), words_cons _ _ (no_blank (by decide +kernel)), words_cons _ _ (no_blank (by decide +kernel)), h0, h2]

theorem behind : ∃ r, behindMainWord (wordsSigns Try.prog.initOrder.toList) = "cut".toList :: r := by
  refine ⟨wordsSigns (letters w3), ?_⟩
  rw [words]
  generalize wordsSigns (letters w3) = r
  have hs := sums
  generalize letters w1 = v at hs
  unfold behindMainWord
  simp [hs]

theorem not_later : Try.prog.laysLater = false := by kernel_rfl

theorem no_reflect : Try.prog.bearsReflect = false := by kernel_rfl

theorem no_doors : Try.prog.doorFits [] = true := by kernel_rfl

theorem strips (r : List (List Char)) : stripLifts liftWords ("cut".toList :: r) = ([], "cut".toList :: r) := by kernel_rfl

theorem may_enter_of (P : Program) (r : List (List Char)) (h : behindMainWord (wordsSigns P.initOrder.toList) = "cut".toList :: r) (h1 : P.laysLater = false) (h2 : P.bearsReflect = false) (h3 : P.doorFits [] = true) : P.mayEnter = true := by
  unfold Program.mayEnter
  rw [h]
  dsimp only
  rw [strips, h1, h2, h3]
  kernel_rfl

theorem lifts_final_of (P : Program) (r : List (List Char)) (h : behindMainWord (wordsSigns P.initOrder.toList) = "cut".toList :: r) : P.liftsFinal = false := by
  unfold Program.liftsFinal Program.headLifts
  rw [h]
  dsimp only
  rw [strips]
  kernel_rfl

theorem made_of (P : Program) (r : List (List Char)) (h : behindMainWord (wordsSigns P.initOrder.toList) = "cut".toList :: r) : P.make = some .cut := by
  unfold Program.make
  rw [h]
  kernel_rfl

theorem may_enter : Try.prog.mayEnter = true := let ⟨r, h⟩ := behind; may_enter_of _ r h not_later no_reflect no_doors

theorem lifts_final : Try.prog.liftsFinal = false := let ⟨r, h⟩ := behind; lifts_final_of _ r h

theorem made : Try.prog.make = some .cut := let ⟨r, h⟩ := behind; made_of _ r h

theorem laid : laidOutB Try.prog = true := by kernel_rfl

theorem rowed : mapsRowed Try.prog = true := by kernel_rfl

theorem no_stops : Try.prog.stops = [] := by kernel_rfl

theorem no_knobs : Try.prog.stopKnobs = [] := by kernel_rfl

theorem plain_keys : Try.prog.plainKeys = false := by kernel_rfl

theorem stops_heard : Try.prog.stopsHeard = true := by kernel_rfl

theorem arr1 {α : Type} {cs : Array α} (h : cs.size = 1) : ∃ c0, cs = #[c0] := by
  obtain ⟨l⟩ := cs
  match l, h with
  | [a], _ => exact ⟨a, rfl⟩

theorem own : ownKnob Try.prog.godebug = none := by kernel_rfl

theorem cells21 : Try.prog.cellsOf 76 = 21 := by kernel_rfl

theorem types21 : Try.prog.cellTypes Try.prog.depth 76 = some (List.replicate 21 2) := by kernel_rfl

theorem rdb : Try.prog.readableRec 76 = true ∧ 76 < Try.prog.types.size := ⟨by kernel_rfl, of_decide_eq_true (by kernel_rfl)⟩
end Go.Proofs.Ytnnhoololemaaaa

namespace Go.Proofs.Ytnnhoololemaaaa.fnExactMassOfBox
open Go.RowKit Go.Fl Go.ChangeShapes Go.WideShapes Go.ChangeAt

theorem closed : joinedFacts Try.prog 25 Try.f25 Rows.fnExactMassOfBoxSpec Rows.fnExactMassOfBoxRow = true := by
  unfold joinedFacts
  simp only [Bool.and_eq_true]
  exact ⟨⟨⟨⟨⟨⟨⟨⟨⟨⟨⟨⟨⟨⟨⟨⟨⟨⟨⟨⟨⟨⟨⟨⟨⟨⟨⟨⟨⟨⟨⟨(by as_aux_lemma => kernel_rfl),
    laid⟩,
    rowed⟩,
    (by as_aux_lemma => kernel_rfl)⟩,
    (by as_aux_lemma => kernel_rfl)⟩,
    (by as_aux_lemma => kernel_rfl)⟩,
    (by rw [no_stops]; rfl)⟩,
    (by as_aux_lemma => kernel_rfl)⟩,
    (by rw [no_knobs]; rfl)⟩,
    (by as_aux_lemma => kernel_rfl)⟩,
    (by as_aux_lemma => kernel_rfl)⟩,
    (by as_aux_lemma => kernel_rfl)⟩,
    (by as_aux_lemma => kernel_rfl)⟩,
    (by as_aux_lemma => kernel_rfl)⟩,
    (by as_aux_lemma => kernel_rfl)⟩,
    (by as_aux_lemma => kernel_rfl)⟩,
    (by as_aux_lemma => kernel_rfl)⟩,
    (by as_aux_lemma => kernel_rfl)⟩,
    (by as_aux_lemma => kernel_rfl)⟩,
    (by as_aux_lemma => kernel_rfl)⟩,
    (by as_aux_lemma => kernel_rfl)⟩,
    (by as_aux_lemma => kernel_rfl)⟩,
    (show (Rows.fnExactMassOfBoxRow.plainKeys == Try.prog.plainKeys) = true by rw [plain_keys]; rfl)⟩,
    (by as_aux_lemma => kernel_rfl)⟩,
    stops_heard⟩,
    may_enter⟩,
    (show (Rows.fnExactMassOfBoxRow.lifted == Try.prog.liftsFinal) = true by rw [lifts_final]; rfl)⟩,
    (show (Try.prog.make == some Rows.fnExactMassOfBoxRow.make) = true by rw [made]; rfl)⟩,
    (by as_aux_lemma => kernel_rfl)⟩,
    (by as_aux_lemma => kernel_rfl)⟩,
    (by as_aux_lemma => kernel_rfl)⟩,
    (by as_aux_lemma => kernel_rfl)⟩

set_option maxRecDepth 100000 in
theorem lifted (os : Os) (started : os.Started) (H : Type) (enc : TypeId × Value → H) :
    ReturnsInHanded {} Try.checked os 25 .any (Rows.fnExactMassOfBoxSpec.pre6 enc Try.prog Try.f25 Rows.fnExactMassOfBoxRow.domain false) (Rows.fnExactMassOfBoxSpec.post enc Try.prog Try.f25 false true false false) := by
  refine LawFrame.lifted (C := Try.checked) (fn := Try.f25) (n := 1) (tb := 4) started own (by kernel_rfl) Try.func25 laid ?_ rfl rfl ?_ rfl Try.underlying4
    (ChangeSpec.witness6 (enc := enc) (C := Try.checked) false ⟨#[], #[.agg (Array.replicate 21 (.int .i64 0))], []⟩ 8 (by kernel_rfl) (by kernel_rfl) (by kernel_rfl) (by kernel_rfl)) ?_
  · intro t ht
    simp only [Try.params25, List.mem_cons, List.not_mem_nil, or_false] at ht
    subst ht; exact rdb
  · intro ds hd
    match ds, hd with
    | [_], _ => rfl
  · intro W base args ds ps hval hn _
    obtain ⟨v0, rfl⟩ : ∃ v0, args = #[v0] := arr1 hn
    obtain ⟨c0, rfl, hb0⟩ := open_ints Try.underlying76 rfl Try.underlying2 cells21 types21 (hval 0 76 v0 rfl rfl)
    exact lawMassOfBox c0 hb0 W

theorem over : Rows.fnExactMassOfBoxRow.holds Try.pinned (OpenSpec.ofChange Rows.fnExactMassOfBoxSpec) :=
  OpenClaim.holds_of_wide 25 Try.f25 rfl rfl rfl rfl rfl rfl rfl ⟨rfl, rfl, rfl, rfl, rfl⟩ rfl rfl rfl rfl rfl (by kernel_rfl) Try.func25 closed
    (of_decide_eq_true (by kernel_rfl)) (by unfold Func.isWrapper; rw [if_neg (by decide +kernel)]; exact ⟨rfl, rfl⟩)
    (fun os started H enc _ => lifted os started H enc)

theorem proved : Rows.FnExactMassOfBoxSaid := over
#print axioms proved
end Go.Proofs.Ytnnhoololemaaaa.fnExactMassOfBox
