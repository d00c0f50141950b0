import Derived.Test.YtgmcpbhjcfiikaaCDrawPairs
import Derived.Test.YtgmcpbhjcfiikaaChecked
import Derived.Test.YtgmcpbhjcfiikaaRows
import Derived.Laws.FloatArith
import Derived.ProofKit
import Derived.WalkKit
import Derived.WalkLawsBesides
import Derived.WalkSpells
import Derived.Deep.QuietTactic
import Derived.BigQuiet
import Derived.Deep.RegionHeld3
import Derived.ChangeKeysEq
import Derived.Laws.BitsAllLaws
import Derived.Deep.MidRow
import Derived.StillTailTactics
import Derived.Deep.WholeRow
import Derived.Deep.Slices
import Derived.ChangeSame
import Derived.OrdersIn
import Derived.ControlIn
import Derived.RangeFuncSeq
import Derived.RangeFuncNested
import Derived.RangeFuncLeaves
import Derived.RangeFuncBox
import Derived.OwnWalkIn
import Derived.TacticsInMore
import Derived.LoopNIn
import Derived.LoopIn
import Derived.Shelf.Abstract
import Derived.ArgAppend
import Derived.Lib.SliceRun
import Derived.Below
import Derived.Laws.AppendOwn
import Derived.OpenShut
/- The law FnExactDrawPairs of chapter 1: at every argument the call returns true, and what was there before it is as it was. -/
namespace Go.Proofs.Ytgmcpbhjcfiikaa
open Go.RowKit Go.Fl

@[go_sem] theorem ext_f64bits (y : Nat) (w : World) : (callFunc 230 #[.float .f64 y]).run Try.prog w = .ok (.value (.int .u64 y)) w := by
  rw [run_callFunc_extern Try.func230 (by kernel_rfl) (by kernel_rfl) (by kernel_rfl) (e := Extern.MathFloatBits.float64bits) (by kernel_rfl)]
  rfl

@[go_sem] theorem ext_f64from (n : Int) (w : World) : (callFunc 204 #[.int .u64 n]).run Try.prog w = .ok (.value (.float .f64 n.toNat)) w := by
  rw [run_callFunc_extern Try.func204 (by kernel_rfl) (by kernel_rfl) (by kernel_rfl) (e := Extern.MathFloatBits.float64frombits) (by kernel_rfl)]
  rfl

theorem hid {p : Prop} (h : p) : Hid p := h

@[go_sem] theorem ext_f32bits (y : Nat) (w : World) : (callFunc 194 #[.float .f32 y]).run Try.prog w = .ok (.value (.int .u32 y)) w := by
  rw [run_callFunc_extern Try.func194 (by kernel_rfl) (by kernel_rfl) (by kernel_rfl) (e := Extern.MathFloatBits.float32bits) (by kernel_rfl)]
  rfl

theorem l00In_t (n a b : Int) (h1 : a ≤ n) (h2 : n ≤ b) (w : World) :
    Calls Try.prog 91 #[.int .i64 n, .int .i64 a, .int .i64 b] w fun e w' => e = .returned (.bool true) ∧ w = w' := by
  go_enter Try.func91, Try.ntmps91
  go_wp2
  go_ret
  exact ⟨by first | rfl | (simp; done) | (simp; omega), rfl⟩

theorem l00In_f (n a b : Int) (hn : ¬ (a ≤ n ∧ n ≤ b)) (w : World) :
    Calls Try.prog 91 #[.int .i64 n, .int .i64 a, .int .i64 b] w fun e w' => e = .returned (.bool false) ∧ w = w' := by
  by_cases h0 : a ≤ n
  · have h3 : b < n := by omega
    clear hn
    go_enter Try.func91, Try.ntmps91
    go_wp2
    go_ret
    exact ⟨by first | rfl | (simp; done) | (simp; omega), rfl⟩
  · have h3 : n < a := by omega
    have h4 : decide (a ≤ n) = false := by simp; omega
    clear hn h0
    go_enter Try.func91, Try.ntmps91
    go_wp2
    go_ret
    exact ⟨by simp, rfl⟩

def Cnt (n : Int) : Prop := 0 ≤ n ∧ n ≤ 1000000000

def Bx (b : Nat → Int) : Prop := ∀ i, i < 21 → Cnt (b i)

theorem isCount_t (n : Int) (h : Cnt n) (w : World) :
    Calls Try.prog 206 #[.int .i64 n] w fun e w' => e = .returned (.bool true) ∧ w = w' := by
  have h1 : decide (0 ≤ n) = true := decide_eq_true h.1
  have h2 := h.2
  clear h
  go_enter Try.func206, Try.ntmps206
  go_wp2
  go_ret
  exact ⟨by first | rfl | (simp; done) | (simp; omega), rfl⟩

theorem isCount_f (n : Int) (hn : ¬ Cnt n) (w : World) :
    Calls Try.prog 206 #[.int .i64 n] w fun e w' => e = .returned (.bool false) ∧ w = w' := by
  unfold Cnt at hn
  by_cases h0 : 0 ≤ n
  · have h2 : ¬ n ≤ 1000000000 := by omega
    have h3 : 1000000000 < n := by omega
    clear hn h2
    go_enter Try.func206, Try.ntmps206
    go_wp2
    go_ret
    exact ⟨by first | rfl | (simp; done) | (simp; omega), rfl⟩
  · have h3 : n < 0 := by omega
    have h4 : decide (0 ≤ n) = false := by simp; omega
    clear hn h0
    go_enter Try.func206, Try.ntmps206
    go_wp2
    go_ret
    exact ⟨by simp, rfl⟩

theorem info_box : (Try.prog.info? 96).map (·.size) = some 21 := by kernel_rfl

theorem info_lbox : (Try.prog.info? 89).map (·.size) = some 21 := by kernel_rfl

theorem info_cnt : (Try.prog.info? 94).map (·.size) = some 20 := by kernel_rfl

theorem info_i20 : (Try.prog.info? 87).map (·.size) = some 20 := by kernel_rfl

theorem info_int : (Try.prog.info? 2).map (·.size) = some 1 := by kernel_rfl

theorem ixc (b : Nat → Int) (k : Nat) (hk : k < 20) (w : World) :
    (Instr.index 94 (.agg (vls 20 (ilw b))) (.int .i64 (k : Int))).run Try.prog w = .ok (.int .i64 (b k)) w :=
  run_index_vls Try.underlying94 Try.underlying2 rfl info_int 20 (ilw b) k hk hk w

set_option maxRecDepth 100000 in
theorem iValidBox_t (b : Nat → Int) (h : Bx b) (w : World) :
    Calls Try.prog 144 #[.agg (vls 21 (ilw b))] w fun e w' => e = .returned (.bool true) ∧ Below w.heap.size w w' := by
  have A0 := hid (vAt.new w 21 (ilw b) 96)
  have b0 := boxed w (.cells (vls 21 (ilw b)) 96)
  have H := hid h
  clear h
  have hc20 : Cnt (b 20) := H.out 20 (by omega)
  have q20 := A0.out.cell (k := 20) (by omega)
  go_enter Try.func144, Try.ntmps144
  go_wp2_with (refine wpList_load_head rfl 94 _ rfl w.heap.size rfl 21 (ilw b) 96 A0.out 20 (by omega) _ Try.underlying94 rfl info_cnt ?_)
  go_loop [7] (fun i => ∃ k : Nat, k ≤ 20 ∧ i = .int .i64 k) (fun i => 20 - (intOf i).toNat)
  case atStart => exact ⟨0, by omega, rfl⟩
  case round =>
    obtain ⟨k, hk, rfl⟩ := hrel
    by_cases hlt : k < 20
    · have hix := ixc b k hlt
      go_wp2_with (go_at_call 206; refine (isCount_t (b k) (H.out k (by omega)) _).mono ?_; rintro e w' ⟨rfl, rfl⟩)
      go_round
      case rel => exact ⟨k + 1, by omega, by go_num⟩
      case measure => simp [intOf]; omega
    · go_wp2_with (go_at_call 206; refine (isCount_t (b 20) hc20 _).mono ?_; rintro e w' ⟨rfl, rfl⟩)
      go_ret
      exact ⟨rfl, b0⟩

set_option maxRecDepth 100000 in
theorem iValidBox_f (b : Nat → Int) (h : ¬ Bx b) (w : World) :
    Calls Try.prog 144 #[.agg (vls 21 (ilw b))] w fun e w' => e = .returned (.bool false) ∧ Below w.heap.size w w' := by
  have A0 := hid (vAt.new w 21 (ilw b) 96)
  have b0 := boxed w (.cells (vls 21 (ilw b)) 96)
  have H := hid h
  clear h
  have q20 := A0.out.icell (k := 20) (by omega)
  go_enter Try.func144, Try.ntmps144
  go_wp2_with (refine wpList_load_head rfl 94 _ rfl w.heap.size rfl 21 (ilw b) 96 A0.out 20 (by omega) _ Try.underlying94 rfl info_cnt ?_)
  go_loop [7] (fun i => ∃ k : Nat, k ≤ 20 ∧ Hid (∀ i, i < k → Cnt (b i)) ∧ i = .int .i64 k) (fun i => 20 - (intOf i).toNat)
  case atStart => exact ⟨0, by omega, hid (fun i hi => by omega), rfl⟩
  case round =>
    obtain ⟨k, hk, HK, rfl⟩ := hrel
    by_cases hlt : k < 20
    · have hix := ixc b k hlt
      by_cases hc : Cnt (b k)
      · have HC := hid hc
        clear hc
        go_wp2_with (go_at_call 206; refine (isCount_t (b k) HC.out _).mono ?_; rintro e w' ⟨rfl, rfl⟩)
        go_round
        case rel => exact ⟨k + 1, by omega, hid (all_step HK.out HC.out), by go_num⟩
        case measure => simp [intOf]; omega
      · have HC := hid hc
        clear hc
        go_wp2_with (go_at_call 206; refine (isCount_f (b k) HC.out _).mono ?_; rintro e w' ⟨rfl, rfl⟩)
        go_ret
        exact ⟨rfl, b0⟩
    · have hc : ¬ Cnt (b 20) := fun hc => H.out fun i hi => by
        rcases Nat.lt_or_eq_of_le (Nat.le_of_lt_succ hi) with h1 | h1
        · exact HK.out i (by omega)
        · rw [h1]; exact hc
      have HC := hid hc
      clear hc
      go_wp2_with (go_at_call 206; refine (isCount_f (b 20) HC.out _).mono ?_; rintro e w' ⟨rfl, rfl⟩)
      go_ret
      exact ⟨rfl, b0⟩

set_option maxRecDepth 100000 in
theorem sBoxOk_t (b : Nat → Int) (h : Bx b) (w : World) (g : Nat) (T : TypeId) (hg : vAt w g 21 (ilw b) T) :
    Calls Try.prog 141 #[.pointer (some ⟨g, 0, none⟩)] w fun e w' => e = .returned (.bool true) ∧ w = w' := by
  have H := hid h
  have G := hid hg
  clear h hg
  have q20 := G.out.icell (k := 20) (by omega)
  go_enter Try.func141, Try.ntmps141
  go_wp2
  go_loop [3] (fun i => ∃ k : Nat, k ≤ 20 ∧ i = .int .i64 k) (fun i => 20 - (intOf i).toNat)
  case atStart => exact ⟨0, by omega, rfl⟩
  case round =>
    obtain ⟨k, hk, rfl⟩ := hrel
    by_cases hlt : k < 20
    · have q := G.out.icell (k := k) (by omega)
      go_wp2_with (go_at_call 91; refine (l00In_t (b k) 0 1000000000 (H.out k (by omega)).1 (H.out k (by omega)).2 _).mono ?_; rintro e w' ⟨rfl, rfl⟩)
      go_round
      case rel => exact ⟨k + 1, by omega, by go_num⟩
      case measure => simp [intOf]; omega
    · go_wp2_with (go_at_call 91; refine (l00In_t (b 20) 0 1000000000 (H.out 20 (by omega)).1 (H.out 20 (by omega)).2 _).mono ?_; rintro e w' ⟨rfl, rfl⟩)
      go_ret
      exact ⟨rfl, rfl⟩

set_option maxRecDepth 100000 in
theorem sBoxOk_f (b : Nat → Int) (h : ¬ Bx b) (w : World) (g : Nat) (T : TypeId) (hg : vAt w g 21 (ilw b) T) :
    Calls Try.prog 141 #[.pointer (some ⟨g, 0, none⟩)] w fun e w' => e = .returned (.bool false) ∧ w = w' := by
  have H := hid h
  have G := hid hg
  clear h hg
  have q20 := G.out.icell (k := 20) (by omega)
  go_enter Try.func141, Try.ntmps141
  go_wp2
  go_loop [3] (fun i => ∃ k : Nat, k ≤ 20 ∧ Hid (∀ i, i < k → Cnt (b i)) ∧ i = .int .i64 k) (fun i => 20 - (intOf i).toNat)
  case atStart => exact ⟨0, by omega, hid (fun i hi => by omega), rfl⟩
  case round =>
    obtain ⟨k, hk, HK, rfl⟩ := hrel
    by_cases hlt : k < 20
    · have q := G.out.icell (k := k) (by omega)
      by_cases hc : Cnt (b k)
      · have HC := hid hc
        clear hc
        go_wp2_with (go_at_call 91; refine (l00In_t (b k) 0 1000000000 HC.out.1 HC.out.2 _).mono ?_; rintro e w' ⟨rfl, rfl⟩)
        go_round
        case rel => exact ⟨k + 1, by omega, hid (all_step HK.out HC.out), by go_num⟩
        case measure => simp [intOf]; omega
      · have HC := hid hc
        clear hc
        go_wp2_with (go_at_call 91; refine (l00In_f (b k) 0 1000000000 HC.out _).mono ?_; rintro e w' ⟨rfl, rfl⟩)
        go_ret
        exact ⟨rfl, rfl⟩
    · have hc : ¬ Cnt (b 20) := fun hc => H.out fun i hi => by
        rcases Nat.lt_or_eq_of_le (Nat.le_of_lt_succ hi) with h1 | h1
        · exact HK.out i (by omega)
        · rw [h1]; exact hc
      have HC := hid hc
      clear hc
      go_wp2_with (go_at_call 91; refine (l00In_f (b 20) 0 1000000000 HC.out _).mono ?_; rintro e w' ⟨rfl, rfl⟩)
      go_ret
      exact ⟨rfl, rfl⟩

set_option maxRecDepth 100000 in
theorem toCounts (b : Nat → Int) (w : World) :
    Calls Try.prog 143 #[.agg (vls 20 (ilw b))] w fun e w' => e = .returned (.agg (vls 20 (ilw b))) ∧ Below w.heap.size w w' := by
  have A0 := hid (((vAt.new w 20 (ilw b) 87).alloc (.cells (vls 20 (ilw fun _ => 0)) 94)).alloc (.cells (vls 20 (ilw fun _ => 0)) 94))
  have A1 := hid ((vAt.new1 w (.cells (vls 20 (ilw b)) 87) 20 (ilw fun _ => 0) 94).alloc (.cells (vls 20 (ilw fun _ => 0)) 94))
  have A2 := hid (vAt.new2 w (.cells (vls 20 (ilw b)) 87) (.cells (vls 20 (ilw fun _ => 0)) 94) 20 (ilw fun _ => 0) 94)
  have b0 := boxed3 w (.cells (vls 20 (ilw b)) 87) (.cells (vls 20 (ilw fun _ => 0)) 94) (.cells (vls 20 (ilw fun _ => 0)) 94)
  go_enter Try.func143, Try.ntmps143
  go_wp2
  go_loopw [4] (fun i wr => ∃ k : Nat, k ≤ 20 ∧ i = .int .i64 k ∧ Hid (vAt wr w.heap.size 20 (ilw b) 87) ∧ Hid (vAt wr (w.heap.size + 1) 20 (ilw fun _ => 0) 94) ∧ Hid (vAt wr (w.heap.size + 1 + 1) 20 (prtV (ilw b) (ilw fun _ => 0) k) 94) ∧ Hid (Below w.heap.size w wr)) (fun i _ => 20 - (intOf i).toNat)
  case atStart => exact ⟨0, by omega, rfl, A0, A1, hid (A2.out.ext fun i _ => (prtV_zero _ _ i).symm), hid b0⟩
  case round =>
    obtain ⟨k, hk, rfl, h0, h1, h2, hb⟩ := hrel
    by_cases hlt : k < 20
    · have q0 := h0.out.icell hlt
      have q2 := h2.out.cell hlt
      have f2 := h2.out.frozen k
      go_wp2
      go_roundw
      case rel => exact ⟨k + 1, by omega, by go_num, hid (h0.out.setOther (by simp; omega) _), hid (h1.out.setOther (by simp) _), hid ((h2.out.set k (ilw b k)).ext (fun i _ => prtV_succ _ _ k i)), hid (hb.out.setCell (by simp; omega) _)⟩
      case measure => simp [intOf]; omega
    · obtain rfl : k = 20 := by omega
      have h2' := hid (h2.out.ext (prtV_all _ _ 20))
      clear h2
      go_wp2_with (first | (refine wpList_load_row rfl 94 _ rfl (w.heap.size + 1 + 1) rfl 94 (vls 20 (ilw b)) (0, 0) _ h2'.out Try.underlying94 rfl (by rw [vls_size]; exact info_cnt) ?_) | (refine wpList_store_row rfl 94 _ _ rfl (w.heap.size + 1) (vls 20 (ilw b)) rfl rfl 94 _ h1.out (by rw [vls_size]; exact info_cnt) (by simp) (vls_one (ilw_one b)) ?_))
      exact bodyPost_ret (results_cell_row rfl _ _ (w.heap.size + 1) 94 (vls 20 (ilw b)) (0, 0) _ rfl (h1.out.setRow (ilw b)) Try.underlying94 rfl (by rw [vls_size]; exact info_cnt)) rfl ⟨rfl, below_row hb.out (by omega) _⟩

theorem box_last (b : Nat → Int) (i : Nat) (hi : i < 21) : updV (prtV (ilw b) (ilw fun _ => 0) 20) 20 (.int .i64 (b 20)) i = ilw b i := by
  unfold updV prtV ilw
  by_cases h1 : i = 20
  · rw [if_pos h1, h1]
  · rw [if_neg h1, if_pos (by omega)]

set_option maxRecDepth 100000 in
theorem toBox (b : Nat → Int) (w : World) :
    Calls Try.prog 66 #[.agg (vls 21 (ilw b))] w fun e w' => e = .returned (.agg (vls 21 (ilw b))) ∧ Below w.heap.size w w' := by
  have A0 := hid (((vAt.new w 21 (ilw b) 89).alloc (.cells (vls 21 (ilw fun _ => 0)) 96)).alloc (.cells (vls 21 (ilw fun _ => 0)) 96))
  have A1 := hid ((vAt.new1 w (.cells (vls 21 (ilw b)) 89) 21 (ilw fun _ => 0) 96).alloc (.cells (vls 21 (ilw fun _ => 0)) 96))
  have A2 := hid (vAt.new2 w (.cells (vls 21 (ilw b)) 89) (.cells (vls 21 (ilw fun _ => 0)) 96) 21 (ilw fun _ => 0) 96)
  have b0 := boxed3 w (.cells (vls 21 (ilw b)) 89) (.cells (vls 21 (ilw fun _ => 0)) 96) (.cells (vls 21 (ilw fun _ => 0)) 96)
  go_enter Try.func66, Try.ntmps66
  go_wp2_with (refine wpList_load_head rfl 87 _ rfl w.heap.size rfl 21 (ilw b) 89 A0.out 20 (by omega) _ Try.underlying87 rfl info_i20 ?_)
  refine (toCounts b _).mono ?_
  rintro e w1 ⟨rfl, hb1⟩
  have A0 := hid (A0.out.stay hb1)
  have A1 := hid (A1.out.stay hb1)
  have A2 := hid (A2.out.stay hb1)
  have c0 := stp b0 (Nat.le_refl _) hb1
  have N0 := hid (A0.out.setPartOther (k := w.heap.size + 1 + 1) (by omega) 0 (vls 20 (ilw b)).toList)
  have N1 := hid (A1.out.setPartOther (k := w.heap.size + 1 + 1) (by omega) 0 (vls 20 (ilw b)).toList)
  have N2 := hid ((A2.out.setPart 0 20 (ilw b)).ext fun i _ => updR_zero _ _ _ i)
  have nb := below_cells (g := w.heap.size + 1 + 1) (by omega) (vls 20 (ilw b)).toList 0 c0
  clear A0 A1 b0 c0
  have tok1 : True := trivial
  go_wp2_with (first | (have _t := M2; refine wpList_load_row rfl 96 _ rfl (w.heap.size + 1 + 1) rfl 96 (vls 21 (ilw b)) (0, 0) _ M2.out Try.underlying96 rfl (by rw [vls_size]; exact info_box) ?_) | (have _t := M2; refine wpList_store_row rfl 96 _ _ rfl (w.heap.size + 1) (vls 21 (ilw b)) rfl rfl 96 _ M1.out (by rw [vls_size]; exact info_box) (by simp) (vls_one (ilw_one b)) ?_) | (have _t := tok1; refine wpList_store_head rfl 94 _ _ rfl (w.heap.size + 1 + 1) 20 (ilw b) rfl rfl 21 (ilw fun _ => 0) 96 A2.out (by omega) info_cnt (ilw_one b) ?_; intro w9 hw9; rw [← hw9] at N0 N1 N2 nb; clear hw9 A2 tok1; have q0 := N0.out.icell (k := 20) (by omega); have q2 := N2.out.cell (k := 20) (by omega); have f2 := N2.out.frozen 20; have M1 := hid (N1.out.setOther (a := ⟨w.heap.size + 1 + 1, 20, none⟩) (by simp) (.int .i64 (b 20))); have M2 := hid ((N2.out.set 20 (.int .i64 (b 20))).ext (d := ilw b) (box_last b)); have mb := nb.setCell (p := ⟨w.heap.size + 1 + 1, 20, none⟩) (by simp; omega) (.int .i64 (b 20))))
  exact bodyPost_ret (results_cell_row rfl _ _ (w.heap.size + 1) 96 (vls 21 (ilw b)) (0, 0) _ rfl (M1.out.setRow (ilw b)) Try.underlying96 rfl (by rw [vls_size]; exact info_box)) rfl ⟨rfl, below_row mb (by omega) _⟩

/-- The first class with droplets from class k on, in at most f steps. -/
def ndF (c : Nat → Int) : Nat → Nat → Nat
  | 0, k => k
  | f + 1, k => if c k = 0 then ndF c f ((k + 1) % 20) else k

def nd (c : Nat → Int) (k : Nat) : Nat := ndF c 20 k

/-- The next seed; the class that a seed asks for. -/
def nx (s : Int) : Int := (1664525 * s % 4294967296 + 1013904223) % 4294967296

theorem nx_alt (s : Int) : (1664525 * s + 1013904223) % 4294967296 = nx s := by unfold nx; omega

def kl (s : Int) : Nat := (s / 65536 % 20).toNat

theorem nx_bnd (s : Int) : 0 ≤ nx s ∧ nx s < 4294967296 := by
  unfold nx
  omega

theorem kl_lt (s : Int) : kl s < 20 := by unfold kl; omega

set_option maxRecDepth 100000 in
theorem iWith (b : Nat → Int) (j : Nat) (hj : j < 20) (hb : b j ≠ 0) (k0 : Nat) (hk0 : k0 < 20) (w : World) :
    Calls Try.prog 147 #[.agg (vls 20 (ilw b)), .int .i64 k0] w fun e w' => e = .returned (.int .i64 (nd b k0)) ∧ Below w.heap.size w w' := by
  have A0 := hid (vAt.new w 20 (ilw b) 94)
  have b0 := boxed w (.cells (vls 20 (ilw b)) 94)
  have HB := hid hb
  have h0 : Hid (∃ f, (j + 20 - k0) % 20 < f ∧ ndF b f k0 = nd b k0) := hid ⟨20, by omega, rfl⟩
  clear hb
  generalize nd b k0 = R at h0 ⊢
  go_enter Try.func147, Try.ntmps147
  go_wp2_with fail
  go_loop [1] (fun i => ∃ k : Nat, k < 20 ∧ i = .int .i64 k ∧ Hid (∃ f, (j + 20 - k) % 20 < f ∧ ndF b f k = R)) (fun i => (j + 20 - (intOf i).toNat) % 20)
  case atStart => exact ⟨k0, hk0, rfl, h0⟩
  case round =>
    obtain ⟨k, hk, rfl, h1⟩ := hrel
    clear h0
    have q := A0.out.icell (k := k) hk
    by_cases hz : b k = 0
    · have hne : k ≠ j := fun e => HB.out (e ▸ hz)
      have hm : ((k : Int) + 1) % 20 = (((k + 1) % 20 : Nat) : Int) := by omega
      have h2 : Hid (∃ f, (j + 20 - (k + 1) % 20) % 20 < f ∧ ndF b f ((k + 1) % 20) = R) := by
        obtain ⟨f, f1, f2⟩ := h1.out
        cases f with
        | zero => omega
        | succ f => exact hid ⟨f, by omega, by rw [← f2]; show _ = if b k = 0 then _ else _; rw [if_pos hz]⟩
      go_wp2
      go_round
      case rel => exact ⟨(k + 1) % 20, by omega, by rw [hm], h2⟩
      case measure => rw [hm]; show (j + 20 - (((k + 1) % 20 : Nat) : Int).toNat) % 20 < (j + 20 - ((k : Nat) : Int).toNat) % 20; clear hm h1 h2; omega
    · have h2 : Hid (k = R) := by
        refine hid ?_
        obtain ⟨f, f1, f2⟩ := h1.out
        cases f with
        | zero => omega
        | succ f => rw [← f2]; show _ = if b k = 0 then _ else _; rw [if_neg hz]
      go_wp2
      go_ret
      rw [← h2.out]; exact ⟨rfl, b0⟩

set_option maxRecDepth 100000 in
theorem sNext (b : Nat → Int) (j : Nat) (hj : j < 20) (hb : b j ≠ 0) (k0 : Nat) (hk0 : k0 < 20) (g : Nat) (T : TypeId) (w : World) (hg : vAt w g 21 (ilw b) T) :
    Calls Try.prog 142 #[.pointer (some ⟨g, 0, none⟩), .int .i64 k0] w fun e w' => e = .returned (.int .i64 (nd b k0)) ∧ w = w' := by
  have A0 := hid hg
  have HB := hid hb
  have h0 : Hid (∃ f, (j + 20 - k0) % 20 < f ∧ ndF b f k0 = nd b k0) := hid ⟨20, by omega, rfl⟩
  clear hb hg
  generalize nd b k0 = R at h0 ⊢
  go_enter Try.func142, Try.ntmps142
  go_wp2_with fail
  go_loop [1] (fun i => ∃ k : Nat, k < 20 ∧ i = .int .i64 k ∧ Hid (∃ f, (j + 20 - k) % 20 < f ∧ ndF b f k = R)) (fun i => (j + 20 - (intOf i).toNat) % 20)
  case atStart => exact ⟨k0, hk0, rfl, h0⟩
  case round =>
    obtain ⟨k, hk, rfl, h1⟩ := hrel
    clear h0
    have q := A0.out.icell (k := k) (by omega)
    by_cases hz : b k = 0
    · have hne : k ≠ j := fun e => HB.out (e ▸ hz)
      have hm : ((k : Int) + 1) % 20 = (((k + 1) % 20 : Nat) : Int) := by omega
      have h2 : Hid (∃ f, (j + 20 - (k + 1) % 20) % 20 < f ∧ ndF b f ((k + 1) % 20) = R) := by
        obtain ⟨f, f1, f2⟩ := h1.out
        cases f with
        | zero => omega
        | succ f => exact hid ⟨f, by omega, by rw [← f2]; show _ = if b k = 0 then _ else _; rw [if_pos hz]⟩
      go_wp2
      go_round
      case rel => exact ⟨(k + 1) % 20, by omega, by rw [hm], h2⟩
      case measure => rw [hm]; show (j + 20 - (((k + 1) % 20 : Nat) : Int).toNat) % 20 < (j + 20 - ((k : Nat) : Int).toNat) % 20; clear hm h1 h2; omega
    · have h2 : Hid (k = R) := by
        refine hid ?_
        obtain ⟨f, f1, f2⟩ := h1.out
        cases f with
        | zero => omega
        | succ f => rw [← f2]; show _ = if b k = 0 then _ else _; rw [if_neg hz]
      go_wp2
      go_ret
      rw [← h2.out]; exact ⟨rfl, rfl⟩

theorem iNextSeed (s : Int) (w : World) :
    Calls Try.prog 146 #[.int .u32 s] w fun e w' => e = .returned (.int .u32 (nx s)) ∧ w = w' := by
  go_enter Try.func146, Try.ntmps146
  go_wp2
  go_ret
  exact ⟨rfl, rfl⟩

@[go_sem] theorem semAtSome (l : Nat) (ρ : Operand → Value) (o : Oper) (h : ∀ c, o.op ≠ .defer c) : Oper.semAt (some l) ρ o = execOp ρ o := Oper.semAt_some l ρ o h

@[go_sem] theorem zero_kern : Try.zeroCells58 = vls 400 (flw fun _ => 0) := by kernel_rfl

theorem kept_drewK {w0 : World} {l : List (Nat × Array Value × TypeId)} {w : World} (k : Kept w0 l w) (n : Nat) : Kept w0 l (w.drewN n) := ⟨below_drewN k.1 n, fun x hx => k.2 x hx⟩

theorem info_pair : (Try.prog.info? 194).map (·.size) = some 2 := by kernel_rfl

theorem infoz_pair : (Try.prog.info? 194).map (fun i => (i.zero, i.size, i.bytes)) = some (some (.agg #[.int .i64 0, .int .i64 0]), 2, 16) := by kernel_rfl

theorem eqPair (x y : Int) (w : World) :
    Calls Try.prog 148 #[.agg #[.int .i64 x, .int .i64 y], .agg #[.int .i64 x, .int .i64 y]] w fun e w' => e = .returned (.bool true) ∧ Below w.heap.size w w' := by
  have k0 : Hid (Kept w [(w.heap.size + 1, #[.int .i64 x, .int .i64 y], 194), (w.heap.size, #[.int .i64 x, .int .i64 y], 194)] ((w.alloc (.cells #[.int .i64 x, .int .i64 y] 194)).alloc (.cells #[.int .i64 x, .int .i64 y] 194))) := hid ((((Kept.nil w).push _ _).push _ _).sub (by simp))
  go_enter Try.func148, Try.ntmps148
  go_wp2
  go_ret
  exact ⟨rfl, k0.out.1⟩

set_option maxRecDepth 100000 in
set_option maxHeartbeats 1000000 in
theorem eqPairs (s t : Value) (n : Nat) (y : Nat → Int) (w : World) (hs : RdI w s n y) (ht : RdI w t n y) (hn : n ≤ 1048576) :
    Calls Try.prog 68 #[s, t] w fun e w' => e = .returned (.bool true) ∧ Below w.heap.size w w' := by
  obtain ⟨p, cap, rfl, hc⟩ := hs
  obtain ⟨p2, cap2, rfl, hc2⟩ := ht
  have HC := hid hc
  have HD := hid hc2
  have HN := hid hn
  clear hc hc2 hn
  go_enter Try.func68, Try.ntmps68
  go_wp2_with fail
  go_loopw [5] (fun i wr => ∃ k : Nat, k ≤ n ∧ i = .int .i64 k ∧ Hid (Kept w [] wr)) (fun i _ => n - (intOf i).toNat)
  case atStart => exact ⟨0, by omega, rfl, hid (Kept.nil w)⟩
  case round =>
    obtain ⟨k, hk, rfl, h0⟩ := hrel
    by_cases hlt : k < n
    · have hn9 := HN.out
      have hk3 : (k : Int) < (n : Int) := by omega
      obtain ⟨b, o, rfl, hcell⟩ := HC.out (by omega)
      obtain ⟨b2, o2, rfl, hcell2⟩ := HD.out (by omega)
      have HK := hid hlt
      have R1 := hid (fun wq (hb : Below w.heap.size w wq) => row2 (w := wq) (n := n) (y := y) (b := b) (o := o) (fun j hj => by have h1 := hcell j hj; rw [hb.cell (block_lt_of_cell h1)]; exact h1) HK.out)
      have R2 := hid (fun wq (hb : Below w.heap.size w wq) => row2 (w := wq) (n := n) (y := y) (b := b2) (o := o2) (fun j hj => by have h1 := hcell2 j hj; rw [hb.cell (block_lt_of_cell h1)]; exact h1) HK.out)
      clear hcell hcell2
      go_wp2_with fail
      refine region_kept (w0 := w) (l := []) 10 #[false, false, false, false, false, false, false, false, false, false] (by kernel_rfl) rfl rfl ?_
      have kd := h0.out.drew
      generalize World.drew _ = wd at kd ⊢
      refine take_val 0 _ _ (.slice (some ⟨b, o, none⟩) n cap) rfl (by rfl) (by kernel_rfl) (by kernel_rfl) (by kernel_rfl) (fun w => by rfl) rfl rfl kd ?_
      simp only [Act.put, List.setIfInBounds_toArray, List.set_cons_zero, List.set_cons_succ]
      refine take_val 1 _ _ (.int .i64 (k : Int)) rfl (by rfl) (by kernel_rfl) (by kernel_rfl) (by kernel_rfl) (fun w => by rfl) rfl rfl kd ?_
      simp only [Act.put, List.setIfInBounds_toArray, List.set_cons_zero, List.set_cons_succ]
      refine take_val 2 _ _ (.pointer (some ⟨b, o + k * 2, none⟩)) rfl (by rfl) (by kernel_rfl) (by kernel_rfl) (by kernel_rfl) (fun w => run_index_op _ _ rfl rfl (run_indexAt Try.underlying91 info_pair HK.out w)) rfl rfl kd ?_
      simp only [Act.put, List.setIfInBounds_toArray, List.set_cons_zero, List.set_cons_succ]
      refine take_cell 3 _ _ (.agg #[.int .i64 (y (k * 2)), .int .i64 (y (k * 2 + 1))]) rfl (by rfl) (by kernel_rfl) (by kernel_rfl) (by kernel_rfl) (fun wq hS => run_load_mid 194 _ b (o + k * 2) [.int .i64 (y (k * 2)), .int .i64 (y (k * 2 + 1))] rfl (R1.out _ hS.1) _ Try.underlying194 rfl info_pair) rfl rfl kd ?_
      simp only [Act.put, List.setIfInBounds_toArray, List.set_cons_zero, List.set_cons_succ]
      refine take_val 4 _ _ (.slice (some ⟨b2, o2, none⟩) n cap2) rfl (by rfl) (by kernel_rfl) (by kernel_rfl) (by kernel_rfl) (fun w => by rfl) rfl rfl kd ?_
      simp only [Act.put, List.setIfInBounds_toArray, List.set_cons_zero, List.set_cons_succ]
      refine take_val 5 _ _ (.int .i64 (k : Int)) rfl (by rfl) (by kernel_rfl) (by kernel_rfl) (by kernel_rfl) (fun w => by rfl) rfl rfl kd ?_
      simp only [Act.put, List.setIfInBounds_toArray, List.set_cons_zero, List.set_cons_succ]
      refine take_val 6 _ _ (.pointer (some ⟨b2, o2 + k * 2, none⟩)) rfl (by rfl) (by kernel_rfl) (by kernel_rfl) (by kernel_rfl) (fun w => run_index_op _ _ rfl rfl (run_indexAt Try.underlying91 info_pair HK.out w)) rfl rfl kd ?_
      simp only [Act.put, List.setIfInBounds_toArray, List.set_cons_zero, List.set_cons_succ]
      refine take_cell 7 _ _ (.agg #[.int .i64 (y (k * 2)), .int .i64 (y (k * 2 + 1))]) rfl (by rfl) (by kernel_rfl) (by kernel_rfl) (by kernel_rfl) (fun wq hS => run_load_mid 194 _ b2 (o2 + k * 2) [.int .i64 (y (k * 2)), .int .i64 (y (k * 2 + 1))] rfl (R2.out _ hS.1) _ Try.underlying194 rfl info_pair) rfl rfl kd ?_
      simp only [Act.put, List.setIfInBounds_toArray, List.set_cons_zero, List.set_cons_succ]
      refine wpAnyH_ready (rs := [8]) (by kernel_rfl) (by simp) ?_
      refine callK 8 _ _ (.bool true) kd rfl (by rfl) 148 #[.agg #[.int .i64 (y (k * 2)), .int .i64 (y (k * 2 + 1))], .agg #[.int .i64 (y (k * 2)), .int .i64 (y (k * 2 + 1))]] (fun w => by unfold execOp; go_simp) rfl rfl ?hc1 (fun w1 k1 => ?_) AllReadyH.nil
      case hc1 => exact eqPair _ _ _
      refine ⟨k1, ?_⟩
      simp only [Act.put, List.setIfInBounds_toArray, List.set_cons_zero, List.set_cons_succ]
      refine take_val 9 _ _ (.bool false) rfl (by rfl) (by kernel_rfl) (by kernel_rfl) (by kernel_rfl) (fun w => by unfold execOp; go_simp) rfl rfl k1 ?_
      simp only [Act.put, List.setIfInBounds_toArray, List.set_cons_zero, List.set_cons_succ]
      refine wpAnyH_done (by kernel_rfl) (NoPanic.normal ?_) _
      go_wp2
      go_roundw
      case rel => exact ⟨k + 1, by omega, by go_num, hid k1⟩
      case measure => simp [intOf]; omega
    · obtain rfl : k = n := by omega
      go_wp2
      go_ret
      exact ⟨rfl, h0.out.1⟩

set_option maxRecDepth 100000 in
set_option maxHeartbeats 2000000 in
theorem markPairs (w0 : World) (l : List (Nat × Array Value × TypeId)) (B n cap : Nat) (cs : Array Value) (y : Nat → Int) (q : Int) (hq : 0 ≤ q ∧ q ≤ 1048576) (w : World) (hk : Kept w0 ((B, cs, 194) :: l) w) (hB : w0.heap.size ≤ B) (hne : ∀ x ∈ l, x.1 ≠ B) (h : LvI cs (2 * n) y) (hn : n ≤ 1048576) :
    Calls Try.prog 69 #[.slice (some ⟨B, 0, none⟩) n cap, .int .i64 q] w fun e w' => e = .returned (.int .i64 (q + 2 * n)) ∧ ∃ cs', LvI cs' (2 * n) (mkI q) ∧ Kept w0 ((B, cs', 194) :: l) w' := by
  have HN := hid hn
  have HNE := hid hne
  have HBB := hid hB
  have HQ := hid hq
  have h0 : Hid (∃ cs', LvI cs' (2 * n) (mrI y q (2 * 0)) ∧ Kept w0 ((B, cs', 194) :: l) w) := hid ⟨cs, by rw [Nat.mul_zero, mrI_zero]; exact h, hk⟩
  clear hk h hn hB hne hq
  go_enter Try.func69, Try.ntmps69
  go_wp2_with fail
  go_loopw [1, 5] (fun u i wr => ∃ k : Nat, k ≤ n ∧ i = .int .i64 k ∧ u = .int .i64 (q + 2 * k) ∧ Hid (∃ cs', LvI cs' (2 * n) (mrI y q (2 * k)) ∧ Kept w0 ((B, cs', 194) :: l) wr)) (fun _ i _ => n - (intOf i).toNat)
  case atStart => exact ⟨0, by omega, rfl, by simp, h0⟩
  case round =>
    obtain ⟨k, hk, rfl, rfl, h1⟩ := hrel
    clear h0
    by_cases hlt : k < n
    · have HL := hid hlt
      have hk3 : (k : Int) < (n : Int) := by omega
      obtain ⟨cs', a1, a2⟩ := h1.out
      have i1 := fun w => run_indexAt (P := Try.prog) (t := 91) (e := 194) Try.underlying91 info_pair (b := B) (o := 0) (n := n) (cap := cap) (k := k) hlt w
      simp only [Nat.zero_add] at i1
      have hw0 : IntKind.i64.wrap (q + 2 * (k : Int) + 1) = q + 2 * (k : Int) + 1 := by rw [IntKind.wrap_i64]; have := HN.out; have := HQ.out; omega
      have hw1 : IntKind.i64.wrap (q + 2 * (k : Int) + 1 + 1) = q + 2 * (k : Int) + 1 + 1 := by rw [IntKind.wrap_i64]; have := HN.out; have := HQ.out; omega
      have A1 := hid a1
      have A2 := hid a2
      clear h1 a1 a2
      go_wp2_with (first | (refine store_li rfl 2 _ _ rfl info_int B (k * 2 + 1) (q + 2 * (k : Int) + 1) rfl rfl k1.out v1.out (by have := HL.out; omega) HBB.out HNE.out (fun w2 k2 v2 => ?_); replace k2 := hid k2; replace v2 := hid v2) | (refine store_li rfl 2 _ _ rfl info_int B (k * 2) (q + 2 * (k : Int)) rfl rfl A2.out A1.out (by have := HL.out; omega) HBB.out HNE.out (fun w1 k1 v1 => ?_); replace k1 := hid k1; replace v1 := hid v1))
      have b3 : Hid (∃ cs', LvI cs' (2 * n) (mrI y q (2 * (k + 1))) ∧ Kept w0 ((B, cs', 194) :: l) w2) := by
        refine hid ⟨_, v2.out.ext fun j _ => ?_, k2.out⟩
        have s1 := mrI_step y q (2 * k)
        have s2 := mrI_step y q (2 * k + 1)
        rw [show 2 * (k + 1) = 2 * k + 1 + 1 by omega, ← s2, ← s1]
        rw [show q + ((2 * k : Nat) : Int) = q + 2 * (k : Int) by omega, show q + ((2 * k + 1 : Nat) : Int) = q + 2 * (k : Int) + 1 by omega, show k * 2 = 2 * k by omega]
      clear A1 A2 k1 v1 k2 v2
      have hn9 := HN.out
      have hw9 : wrap64 ((k : Int) + 1) = (k : Int) + 1 := by unfold wrap64; omega
      go_roundw
      case rel => exact ⟨k + 1, by omega, by go_num, by congr 1; omega, b3⟩
      case measure => rw [hw9]; show n - (((k : Int) + 1)).toNat < n - ((k : Int)).toNat; clear hw0 hw1 hw9; omega
    · obtain rfl : k = n := by omega
      have hk3 : ¬ (k : Int) < (k : Int) := by omega
      go_wp2
      go_ret
      obtain ⟨cs', a1, a2⟩ := h1.out
      exact ⟨rfl, cs', a1.ext (fun j hj => if_pos hj), a2⟩

set_option maxRecDepth 100000 in
set_option maxHeartbeats 2000000 in
theorem heldPairs (s : Value) (n : Nat) (q : Int) (hq : 0 ≤ q ∧ q ≤ 1048576) (w : World) (hs : RdI w s n (mkI q)) (hn : n ≤ 1048576) :
    Calls Try.prog 70 #[s, .int .i64 q] w fun e w' => e = .returned (.int .i64 (q + 2 * n)) ∧ w = w' := by
  obtain ⟨p, cap, rfl, hc⟩ := hs
  have HC := hid hc
  have HN := hid hn
  have HQ := hid hq
  clear hc hn hq
  go_enter Try.func70, Try.ntmps70
  go_wp2_with fail
  go_loopw [1, 5] (fun u i wr => ∃ k : Nat, k ≤ n ∧ i = .int .i64 k ∧ u = .int .i64 (q + 2 * k) ∧ w = wr) (fun _ i _ => n - (intOf i).toNat)
  case atStart => exact ⟨0, by omega, rfl, by simp, rfl⟩
  case round =>
    obtain ⟨k, hk, rfl, rfl, rfl⟩ := hrel
    by_cases hlt : k < n
    · have HL := hid hlt
      have hk3 : (k : Int) < (n : Int) := by omega
      obtain ⟨b, o, rfl, hcell⟩ := HC.out (by omega)
      have c0 : w.cell? ⟨b, o + k * 2, none⟩ = some (.int .i64 (q + 2 * (k : Int))) := by rw [hcell (k * 2) (by omega)]; unfold mkI; rw [show q + ((k * 2 : Nat) : Int) = q + 2 * (k : Int) by omega]
      have c1 : w.cell? ⟨b, o + k * 2 + 1, none⟩ = some (.int .i64 (q + 2 * (k : Int) + 1)) := by rw [Nat.add_assoc, hcell (k * 2 + 1) (by omega)]; unfold mkI; rw [show q + ((k * 2 + 1 : Nat) : Int) = q + 2 * (k : Int) + 1 by omega]
      have i1 := fun w => run_indexAt (P := Try.prog) (t := 91) (e := 194) Try.underlying91 info_pair (b := b) (o := o) (n := n) (cap := cap) (k := k) hlt w
      have hw0 : IntKind.i64.wrap (q + 2 * (k : Int) + 1) = q + 2 * (k : Int) + 1 := by rw [IntKind.wrap_i64]; have := HN.out; have := HQ.out; omega
      have hw1 : IntKind.i64.wrap (q + 2 * (k : Int) + 1 + 1) = q + 2 * (k : Int) + 1 + 1 := by rw [IntKind.wrap_i64]; have := HN.out; have := HQ.out; omega
      clear hcell
      go_wp2
      have hn9 := HN.out
      have hw9 : wrap64 ((k : Int) + 1) = (k : Int) + 1 := by unfold wrap64; omega
      go_roundw
      case rel => exact ⟨k + 1, by omega, by go_num, by congr 1; omega, trivial⟩
      case measure => rw [hw9]; show n - (((k : Int) + 1)).toNat < n - ((k : Int)).toNat; clear hw0 hw1 hw9; omega
    · obtain rfl : k = n := by omega
      have hk3 : ¬ (k : Int) < (k : Int) := by omega
      go_wp2
      go_ret
      exact ⟨rfl, rfl⟩

theorem held0P (p : Option Addr) (c : Nat) (w : World) : Calls Try.prog 70 #[.slice p 0 c, .int .i64 1] w fun e w' => e = .returned (.int .i64 1) ∧ w = w' := by
  have := heldPairs (.slice p 0 c) 0 1 ⟨by omega, by omega⟩ w (RdI.zero w p c _) (by omega)
  simpa using this

theorem mark0P (p : Option Addr) (c : Nat) (w : World) : Calls Try.prog 69 #[.slice p 0 c, .int .i64 1] w fun e w' => e = .returned (.int .i64 1) ∧ w = w' := by
  go_enter Try.func69, Try.ntmps69
  go_wp2_with fail
  go_loopw [1, 5] (fun u i wr => i = .int .i64 0 ∧ u = .int .i64 1 ∧ w = wr) (fun _ _ _ => 0)
  case atStart => exact ⟨rfl, rfl, rfl⟩
  case round =>
    obtain ⟨rfl, rfl, rfl⟩ := hrel
    go_wp2
    go_ret
    exact ⟨rfl, rfl⟩

/-- A slice of n pairs that a call made. -/
def MadeI (n : Nat) (y : Nat → Int) (w : World) (v : Value) (w' : World) : Prop := ∃ B cs cap, v = .slice (some ⟨B, 0, none⟩) n cap ∧ w.heap.size ≤ B ∧ LvI cs (2 * n) y ∧ Kept w [(B, cs, 194)] w'

/-- The seed after k draws; the classes that are drawn. -/
def sd (s : Int) : Nat → Int
  | 0 => s
  | k + 1 => nx (sd s k)

def prI (b : Nat → Int) (s : Int) : Nat → Int := fun i => nd b (kl (sd s (i + 1)))

theorem kl_eq {s : Int} (_h : 0 ≤ s) : s / 65536 % 20 = (kl s : Int) := by unfold kl; omega

theorem sd_kl (s : Int) (k : Nat) : nx (sd s k) / 65536 % 20 = (kl (sd s (k + 1)) : Int) := kl_eq (nx_bnd _).1

theorem eq_zc (b : Nat → Int) (w : World) : (binOp .eql 94 (.agg (vls 20 (ilw b))) (.agg (vls 20 (ilw fun _ => 0)))).run Try.prog w = .ok (.bool (allZ b)) w := by
  obtain ⟨i, hi, _⟩ := Option.map_eq_some_iff.1 info_int
  exact run_eq_i64z Try.underlying94 Try.underlying2 hi (by kernel_rfl) b w

set_option maxRecDepth 100000 in
set_option maxHeartbeats 4000000 in
theorem sDraw_t (b : Nat → Int) (hb : Bx b) (hz : allZ b = false) (s : Int) (hs : 0 ≤ s ∧ s < 4294967296) (n : Nat) (h0 : 0 < n) (hn : n ≤ 1000) (w : World) :
    Calls Try.prog 65 #[.agg (vls 21 (ilw b)), .int .u32 s, .int .i64 n] w fun e w' => ∃ v, e = .returned (.tuple #[v, .int .u32 (sd s (2 * n)), .int .i64 0]) ∧ MadeI n (prI b s) w v w' := by
  obtain ⟨j, hj, hbj⟩ := allZ_f hz
  have HBJ := hid hbj
  have HB := hid hb
  have HZ := hid hz
  have HS := hid hs
  have H0 := hid h0
  have HN := hid hn
  have HI := hid (fun u => l00In_t (n : Int) 0 1000 (by omega) (by omega) u)
  have A0 := hid (vAt.new w 21 (ilw b) 96)
  have b0 := hid (boxed w (.cells (vls 21 (ilw b)) 96))
  have he := fun w => eq_zc b w
  rw [hz] at he
  have hn1 : 0 < (n : Int) := by omega
  clear hb hz hs h0 hn hbj
  go_enter Try.func65, Try.ntmps65
  go_wp2_with fail
  refine (sBoxOk_t b HB.out _ w.heap.size 96 A0.out).mono ?_
  rintro e w1 ⟨rfl, hw1⟩
  rw [hw1] at A0 b0
  go_wp2_with fail
  refine (HI.out _).mono ?_
  rintro e w2 ⟨rfl, rfl⟩
  have q0 := hid A0
  go_wp2_with (refine wpList_load_head rfl 94 _ rfl w.heap.size rfl 21 (ilw b) 96 A0.out 20 (by omega) _ Try.underlying94 rfl info_cnt ?_)
  have k0 : Hid ((w1.alloc (.cells #[] 194)).ownsRow w1.heap.size 194 2 (.slice (some ⟨w1.heap.size, 0, none⟩) 0 0) 0 (wdi (prI b s) (0 * 2))) := hid (World.ownsRow_made w1 #[] 0 (Nat.le_refl _) (by decide) rfl)
  have b1 : Hid (Below w1.heap.size w1 (w1.alloc (.cells #[] 194))) := hid (boxed _ _)
  clear HI he q0
  go_loopw [10, 9, 1] (fun i v u wr => ∃ k : Nat, k ≤ n ∧ i = .int .i64 k ∧ u = .int .u32 (sd s (2 * k)) ∧ Hid (wr.ownsRow w1.heap.size 194 2 v k (wdi (prI b s) (k * 2))) ∧ Hid (Below w1.heap.size w1 wr)) (fun i _ _ _ => n - (intOf i).toNat)
  case atStart => exact ⟨0, by omega, rfl, rfl, k0, b1⟩
  case round =>
    obtain ⟨k, hk, rfl, rfl, hO, hB⟩ := hrel
    clear k0 b1
    by_cases hlt : k < n
    · have HK := hid hlt
      have hk3 : (k : Int) < (n : Int) := by omega
      have hn9 := HN.out
      have Ar := hid (A0.out.stay hB.out)
      have f1 : (1664525 * sd s (2 * k) % 4294967296 + 1013904223) % 4294967296 = sd s (2 * k + 1) := rfl
      have f2 : (1664525 * sd s (2 * k) + 1013904223) % 4294967296 / 65536 % 20 = (kl (sd s (2 * k + 1)) : Int) := by rw [nx_alt]; exact sd_kl _ _
      have f3 : (1664525 * sd s (2 * k + 1) % 4294967296 + 1013904223) % 4294967296 = sd s (2 * k + 2) := rfl
      have f4 : (1664525 * sd s (2 * k + 1) + 1013904223) % 4294967296 / 65536 % 20 = (kl (sd s (2 * k + 2)) : Int) := by rw [nx_alt]; exact sd_kl _ _
      have F1 := hid f1
      have F2 := hid f2
      have F3 := hid f3
      have F4 := hid f4
      clear f1 f2 f3 f4
      go_wp2_with fail
      simp only [F1.out, F2.out]
      refine (sNext b j hj HBJ.out _ (kl_lt _) w.heap.size 96 wr Ar.out).mono ?_
      rintro e w2 ⟨rfl, rfl⟩
      go_wp2_with fail
      simp only [F3.out, F4.out]
      refine (sNext b j hj HBJ.out _ (kl_lt _) w.heap.size 96 wr Ar.out).mono ?_
      rintro e w2 ⟨rfl, rfl⟩
      have p0 : prI b s (k * 2) = (nd b (kl (sd s (2 * k + 1))) : Int) := by unfold prI; rw [show k * 2 + 1 = 2 * k + 1 by omega]
      have p1 : prI b s (k * 2 + 1) = (nd b (kl (sd s (2 * k + 2))) : Int) := by unfold prI; rw [show k * 2 + 1 + 1 = 2 * k + 2 by omega]
      have P0 := hid p0
      have P1 := hid p1
      clear p0 p1
      go_wp2_with (refine append_two (w0 := w1) rfl _ _ 91 rfl 194 Try.underlying91 infoz_pair u9 k (prI b s) rfl (hO.out.alloc _) (hB.out.alloc hB.out.size _) (wr.heap.size) (nd b (kl (sd s (2 * k + 1))) : Int) (nd b (kl (sd s (2 * k + 2))) : Int) P0.out P1.out rfl (heap_alloc_new _ _) (by omega) (fun v9 w9 O9 B9 => ?_); replace O9 := hid O9; replace B9 := hid B9)
      go_roundw
      case rel => exact ⟨k + 1, by omega, by go_num, rfl, O9, B9⟩
      case measure => simp [intOf]; omega
    · obtain rfl : k = n := by omega
      obtain ⟨B, cs, cap, rfl, hB1, L1, K1⟩ := own_keptI H0.out hO.out hB.out
      have E := hid (show MadeI k (prI b s) w (.slice (some ⟨B, 0, none⟩) k cap) wr from ⟨B, cs, cap, rfl, Nat.le_trans b0.out.size hB1, L1, by
        have := (Kept.nil w).stay b0.out
        have h2 : Kept w ([(B, cs, 194)] ++ []) wr := this.join K1
        exact h2⟩)
      clear hB1 L1 K1
      go_wp2
      go_ret3
      exact ⟨_, rfl, E.out⟩

set_option maxRecDepth 100000 in
set_option maxHeartbeats 4000000 in
theorem sDraw_f (b : Nat → Int) (hb : ¬ Bx b) (s q : Int) (w : World) :
    Calls Try.prog 65 #[.agg (vls 21 (ilw b)), .int .u32 s, .int .i64 q] w fun e w' => ∃ p c, e = .returned (.tuple #[.slice p 0 c, .int .u32 0, .int .i64 1]) ∧ Below w.heap.size w w' := by
  have HB := hid hb
  clear hb
  have A0 := hid (vAt.new w 21 (ilw b) 96)
  have b0 := hid (boxed w (.cells (vls 21 (ilw b)) 96))
  go_enter Try.func65, Try.ntmps65
  go_wp2_with fail
  refine (sBoxOk_f b HB.out _ w.heap.size 96 A0.out).mono ?_
  rintro e w1 ⟨rfl, hw1⟩
  rw [hw1] at A0 b0
  go_wp2
  go_ret3
  exact ⟨_, _, rfl, b0.out.alloc b0.out.size _⟩

set_option maxRecDepth 100000 in
set_option maxHeartbeats 4000000 in
theorem sDraw_r (b : Nat → Int) (hb : Bx b) (s q : Int) (hq : ¬ (0 ≤ q ∧ q ≤ 1000)) (w : World) :
    Calls Try.prog 65 #[.agg (vls 21 (ilw b)), .int .u32 s, .int .i64 q] w fun e w' => ∃ p c, e = .returned (.tuple #[.slice p 0 c, .int .u32 0, .int .i64 2]) ∧ Below w.heap.size w w' := by
  have HB := hid hb
  have HI := hid (fun u => l00In_f q 0 1000 hq u)
  clear hb hq
  have A0 := hid (vAt.new w 21 (ilw b) 96)
  have b0 := hid (boxed w (.cells (vls 21 (ilw b)) 96))
  go_enter Try.func65, Try.ntmps65
  go_wp2_with fail
  refine (sBoxOk_t b HB.out _ w.heap.size 96 A0.out).mono ?_
  rintro e w1 ⟨rfl, hw1⟩
  rw [hw1] at A0 b0
  go_wp2_with fail
  refine (HI.out _).mono ?_
  rintro e w2 ⟨rfl, rfl⟩
  go_wp2
  go_ret3
  exact ⟨_, _, rfl, b0.out.alloc b0.out.size _⟩

set_option maxRecDepth 100000 in
set_option maxHeartbeats 4000000 in
theorem sDraw_z (b : Nat → Int) (hb : Bx b) (hz : allZ b = true) (s : Int) (n : Nat) (h0 : 0 < n) (hn : n ≤ 1000) (w : World) :
    Calls Try.prog 65 #[.agg (vls 21 (ilw b)), .int .u32 s, .int .i64 n] w fun e w' => ∃ p c, e = .returned (.tuple #[.slice p 0 c, .int .u32 0, .int .i64 6]) ∧ Below w.heap.size w w' := by
  have HB := hid hb
  have HI := hid (fun u => l00In_t (n : Int) 0 1000 (by omega) (by omega) u)
  have he := fun w => eq_zc b w
  rw [hz] at he
  have hn1 : 0 < (n : Int) := by omega
  clear hb hz h0 hn
  have A0 := hid (vAt.new w 21 (ilw b) 96)
  have b0 := hid (boxed w (.cells (vls 21 (ilw b)) 96))
  go_enter Try.func65, Try.ntmps65
  go_wp2_with fail
  refine (sBoxOk_t b HB.out _ w.heap.size 96 A0.out).mono ?_
  rintro e w1 ⟨rfl, hw1⟩
  rw [hw1] at A0 b0
  go_wp2_with fail
  refine (HI.out _).mono ?_
  rintro e w2 ⟨rfl, rfl⟩
  go_wp2_with (refine wpList_load_head rfl 94 _ rfl w.heap.size rfl 21 (ilw b) 96 A0.out 20 (by omega) _ Try.underlying94 rfl info_cnt ?_)
  go_ret3
  exact ⟨_, _, rfl, b0.out.alloc b0.out.size _⟩

set_option maxRecDepth 100000 in
set_option maxHeartbeats 4000000 in
theorem sDraw_0 (b : Nat → Int) (hb : Bx b) (s : Int) (w : World) :
    Calls Try.prog 65 #[.agg (vls 21 (ilw b)), .int .u32 s, .int .i64 0] w fun e w' => ∃ p c, e = .returned (.tuple #[.slice p 0 c, .int .u32 s, .int .i64 0]) ∧ Below w.heap.size w w' := by
  have HB := hid hb
  have HI := hid (fun u => l00In_t (0 : Int) 0 1000 (by omega) (by omega) u)
  have he := fun w => eq_zc b w
  clear hb
  rcases hz : allZ b with _ | _
  all_goals
    rw [hz] at he
    clear hz
    have A0 := hid (vAt.new w 21 (ilw b) 96)
    have b0 := hid (boxed w (.cells (vls 21 (ilw b)) 96))
    go_enter Try.func65, Try.ntmps65
    go_wp2_with fail
    refine (sBoxOk_t b HB.out _ w.heap.size 96 A0.out).mono ?_
    rintro e w1 ⟨rfl, hw1⟩
    rw [hw1] at A0 b0
    go_wp2_with fail
    refine (HI.out _).mono ?_
    rintro e w2 ⟨rfl, rfl⟩
    go_wp2_with (refine wpList_load_head rfl 94 _ rfl w.heap.size rfl 21 (ilw b) 96 A0.out 20 (by omega) _ Try.underlying94 rfl info_cnt ?_)
    have b1 := hid (b0.out.alloc b0.out.size (.cells #[] 194))
    generalize w1.alloc (.cells #[] 194) = w2 at b1 ⊢
    go_loopw [10, 9, 1] (fun i v u wr => i = .int .i64 0 ∧ v = .slice (some ⟨w1.heap.size, 0, none⟩) 0 0 ∧ u = .int .u32 s ∧ w2 = wr) (fun _ _ _ _ => 0)
    case atStart => exact ⟨rfl, rfl, rfl, rfl⟩
    case round =>
      obtain ⟨rfl, rfl, rfl, rfl⟩ := hrel
      go_wp2
      go_ret3
      exact ⟨_, _, rfl, b1.out⟩

set_option maxRecDepth 100000 in
set_option maxHeartbeats 4000000 in
theorem iDrawC (b : Nat → Int) (j : Nat) (hj : j < 20) (hb : b j ≠ 0) (s : Int) (w0 w : World) (l : List (Nat × Array Value × TypeId)) (S g : Nat) (hk : Kept w0 ((S, #[.int .u32 s], 90) :: l) w) (hB : w0.heap.size ≤ S) (hne : ∀ x ∈ l, x.1 ≠ S) (hg : (g, vls 21 (ilw b), 96) ∈ l) :
    Calls Try.prog 145 #[.pointer (some ⟨S, 0, none⟩), .pointer (some ⟨g, 0, none⟩)] w fun e w' => e = .returned (.int .i64 (nd b (kl (nx s)))) ∧ Kept w0 ((S, #[.int .u32 (nx s)], 90) :: l) w' := by
  have HBJ := hid hb
  have hr := hk.at (x := (S, #[.int .u32 s], 90)) (by simp)
  have c0 : w.cell? ⟨S, 0, none⟩ = some (.int .u32 s) := (cell_of_row w S 0 _ _ _ hr).trans rfl
  have fz := frozen_of_row w S 0 _ _ hr
  have K1 : Hid (Kept w0 ((S, #[.int .u32 (nx s)], 90) :: l) (w.setCell ⟨S, 0, none⟩ (.int .u32 (nx s)))) := hid (hk.lcell hB hne 0 (.int .u32 (nx s)))
  have A1 : Hid (vAt (w.setCell ⟨S, 0, none⟩ (.int .u32 (nx s))) g 21 (ilw b) 96) := hid (K1.out.at (x := (g, vls 21 (ilw b), 96)) (by simp [hg]))
  have c1 : (w.setCell ⟨S, 0, none⟩ (.int .u32 (nx s))).cell? ⟨S, 0, none⟩ = some (.int .u32 (nx s)) := (cell_of_row _ S 0 _ _ _ (K1.out.at (x := (S, #[.int .u32 (nx s)], 90)) (by simp))).trans rfl
  have NB := hid (nx_bnd s)
  clear hb hk hne hg hr
  go_enter Try.func145, Try.ntmps145
  go_wp2_with fail
  refine (iNextSeed _ _).mono ?_
  rintro e w2 ⟨rfl, rfl⟩
  go_wp2_with (refine wpList_load_head rfl 94 _ rfl g rfl 21 (ilw b) 96 A1.out 20 (by omega) _ Try.underlying94 rfl info_cnt ?_)
  have f1 : (nx s).tdiv 65536 % 4294967296 % 20 = (kl (nx s) : Int) := by
    have h := NB.out
    rw [Int.tdiv_eq_ediv_of_nonneg h.1]
    unfold kl
    generalize nx s = u at h ⊢
    rw [Int.emod_eq_of_lt (show 0 ≤ u / 65536 by omega) (by omega)]
    omega
  simp only [f1]
  clear f1
  refine (iWith b j hj HBJ.out _ (kl_lt _) _).mono ?_
  rintro e w2 ⟨rfl, hb2⟩
  have K2 := hid (K1.out.stay hb2)
  go_wp2
  go_ret
  exact ⟨rfl, K2.out⟩

/-- What has been drawn so far. -/
def fiI (b : Nat → Int) (s : Int) (m : Nat) : Nat → Int := fun j => if j < m then prI b s j else 0

theorem fiI_step (b : Nat → Int) (s : Int) (m : Nat) : upI (fiI b s m) m (prI b s m) = fiI b s (m + 1) := by
  funext j
  unfold fiI upI
  by_cases h : j = m
  · subst h; rw [if_pos rfl, if_pos (by omega)]
  · rw [if_neg h]
    by_cases h1 : j < m
    · show (if j < m then prI b s j else 0) = _
      rw [if_pos h1, if_pos (by omega)]
    · show (if j < m then prI b s j else 0) = _
      rw [if_neg h1, if_neg (by omega)]

theorem fiI_zero (b : Nat → Int) (s : Int) : fiI b s 0 = fun _ => 0 := by funext j; simp [fiI]

set_option maxRecDepth 100000 in
set_option maxHeartbeats 4000000 in
theorem iDraw_t (b : Nat → Int) (hb : Bx b) (hz : allZ b = false) (s : Int) (n : Nat) (h0 : 0 < n) (hn : n ≤ 1000) (w : World) :
    Calls Try.prog 67 #[.agg (vls 21 (ilw b)), .int .u32 s, .int .i64 n] w fun e w' => ∃ v, e = .returned (.tuple #[v, .int .u32 (sd s (2 * n)), .int .i64 0]) ∧ MadeI n (prI b s) w v w' := by
  obtain ⟨j, hj, hbj⟩ := allZ_f hz
  have HBJ := hid hbj
  have HB := hid hb
  have H0 := hid h0
  have HN := hid hn
  have A0 := hid (vAt.new w 21 (ilw b) 96)
  have k0 : Hid (Kept w [(w.heap.size, vls 21 (ilw b), 96)] (w.alloc (.cells (vls 21 (ilw b)) 96))) := hid ((Kept.nil w).push _ _)
  have he := fun w => eq_zc b w
  rw [hz] at he
  have hn1 : 0 < (n : Int) := by omega
  have hn2 : ¬ (n : Int) < 0 := by omega
  have hn3 : ¬ 1000 < (n : Int) := by omega
  have hmk := fun w => run_makeP (P := Try.prog) (t := 91) (e := 194) Try.underlying91 infoz_pair (n := n) (by omega) w
  clear hb hz h0 hn hbj
  go_enter Try.func67, Try.ntmps67
  go_wp2_with (refine wpList_load_row rfl 96 _ rfl (w.heap.size) rfl 96 (vls 21 (ilw b)) (0, 0) _ A0.out Try.underlying96 rfl (by rw [vls_size]; exact info_box) ?_)
  refine (iValidBox_t b HB.out _).mono ?_
  rintro e w1 ⟨rfl, hb1⟩
  have A1 := hid (A0.out.stay hb1)
  have k1 := hid (k0.out.stay hb1)
  clear A0 k0 hb1
  go_wp2_with (refine wpList_load_head_g rfl 94 _ rfl w.heap.size rfl 21 (ilw b) 96 A1.out 20 (by omega) _ Try.underlying94 rfl info_cnt ?_)
  have k2 := hid (((k1.out.push #[.int .u32 s] 90).push (vls (2 * n) (ilw fun _ => 0)) 194))
  have hg1 := hid (k1.out.lt (x := (w.heap.size, vls 21 (ilw b), 96)) (by simp))
  have hs1 := hid k1.out.size
  have eS : (w1.alloc (.cells #[.int .u32 s] 90)).heap.size = w1.heap.size + 1 := by simp
  rw [eS] at k2
  clear eS k1 A1 he hn2 hn3 hmk
  generalize ((w1.alloc (.cells #[.int .u32 s] 90)).alloc (.cells (vls (2 * n) (ilw fun _ => 0)) 194)) = w2 at k2 ⊢
  generalize hS : w1.heap.size = S at k2 hg1 hs1 ⊢
  have h0 : Hid (∃ cs, LvI cs (2 * n) (fiI b s (2 * 0)) ∧ Kept w [(S, #[.int .u32 (sd s (2 * 0))], 90), (S + 1, cs, 194), (w.heap.size, vls 21 (ilw b), 96)] w2) := hid ⟨_, by rw [Nat.mul_zero, fiI_zero]; exact LvI.zero _, k2.out.swap⟩
  clear k2 hS
  go_loopw [36] (fun i wr => ∃ k : Nat, k ≤ n ∧ i = .int .i64 k ∧ Hid (∃ cs, LvI cs (2 * n) (fiI b s (2 * k)) ∧ Kept w [(S, #[.int .u32 (sd s (2 * k))], 90), (S + 1, cs, 194), (w.heap.size, vls 21 (ilw b), 96)] wr)) (fun i _ => n - (intOf i).toNat)
  case atStart => exact ⟨0, by omega, rfl, h0⟩
  case round =>
    obtain ⟨k, hk, rfl, h1⟩ := hrel
    clear h0
    by_cases hlt : k < n
    · have HL := hid hlt
      have hk3 : (k : Int) < (n : Int) := by omega
      have hn9 := HN.out
      obtain ⟨cs, a1, a2⟩ := h1.out
      have A1 := hid a1
      have i1 := fun w => run_indexAt (P := Try.prog) (t := 91) (e := 194) Try.underlying91 info_pair (b := S + 1) (o := 0) (n := n) (cap := n) (k := k) hlt w
      simp only [Nat.zero_add] at i1
      have HG := hid (show w.heap.size < S from hg1.out)
      have HD := hid (iDrawC b j hj HBJ.out (sd s (2 * k)) w wr _ S w.heap.size a2 hs1.out (by have hG := HG.out; intro z hz; simp at hz; rcases hz with rfl | rfl <;> simp <;> omega) (by simp))
      clear h1 a1 a2
      go_wp2_with fail
      refine HD.out.mono ?_
      rintro e w3 ⟨rfl, k3⟩
      have K3 := hid k3.swap
      clear k3
      have hne : ∀ z ∈ [(S, #[Value.int .u32 (nx (sd s (2 * k)))], 90), (w.heap.size, vls 21 (ilw b), 96)], z.1 ≠ S + 1 := by
        have hG := HG.out
        intro z hz; simp at hz; rcases hz with rfl | rfl <;> simp <;> omega
      have HNE := hid hne
      have hsb : w.heap.size ≤ S + 1 := Nat.le_succ_of_le hs1.out
      have HSB := hid hsb
      clear hne hsb
      go_wp2_with (refine store_li rfl 2 _ _ rfl info_int (S + 1) (k * 2) (nd b (kl (nx (sd s (2 * k)))) : Int) rfl rfl K3.out A1.out (by have := HL.out; omega) HSB.out HNE.out (fun w4 k4 v4 => ?_); replace k4 := hid k4; replace v4 := hid v4)
      have HD2 := hid (iDrawC b j hj HBJ.out (nx (sd s (2 * k))) w w4 _ S w.heap.size k4.out.swap hs1.out (by have hG := HG.out; intro z hz; simp at hz; rcases hz with rfl | rfl <;> simp <;> omega) (by simp))
      refine HD2.out.mono ?_
      rintro e w5 ⟨rfl, k5⟩
      have K5 := hid k5.swap
      have hne : ∀ z ∈ [(S, #[Value.int .u32 (nx (nx (sd s (2 * k))))], 90), (w.heap.size, vls 21 (ilw b), 96)], z.1 ≠ S + 1 := by
        have hG := HG.out
        intro z hz; simp at hz; rcases hz with rfl | rfl <;> simp <;> omega
      have HNE2 := hid hne
      clear k5 k4 K3 HD HD2 HNE hne
      go_wp2_with (refine store_li rfl 2 _ _ rfl info_int (S + 1) (k * 2 + 1) (nd b (kl (nx (nx (sd s (2 * k))))) : Int) rfl rfl K5.out v4.out (by have := HL.out; omega) HSB.out HNE2.out (fun w6 k6 v6 => ?_); replace k6 := hid k6; replace v6 := hid v6)
      have b3 : Hid (∃ cs, LvI cs (2 * n) (fiI b s (2 * (k + 1))) ∧ Kept w [(S, #[.int .u32 (sd s (2 * (k + 1)))], 90), (S + 1, cs, 194), (w.heap.size, vls 21 (ilw b), 96)] w6) := by
        refine hid ⟨_, v6.out.ext fun j _ => ?_, k6.out.swap⟩
        have s1 := fiI_step b s (2 * k)
        have s2 := fiI_step b s (2 * k + 1)
        rw [show 2 * (k + 1) = 2 * k + 1 + 1 by omega, ← s2, ← s1, show k * 2 = 2 * k by omega]
        rfl
      clear K5 k6 v4 v6 A1
      go_roundw
      case rel => exact ⟨k + 1, by omega, by go_num, b3⟩
      case measure => simp [intOf]; omega
    · obtain rfl : k = n := by omega
      have hk3 : ¬ (k : Int) < (k : Int) := by omega
      obtain ⟨cs, a1, a2⟩ := h1.out
      have c1 : wr.cell? ⟨S, 0, none⟩ = some (.int .u32 (sd s (2 * k))) := (cell_of_row wr S 0 _ _ _ (a2.at (x := (S, #[.int .u32 (sd s (2 * k))], 90)) (by simp))).trans rfl
      have L1 := hid (a1.ext (z := prI b s) fun j hj => by show (if j < 2 * k then prI b s j else 0) = _; rw [if_pos hj])
      have K1 := hid a2
      have HSB := hid (Nat.le_succ_of_le hs1.out)
      clear h1 a1 a2
      go_wp2_with fail
      go_quiet (fail)
      go_wp2
      go_ret3
      exact ⟨_, rfl, S + 1, cs, k, rfl, HSB.out, L1.out, (kept_drewK K1.out nq).sub (by simp)⟩

set_option maxRecDepth 100000 in
set_option maxHeartbeats 4000000 in
theorem iDraw_f (b : Nat → Int) (hb : ¬ Bx b) (s q : Int) (w : World) :
    Calls Try.prog 67 #[.agg (vls 21 (ilw b)), .int .u32 s, .int .i64 q] w fun e w' => ∃ p c, e = .returned (.tuple #[.slice p 0 c, .int .u32 0, .int .i64 1]) ∧ Below w.heap.size w w' := by
  have HB := hid hb
  clear hb
  have A0 := hid (vAt.new w 21 (ilw b) 96)
  have b0 := hid (boxed w (.cells (vls 21 (ilw b)) 96))
  go_enter Try.func67, Try.ntmps67
  go_wp2_with (refine wpList_load_row rfl 96 _ rfl (w.heap.size) rfl 96 (vls 21 (ilw b)) (0, 0) _ A0.out Try.underlying96 rfl (by rw [vls_size]; exact info_box) ?_)
  refine (iValidBox_f b HB.out _).mono ?_
  rintro e w1 ⟨rfl, hb1⟩
  have A1 := hid (A0.out.stay hb1)
  have B1 := hid (stp b0.out (Nat.le_refl _) hb1)
  clear A0 b0 hb1
  go_wp2
  go_ret3
  first | exact ⟨_, _, rfl, B1.out⟩ | exact ⟨none, 0, rfl, B1.out⟩

set_option maxRecDepth 100000 in
set_option maxHeartbeats 4000000 in
theorem iDraw_r (b : Nat → Int) (hb : Bx b) (s q : Int) (hq : ¬ (0 ≤ q ∧ q ≤ 1000)) (w : World) :
    Calls Try.prog 67 #[.agg (vls 21 (ilw b)), .int .u32 s, .int .i64 q] w fun e w' => ∃ p c, e = .returned (.tuple #[.slice p 0 c, .int .u32 0, .int .i64 2]) ∧ Below w.heap.size w w' := by
  have HB := hid hb
  have h : q < 0 ∨ ¬ (q < 0) ∧ 1000 < q := by omega
  clear hb hq
  have A0 := hid (vAt.new w 21 (ilw b) 96)
  have b0 := hid (boxed w (.cells (vls 21 (ilw b)) 96))
  rcases h with h | ⟨h, h2⟩
  all_goals
    go_enter Try.func67, Try.ntmps67
    go_wp2_with (refine wpList_load_row rfl 96 _ rfl (w.heap.size) rfl 96 (vls 21 (ilw b)) (0, 0) _ A0.out Try.underlying96 rfl (by rw [vls_size]; exact info_box) ?_)
    refine (iValidBox_t b HB.out _).mono ?_
    rintro e w1 ⟨rfl, hb1⟩
    have A1 := hid (A0.out.stay hb1)
    have B1 := hid (stp b0.out (Nat.le_refl _) hb1)
    clear A0 b0 hb1
    go_wp2
    go_ret3
    first | exact ⟨_, _, rfl, B1.out⟩ | exact ⟨none, 0, rfl, B1.out⟩

set_option maxRecDepth 100000 in
set_option maxHeartbeats 4000000 in
theorem iDraw_z (b : Nat → Int) (hb : Bx b) (hz : allZ b = true) (s : Int) (n : Nat) (h0 : 0 < n) (hn : n ≤ 1000) (w : World) :
    Calls Try.prog 67 #[.agg (vls 21 (ilw b)), .int .u32 s, .int .i64 n] w fun e w' => ∃ p c, e = .returned (.tuple #[.slice p 0 c, .int .u32 0, .int .i64 6]) ∧ Below w.heap.size w w' := by
  have HB := hid hb
  have he := fun w => eq_zc b w
  rw [hz] at he
  have hn1 : 0 < (n : Int) := by omega
  have hn2 : ¬ (n : Int) < 0 := by omega
  have hn3 : ¬ 1000 < (n : Int) := by omega
  clear hb hz h0 hn
  have A0 := hid (vAt.new w 21 (ilw b) 96)
  have b0 := hid (boxed w (.cells (vls 21 (ilw b)) 96))
  go_enter Try.func67, Try.ntmps67
  go_wp2_with (refine wpList_load_row rfl 96 _ rfl (w.heap.size) rfl 96 (vls 21 (ilw b)) (0, 0) _ A0.out Try.underlying96 rfl (by rw [vls_size]; exact info_box) ?_)
  refine (iValidBox_t b HB.out _).mono ?_
  rintro e w1 ⟨rfl, hb1⟩
  have A1 := hid (A0.out.stay hb1)
  have B1 := hid (stp b0.out (Nat.le_refl _) hb1)
  clear A0 b0 hb1
  go_wp2_with (refine wpList_load_head_g rfl 94 _ rfl w.heap.size rfl 21 (ilw b) 96 A1.out 20 (by omega) _ Try.underlying94 rfl info_cnt ?_)
  go_ret3
  first | exact ⟨_, _, rfl, B1.out⟩ | exact ⟨none, 0, rfl, B1.out⟩

set_option maxRecDepth 100000 in
set_option maxHeartbeats 4000000 in
theorem iDraw_0 (b : Nat → Int) (hb : Bx b) (s : Int) (w : World) :
    Calls Try.prog 67 #[.agg (vls 21 (ilw b)), .int .u32 s, .int .i64 0] w fun e w' => ∃ p c, e = .returned (.tuple #[.slice p 0 c, .int .u32 s, .int .i64 0]) ∧ Below w.heap.size w w' := by
  have HB := hid hb
  have hmk : ∀ w, (Instr.makeSlice 91 (.int .i64 0) (.int .i64 0)).run Try.prog w = .ok (.slice (some ⟨w.heap.size, 0, none⟩) 0 0) (w.alloc (.cells (vls (2 * 0) (ilw fun _ => 0)) 194)) := fun w => run_makeP (P := Try.prog) (t := 91) (e := 194) Try.underlying91 infoz_pair (n := 0) (by omega) w
  clear hb
  have A0 := hid (vAt.new w 21 (ilw b) 96)
  have b0 := hid (boxed w (.cells (vls 21 (ilw b)) 96))
  go_enter Try.func67, Try.ntmps67
  go_wp2_with (refine wpList_load_row rfl 96 _ rfl (w.heap.size) rfl 96 (vls 21 (ilw b)) (0, 0) _ A0.out Try.underlying96 rfl (by rw [vls_size]; exact info_box) ?_)
  refine (iValidBox_t b HB.out _).mono ?_
  rintro e w1 ⟨rfl, hb1⟩
  have A1 := hid (A0.out.stay hb1)
  have B1 := hid (stp b0.out (Nat.le_refl _) hb1)
  clear A0 b0 hb1
  go_wp2_with fail
  have k2 := hid ((((Kept.nil w).stay B1.out).push #[.int .u32 s] 90).push (vls 0 (ilw fun _ => 0)) 194)
  generalize ((w1.alloc (.cells #[.int .u32 s] 90)).alloc (.cells (vls 0 (ilw fun _ => 0)) 194)) = w2 at k2 ⊢
  have c1 : w2.cell? ⟨w1.heap.size, 0, none⟩ = some (.int .u32 s) := (cell_of_row w2 w1.heap.size 0 _ _ _ (k2.out.at (x := (w1.heap.size, #[.int .u32 s], 90)) (by simp))).trans rfl
  clear A1 hmk
  go_loopw [36] (fun i wr => i = .int .i64 0 ∧ w2 = wr) (fun _ _ => 0)
  case atStart => exact ⟨rfl, rfl⟩
  case round =>
    obtain ⟨rfl, rfl⟩ := hrel
    go_wp2_with fail
    go_quiet (fail)
    go_wp2
    go_ret3
    exact ⟨_, _, rfl, (kept_drewK k2.out nq).1⟩

theorem words_cons : ∀ (v : List Char) (r : List Char), (∀ c ∈ v, c ≠ Char.ofNat 32) → wordsSigns (v ++ Char.ofNat 32 :: r) = v :: wordsSigns r
  | [], r, _ => rfl
  | c :: v, r, h => by
    have ih := words_cons v r (fun x hx => h x (by simp [hx]))
    have hc : c ≠ Char.ofNat 32 := h c (by simp)
    show wordsSigns (c :: (v ++ Char.ofNat 32 :: r)) = _
    rw [wordsSigns.eq_3 _ _ (fun e => hc e), ih]

def w0 : List Nat := [104, 97, 114, 110, 101, 115, 115]

def w1 : List Nat := [53, 57, 54, 54, 49, 98, 54, 54, 48, 56, 52, 53, 55, 102, 98, 53, 50, 52, 101, 51, 99, 56, 50, 53, 50, 97, 53, 101, 54, 51, 54, 56, 102, 102, 97, 97, 51, 57, 56, 49, 55, 102, 98, 48, 49, 52, 99, 56, 53, 102, 54, 56, 99, 52, 55, 101, 50, 49, 51, 102, 56, 53, 101, 101]

def w2 : List Nat := [99, 117, 116]

def w3 : List Nat := [97, 116, 32, 108, 111, 111, 112, 46, 101, 120, 97, 109, 112, 108, 101, 47, 103, 48, 49, 50, 50, 52, 47, 108, 97, 119, 115, 46, 70, 110, 69, 120, 97, 99, 116, 86, 97, 112, 111, 117, 114, 65, 98, 111, 118, 101, 32, 108, 111, 111, 112, 46, 101, 120, 97, 109, 112, 108, 101, 47, 103, 48, 49, 50, 50, 52, 47, 108, 97, 119, 115, 46, 70, 110, 69, 120, 97, 99, 116, 86, 97, 108, 105, 100, 69, 99, 104, 111, 77, 97, 112, 32, 108, 111, 111, 112, 46, 101, 120, 97, 109, 112, 108, 101, 47, 103, 48, 49, 50, 50, 52, 47, 108, 97, 119, 115, 46, 70, 110, 69, 120, 97, 99, 116, 82, 105, 115, 101, 73, 110, 32, 108, 111, 111, 112, 46, 101, 120, 97, 109, 112, 108, 101, 47, 103, 48, 49, 50, 50, 52, 47, 108, 97, 119, 115, 46, 70, 110, 69, 120, 97, 99, 116, 83, 116, 101, 97, 100, 121, 83, 111, 117, 110, 100, 105, 110, 103, 32, 108, 111, 111, 112, 46, 101, 120, 97, 109, 112, 108, 101, 47, 103, 48, 49, 50, 50, 52, 47, 108, 97, 119, 115, 46, 70, 110, 69, 120, 97, 99, 116, 69, 118, 101, 110, 116, 115, 79, 102, 32, 108, 111, 111, 112, 46, 101, 120, 97, 109, 112, 108, 101, 47, 103, 48, 49, 50, 50, 52, 47, 108, 97, 119, 115, 46, 70, 110, 69, 120, 97, 99, 116, 76, 111, 115, 115, 101, 115, 79, 102, 32, 108, 111, 111, 112, 46, 101, 120, 97, 109, 112, 108, 101, 47, 103, 48, 49, 50, 50, 52, 47, 108, 97, 119, 115, 46, 70, 110, 69, 120, 97, 99, 116, 67, 111, 108, 108, 105, 100, 101, 32, 108, 111, 111, 112, 46, 101, 120, 97, 109, 112, 108, 101, 47, 103, 48, 49, 50, 50, 52, 47, 108, 97, 119, 115, 46, 70, 110, 69, 120, 97, 99, 116, 67, 111, 108, 108, 105, 100, 101, 83, 116, 101, 112, 115, 32, 108, 111, 111, 112, 46, 101, 120, 97, 109, 112, 108, 101, 47, 103, 48, 49, 50, 50, 52, 47, 108, 97, 119, 115, 46, 70, 110, 69, 120, 97, 99, 116, 82, 97, 105, 110, 77, 97, 100, 101, 32, 108, 111, 111, 112, 46, 101, 120, 97, 109, 112, 108, 101, 47, 103, 48, 49, 50, 50, 52, 47, 108, 97, 119, 115, 46, 70, 110, 69, 120, 97, 99, 116, 71, 114, 111, 119, 79, 110, 99, 101, 32, 108, 111, 111, 112, 46, 101, 120, 97, 109, 112, 108, 101, 47, 103, 48, 49, 50, 50, 52, 47, 108, 97, 119, 115, 46, 70, 110, 69, 120, 97, 99, 116, 71, 114, 111, 119, 83, 116, 101, 112, 115, 32, 108, 111, 111, 112, 46, 101, 120, 97, 109, 112, 108, 101, 47, 103, 48, 49, 50, 50, 52, 47, 108, 97, 119, 115, 46, 70, 110, 69, 120, 97, 99, 116, 83, 116, 101, 112, 115, 84, 111, 68, 114, 121, 32, 108, 111, 111, 112, 46, 101, 120, 97, 109, 112, 108, 101, 47, 103, 48, 49, 50, 50, 52, 47, 108, 97, 119, 115, 46, 70, 110, 69, 120, 97, 99, 116, 85, 110, 105, 116, 65, 116, 32, 108, 111, 111, 112, 46, 101, 120, 97, 109, 112, 108, 101, 47, 103, 48, 49, 50, 50, 52, 47, 108, 97, 119, 115, 46, 70, 110, 69, 120, 97, 99, 116, 84, 104, 105, 114, 100, 82, 111, 111, 116, 32, 108, 111, 111, 112, 46, 101, 120, 97, 109, 112, 108, 101, 47, 103, 48, 49, 50, 50, 52, 47, 108, 97, 119, 115, 46, 70, 110, 69, 120, 97, 99, 116, 68, 114, 97, 119, 80, 97, 105, 114, 115, 32, 108, 111, 111, 112, 46, 101, 120, 97, 109, 112, 108, 101, 47, 103, 48, 49, 50, 50, 52, 47, 108, 97, 119, 115, 46, 70, 110, 69, 120, 97, 99, 116, 67, 111, 108, 108, 105, 100, 101, 80, 97, 105, 114, 115]

def letters (l : List Nat) : List Char := l.map Char.ofNat

theorem head_reads : Try.prog.initOrder = String.ofList (letters w0 ++ Char.ofNat 32 :: (letters w1 ++ Char.ofNat 32 :: (letters w2 ++ Char.ofNat 32 :: letters w3))) := by kernel_rfl

theorem no_blank {l : List Nat} (h : l.all (fun n => Char.ofNat n != Char.ofNat 32) = true) : ∀ c ∈ letters l, c ≠ Char.ofNat 32 := by
  intro c hc
  obtain ⟨n, hn, rfl⟩ := List.mem_map.1 hc
  have := List.all_eq_true.1 h n hn
  simpa using this

theorem h0 : letters w0 = "harness".toList := by kernel_rfl

theorem h2 : letters w2 = "cut".toList := by kernel_rfl

theorem sums : isSumSigns (letters w1) = true := by kernel_rfl

theorem words : wordsSigns Try.prog.initOrder.toList = "harness".toList :: letters w1 :: "cut".toList :: wordsSigns (letters w3) := by
  rw [head_reads, String.toList_ofList, words_cons _ _ (no_blank (by decide +kernel)), words_cons _ _ (no_blank (by decide +kernel)), words_cons _ _ (no_blank (by decide +kernel)), h0, h2]

theorem behind : ∃ r, behindMainWord (wordsSigns Try.prog.initOrder.toList) = "cut".toList :: r := by
  refine ⟨wordsSigns (letters w3), ?_⟩
  rw [words]
  generalize wordsSigns (letters w3) = r
  have hs := sums
  generalize letters w1 = v at hs
  unfold behindMainWord
  simp [hs]

theorem not_later : Try.prog.laysLater = false := by kernel_rfl

theorem no_reflect : Try.prog.bearsReflect = false := by kernel_rfl

theorem no_doors : Try.prog.doorFits [] = true := by kernel_rfl

theorem strips (r : List (List Char)) : stripLifts liftWords ("cut".toList :: r) = ([], "cut".toList :: r) := by kernel_rfl

theorem may_enter_of (P : Program) (r : List (List Char)) (h : behindMainWord (wordsSigns P.initOrder.toList) = "cut".toList :: r) (h1 : P.laysLater = false) (h2 : P.bearsReflect = false) (h3 : P.doorFits [] = true) : P.mayEnter = true := by
  unfold Program.mayEnter
  rw [h]
  dsimp only
  rw [strips, h1, h2, h3]
  kernel_rfl

theorem lifts_final_of (P : Program) (r : List (List Char)) (h : behindMainWord (wordsSigns P.initOrder.toList) = "cut".toList :: r) : P.liftsFinal = false := by
  unfold Program.liftsFinal Program.headLifts
  rw [h]
  dsimp only
  rw [strips]
  kernel_rfl

theorem made_of (P : Program) (r : List (List Char)) (h : behindMainWord (wordsSigns P.initOrder.toList) = "cut".toList :: r) : P.make = some .cut := by
  unfold Program.make
  rw [h]
  kernel_rfl

theorem may_enter : Try.prog.mayEnter = true := let ⟨r, h⟩ := behind; may_enter_of _ r h not_later no_reflect no_doors

theorem lifts_final : Try.prog.liftsFinal = false := let ⟨r, h⟩ := behind; lifts_final_of _ r h

theorem made : Try.prog.make = some .cut := let ⟨r, h⟩ := behind; made_of _ r h

theorem laid : laidOutB Try.prog = true := by kernel_rfl

theorem rowed : mapsRowed Try.prog = true := by kernel_rfl

theorem no_stops : Try.prog.stops = [] := by kernel_rfl

theorem no_knobs : Try.prog.stopKnobs = [] := by kernel_rfl

theorem plain_keys : Try.prog.plainKeys = false := by kernel_rfl

theorem stops_heard : Try.prog.stopsHeard = true := by kernel_rfl

theorem arr3 {α : Type} {cs : Array α} (h : cs.size = 3) : ∃ c0 c1 c2, cs = #[c0, c1, c2] := by
  obtain ⟨l⟩ := cs
  match l, h with
  | [a, b, c], _ => exact ⟨a, b, c, rfl⟩

theorem own : ownKnob Try.prog.godebug = none := by kernel_rfl

theorem rdi : Try.prog.readableRec 2 = true ∧ 2 < Try.prog.types.size := ⟨by kernel_rfl, of_decide_eq_true (by kernel_rfl)⟩

theorem cells21 : Try.prog.cellsOf 89 = 21 := by kernel_rfl

theorem types21 : Try.prog.cellTypes Try.prog.depth 89 = some (List.replicate 21 2) := by kernel_rfl

theorem rdb : Try.prog.readableRec 89 = true ∧ 89 < Try.prog.types.size := ⟨by kernel_rfl, of_decide_eq_true (by kernel_rfl)⟩

theorem open_u32 {P : Program} {w : World} {r : Reach} {b0 : Nat} {t : TypeId} {v : Value} (ht : P.underlying t = some (.int .u32)) (h : Value.okWide P w r b0 t v) :
    ∃ n, v = .int .u32 n ∧ 0 ≤ n ∧ n ≤ 4294967295 := by
  simp only [Value.okWide, ht, Cell.okWide] at h
  cases v <;> simp [Cell.ok, ht] at h
  obtain ⟨rfl, hb⟩ := h
  exact ⟨_, rfl, by simpa [IntKind.has, IntKind.min, IntKind.max, IntKind.signed, IntKind.bits] using hb⟩

theorem rdu : Try.prog.readableRec 90 = true ∧ 90 < Try.prog.types.size := ⟨by kernel_rfl, of_decide_eq_true (by kernel_rfl)⟩

set_option maxRecDepth 100000 in
set_option maxHeartbeats 4000000 in
theorem coreDrawPairsOk (b : Nat → Int) (s q z : Int) (n : Nat) (hn : n ≤ 1000) (y : Nat → Int)
    (hS : ∀ w, Calls Try.prog 65 #[.agg (vls 21 (ilw b)), .int .u32 s, .int .i64 q] w fun e w' => ∃ v, e = .returned (.tuple #[v, .int .u32 z, .int .i64 0]) ∧ MadeI n y w v w')
    (hI : ∀ w, Calls Try.prog 67 #[.agg (vls 21 (ilw b)), .int .u32 s, .int .i64 q] w fun e w' => ∃ v, e = .returned (.tuple #[v, .int .u32 z, .int .i64 0]) ∧ MadeI n y w v w') (w : World) :
    Calls Try.prog 17 #[.agg (vls 21 (ilw b)), .int .u32 s, .int .i64 q] w fun e w' => e = .returned (.bool true) ∧ Below w.heap.size w w' := by
  have HS := hid hS
  have HI := hid hI
  have k0 : Hid (Kept w [(w.heap.size, vls 21 (ilw b), 89)] (w.alloc (.cells (vls 21 (ilw b)) 89))) := hid ((Kept.nil w).push _ _)
  have HN := hid (show n ≤ 1048576 by omega)
  have hneg1 : ¬ (1 + 2 * (n : Int) < 0) := by omega
  clear hn
  clear hS hI
  go_enter Try.func17, Try.ntmps17
  go_wp2_with (refine wpList_load_row rfl 89 _ rfl (w.heap.size) rfl 89 (vls 21 (ilw b)) (0, 0) _ (k0.out.at (x := (w.heap.size, vls 21 (ilw b), 89)) (by simp)) Try.underlying89 rfl (by rw [vls_size]; exact info_lbox) ?_)
  refine (toBox b _).mono ?_
  rintro e u1 ⟨rfl, hb1⟩
  have k1 : Hid (Kept w [(w.heap.size, vls 21 (ilw b), 89)] u1) := hid (k0.out.stay hb1)
  clear hb1
  go_wp2_with fail
  refine (HS.out _).mono ?_
  rintro e u2 ⟨_, rfl, D, csD, capD, rfl, hBD, LD, KD⟩
  have h0D : w.heap.size < D := Nat.lt_of_lt_of_le (k1.out.lt (x := (w.heap.size, vls 21 (ilw b), 89)) (by simp)) hBD
  have hwD := Nat.le_trans k1.out.size hBD
  have k2 : Hid (Kept w [(D, csD, 194), (w.heap.size, vls 21 (ilw b), 89)] u2) := hid (k1.out.join KD)
  have vD := hid LD
  clear KD LD hBD
  go_wp2_with (refine wpList_load_row rfl 89 _ rfl (w.heap.size) rfl 89 (vls 21 (ilw b)) (0, 0) _ (k2.out.at (x := (w.heap.size, vls 21 (ilw b), 89)) (by simp)) Try.underlying89 rfl (by rw [vls_size]; exact info_lbox) ?_)
  refine (toBox b _).mono ?_
  rintro e u3 ⟨rfl, hb3⟩
  have k3 : Hid (Kept w [(D, csD, 194), (w.heap.size, vls 21 (ilw b), 89)] u3) := hid (k2.out.stay hb3)
  clear hb3
  go_wp2_with fail
  refine (HI.out _).mono ?_
  rintro e u4 ⟨_, rfl, G, csG, capG, rfl, hBG, LG, KG⟩
  have h0G : D < G := Nat.lt_of_lt_of_le (k3.out.lt (x := (D, csD, 194)) (by simp)) hBG
  have h1G : w.heap.size < G := Nat.lt_of_lt_of_le (k3.out.lt (x := (w.heap.size, vls 21 (ilw b), 89)) (by simp)) hBG
  have hwG := Nat.le_trans k3.out.size hBG
  have k4 : Hid (Kept w [(G, csG, 194), (D, csD, 194), (w.heap.size, vls 21 (ilw b), 89)] u4) := hid (k3.out.join KG)
  have vG := hid LG
  clear KG LG hBG
  go_wp2_with fail
  refine (eqPairs _ _ n y _ (Kept.rdI (T := 194) k4.out vG.out (by simp) capG) (Kept.rdI (T := 194) k4.out vD.out (by simp) capD) HN.out).mono ?_
  rintro e u5 ⟨rfl, hb5⟩
  have k5 : Hid (Kept w [(G, csG, 194), (D, csD, 194), (w.heap.size, vls 21 (ilw b), 89)] u5) := hid (k4.out.stay hb5)
  clear hb5
  go_wp2_with fail
  refine (markPairs w _ G n capG csG _ 1 ⟨by omega, by omega⟩ _ k5.out hwG (by intro z hz; simp at hz; rcases hz with rfl | rfl <;> simp <;> omega) vG.out HN.out).mono ?_
  rintro e u6 ⟨rfl, csM, wM, kk⟩
  have k6 : Hid (Kept w [(G, csM, 194), (D, csD, 194), (w.heap.size, vls 21 (ilw b), 89)] u6) := hid kk
  replace vG := hid wM
  clear kk wM
  go_wp2_with fail
  refine (heldPairs _ n 1 ⟨by omega, by omega⟩ _ (Kept.rdI (T := 194) k6.out vG.out (by simp) capG) HN.out).mono ?_
  rintro e z2 ⟨rfl, rfl⟩
  go_wp2_with (refine wpList_load_row rfl 89 _ rfl (w.heap.size) rfl 89 (vls 21 (ilw b)) (0, 0) _ (k6.out.at (x := (w.heap.size, vls 21 (ilw b), 89)) (by simp)) Try.underlying89 rfl (by rw [vls_size]; exact info_lbox) ?_)
  refine (toBox b _).mono ?_
  rintro e u7 ⟨rfl, hb7⟩
  have k7 : Hid (Kept w [(G, csM, 194), (D, csD, 194), (w.heap.size, vls 21 (ilw b), 89)] u7) := hid (k6.out.stay hb7)
  clear hb7
  go_wp2_with fail
  refine (HI.out _).mono ?_
  rintro e u8 ⟨_, rfl, H, csH, capH, rfl, hBH, LH, KH⟩
  have h0H : G < H := Nat.lt_of_lt_of_le (k7.out.lt (x := (G, csM, 194)) (by simp)) hBH
  have h1H : D < H := Nat.lt_of_lt_of_le (k7.out.lt (x := (D, csD, 194)) (by simp)) hBH
  have h2H : w.heap.size < H := Nat.lt_of_lt_of_le (k7.out.lt (x := (w.heap.size, vls 21 (ilw b), 89)) (by simp)) hBH
  have hwH := Nat.le_trans k7.out.size hBH
  have k8 : Hid (Kept w [(H, csH, 194), (G, csM, 194), (D, csD, 194), (w.heap.size, vls 21 (ilw b), 89)] u8) := hid (k7.out.join KH)
  have vH := hid LH
  clear KH LH hBH
  go_wp2_with fail
  refine (eqPairs _ _ n y _ (Kept.rdI (T := 194) k8.out vH.out (by simp) capH) (Kept.rdI (T := 194) k8.out vD.out (by simp) capD) HN.out).mono ?_
  rintro e u9 ⟨rfl, hb9⟩
  have k9 : Hid (Kept w [(H, csH, 194), (G, csM, 194), (D, csD, 194), (w.heap.size, vls 21 (ilw b), 89)] u9) := hid (k8.out.stay hb9)
  clear hb9
  go_wp2_with fail
  refine (heldPairs _ n 1 ⟨by omega, by omega⟩ _ (Kept.rdI (T := 194) k9.out vG.out (by simp) capG) HN.out).mono ?_
  rintro e z2 ⟨rfl, rfl⟩
  go_wp2
  go_ret
  exact ⟨rfl, k9.out.1⟩

set_option maxRecDepth 100000 in
set_option maxHeartbeats 4000000 in
theorem coreDrawPairsErr (b : Nat → Int) (s q z : Int) (c : Int)
    (hS : ∀ w, Calls Try.prog 65 #[.agg (vls 21 (ilw b)), .int .u32 s, .int .i64 q] w fun e w' => ∃ p k, e = .returned (.tuple #[.slice p 0 k, .int .u32 z, .int .i64 c]) ∧ Below w.heap.size w w')
    (hI : ∀ w, Calls Try.prog 67 #[.agg (vls 21 (ilw b)), .int .u32 s, .int .i64 q] w fun e w' => ∃ p k, e = .returned (.tuple #[.slice p 0 k, .int .u32 z, .int .i64 c]) ∧ Below w.heap.size w w') (w : World) :
    Calls Try.prog 17 #[.agg (vls 21 (ilw b)), .int .u32 s, .int .i64 q] w fun e w' => e = .returned (.bool true) ∧ Below w.heap.size w w' := by
  have HS := hid hS
  have HI := hid hI
  have k0 : Hid (Kept w [(w.heap.size, vls 21 (ilw b), 89)] (w.alloc (.cells (vls 21 (ilw b)) 89))) := hid ((Kept.nil w).push _ _)
  clear hS hI
  go_enter Try.func17, Try.ntmps17
  go_wp2_with (refine wpList_load_row rfl 89 _ rfl (w.heap.size) rfl 89 (vls 21 (ilw b)) (0, 0) _ (k0.out.at (x := (w.heap.size, vls 21 (ilw b), 89)) (by simp)) Try.underlying89 rfl (by rw [vls_size]; exact info_lbox) ?_)
  refine (toBox b _).mono ?_
  rintro e u1 ⟨rfl, hb1⟩
  have k1 : Hid (Kept w [(w.heap.size, vls 21 (ilw b), 89)] u1) := hid (k0.out.stay hb1)
  clear hb1
  go_wp2_with fail
  refine (HS.out _).mono ?_
  rintro e u2 ⟨p0, p0c, rfl, hb2⟩
  have k2 : Hid (Kept w [(w.heap.size, vls 21 (ilw b), 89)] u2) := hid (k1.out.stay hb2)
  clear hb2
  go_wp2_with (refine wpList_load_row rfl 89 _ rfl (w.heap.size) rfl 89 (vls 21 (ilw b)) (0, 0) _ (k2.out.at (x := (w.heap.size, vls 21 (ilw b), 89)) (by simp)) Try.underlying89 rfl (by rw [vls_size]; exact info_lbox) ?_)
  refine (toBox b _).mono ?_
  rintro e u3 ⟨rfl, hb3⟩
  have k3 : Hid (Kept w [(w.heap.size, vls 21 (ilw b), 89)] u3) := hid (k2.out.stay hb3)
  clear hb3
  go_wp2_with fail
  refine (HI.out _).mono ?_
  rintro e u4 ⟨p1, p1c, rfl, hb4⟩
  have k4 : Hid (Kept w [(w.heap.size, vls 21 (ilw b), 89)] u4) := hid (k3.out.stay hb4)
  clear hb4
  go_wp2_with fail
  refine (eqPairs _ _ 0 (fun _ => 0) _ (RdI.zero _ _ _ _) (RdI.zero _ _ _ _) (by omega)).mono ?_
  rintro e u5 ⟨rfl, hb5⟩
  have k5 : Hid (Kept w [(w.heap.size, vls 21 (ilw b), 89)] u5) := hid (k4.out.stay hb5)
  clear hb5
  go_wp2_with fail
  refine (mark0P _ _ _).mono ?_
  rintro e z1 ⟨rfl, rfl⟩
  go_wp2_with fail
  refine (held0P _ _ _).mono ?_
  rintro e z2 ⟨rfl, rfl⟩
  go_wp2_with (refine wpList_load_row rfl 89 _ rfl (w.heap.size) rfl 89 (vls 21 (ilw b)) (0, 0) _ (k5.out.at (x := (w.heap.size, vls 21 (ilw b), 89)) (by simp)) Try.underlying89 rfl (by rw [vls_size]; exact info_lbox) ?_)
  refine (toBox b _).mono ?_
  rintro e u6 ⟨rfl, hb6⟩
  have k6 : Hid (Kept w [(w.heap.size, vls 21 (ilw b), 89)] u6) := hid (k5.out.stay hb6)
  clear hb6
  go_wp2_with fail
  refine (HI.out _).mono ?_
  rintro e u7 ⟨p2, p2c, rfl, hb7⟩
  have k7 : Hid (Kept w [(w.heap.size, vls 21 (ilw b), 89)] u7) := hid (k6.out.stay hb7)
  clear hb7
  go_wp2_with fail
  refine (eqPairs _ _ 0 (fun _ => 0) _ (RdI.zero _ _ _ _) (RdI.zero _ _ _ _) (by omega)).mono ?_
  rintro e u8 ⟨rfl, hb8⟩
  have k8 : Hid (Kept w [(w.heap.size, vls 21 (ilw b), 89)] u8) := hid (k7.out.stay hb8)
  clear hb8
  go_wp2_with fail
  refine (held0P _ _ _).mono ?_
  rintro e z2 ⟨rfl, rfl⟩
  go_wp2
  go_ret
  exact ⟨rfl, k8.out.1⟩

theorem lawDrawPairs (b : Nat → Int) (_hb : ∀ i, i < 21 → inI64 (b i)) (s : Int) (s0 : 0 ≤ s) (s1 : s ≤ 4294967295) (q : Int) (_h1 : -9223372036854775808 ≤ q) (_h2 : q ≤ 9223372036854775807) (w : World) :
    Calls Try.prog 17 #[.agg (vls 21 (ilw b)), .int .u32 s, .int .i64 q] w fun e w' => e = .returned (.bool true) ∧ Below w.heap.size w w' := by
  rcases Classical.em (Bx b) with hb | hb
  · by_cases hq : 0 ≤ q ∧ q ≤ 1000
    · obtain ⟨n, rfl⟩ := Int.eq_ofNat_of_zero_le hq.1
      have hn : n ≤ 1000 := by omega
      rcases Nat.eq_zero_or_pos n with rfl | h0
      · exact coreDrawPairsErr b s _ s 0 (sDraw_0 b hb s) (iDraw_0 b hb s) w
      · rcases hz : allZ b with _ | _
        · exact coreDrawPairsOk b s _ (sd s (2 * n)) n hn (prI b s) (sDraw_t b hb hz s ⟨s0, by omega⟩ n h0 hn) (iDraw_t b hb hz s n h0 hn) w
        · exact coreDrawPairsErr b s _ 0 6 (sDraw_z b hb hz s n h0 hn) (iDraw_z b hb hz s n h0 hn) w
    · exact coreDrawPairsErr b s q 0 2 (sDraw_r b hb s q hq) (iDraw_r b hb s q hq) w
  · exact coreDrawPairsErr b s q 0 1 (sDraw_f b hb s q) (iDraw_f b hb s q) w
end Go.Proofs.Ytgmcpbhjcfiikaa

namespace Go.Proofs.Ytgmcpbhjcfiikaa.fnExactDrawPairs
open Go.RowKit Go.Fl Go.ChangeShapes Go.WideShapes Go.ChangeAt

set_option maxHeartbeats 2000000 in
theorem closed : joinedFacts Try.prog 17 Try.f17 Rows.fnExactDrawPairsSpec Rows.fnExactDrawPairsRow = true := by
  unfold joinedFacts
  simp only [Bool.and_eq_true]
  exact ⟨⟨⟨⟨⟨⟨⟨⟨⟨⟨⟨⟨⟨⟨⟨⟨⟨⟨⟨⟨⟨⟨⟨⟨⟨⟨⟨⟨⟨⟨⟨(by as_aux_lemma => kernel_rfl),
    laid⟩,
    rowed⟩,
    (by as_aux_lemma => kernel_rfl)⟩,
    (by as_aux_lemma => kernel_rfl)⟩,
    (by as_aux_lemma => kernel_rfl)⟩,
    (by rw [no_stops]; rfl)⟩,
    (by as_aux_lemma => kernel_rfl)⟩,
    (by rw [no_knobs]; rfl)⟩,
    (by as_aux_lemma => kernel_rfl)⟩,
    (by as_aux_lemma => kernel_rfl)⟩,
    (by as_aux_lemma => kernel_rfl)⟩,
    (by as_aux_lemma => kernel_rfl)⟩,
    (by as_aux_lemma => kernel_rfl)⟩,
    (by as_aux_lemma => kernel_rfl)⟩,
    (by as_aux_lemma => kernel_rfl)⟩,
    (by as_aux_lemma => kernel_rfl)⟩,
    (by as_aux_lemma => kernel_rfl)⟩,
    (by as_aux_lemma => kernel_rfl)⟩,
    (by as_aux_lemma => kernel_rfl)⟩,
    (by as_aux_lemma => kernel_rfl)⟩,
    (by as_aux_lemma => kernel_rfl)⟩,
    (show (Rows.fnExactDrawPairsRow.plainKeys == Try.prog.plainKeys) = true by rw [plain_keys]; rfl)⟩,
    (by as_aux_lemma => kernel_rfl)⟩,
    stops_heard⟩,
    may_enter⟩,
    (show (Rows.fnExactDrawPairsRow.lifted == Try.prog.liftsFinal) = true by rw [lifts_final]; rfl)⟩,
    (show (Try.prog.make == some Rows.fnExactDrawPairsRow.make) = true by rw [made]; rfl)⟩,
    (by as_aux_lemma => kernel_rfl)⟩,
    (by as_aux_lemma => kernel_rfl)⟩,
    (by as_aux_lemma => kernel_rfl)⟩,
    (by as_aux_lemma => kernel_rfl)⟩

set_option maxRecDepth 100000 in
theorem lifted (os : Os) (started : os.Started) (H : Type) (enc : TypeId × Value → H) :
    ReturnsInHanded {} Try.checked os 17 .any (Rows.fnExactDrawPairsSpec.pre6 enc Try.prog Try.f17 Rows.fnExactDrawPairsRow.domain false) (Rows.fnExactDrawPairsSpec.post enc Try.prog Try.f17 false true false false) := by
  refine LawFrame.lifted (C := Try.checked) (fn := Try.f17) (n := 3) (tb := 4) started own (by kernel_rfl) Try.func17 laid ?_ rfl rfl ?_ rfl Try.underlying4
    (ChangeSpec.witness6 (enc := enc) (C := Try.checked) false ⟨#[], #[.agg (Array.replicate 21 (.int .i64 0)), .int .u32 0, .int .i64 0], []⟩ 8 (by kernel_rfl) (by kernel_rfl) (by kernel_rfl) (by kernel_rfl)) ?_
  · intro t ht
    simp only [Try.params17, List.mem_cons, List.not_mem_nil, or_false] at ht
    rcases ht with rfl | rfl | rfl <;> first | exact rdb | exact rdi | exact rdu
  · intro ds hd
    match ds, hd with
    | [_, _, _], _ => rfl
  · intro W base args ds ps hval hn _
    obtain ⟨v0, v1, v2, rfl⟩ : ∃ v0 v1 v2, args = #[v0, v1, v2] := arr3 hn
    obtain ⟨c0, rfl, hb0⟩ := open_ints Try.underlying89 rfl Try.underlying2 cells21 types21 (hval 0 89 v0 rfl rfl)
    obtain ⟨c1, rfl, hb1, hc1⟩ := open_u32 Try.underlying90 (hval 1 90 v1 rfl rfl)
    obtain ⟨c2, rfl, hb2, hc2⟩ := open_i64 Try.underlying2 (hval 2 2 v2 rfl rfl)
    exact lawDrawPairs c0 hb0 c1 hb1 hc1 c2 hb2 hc2 W

theorem over : Rows.fnExactDrawPairsRow.holds Try.pinned (OpenSpec.ofChange Rows.fnExactDrawPairsSpec) :=
  OpenClaim.holds_of_wide 17 Try.f17 rfl rfl rfl rfl rfl rfl rfl ⟨rfl, rfl, rfl, rfl, rfl⟩ rfl rfl rfl rfl rfl (by kernel_rfl) Try.func17 closed
    (of_decide_eq_true (by kernel_rfl)) (by unfold Func.isWrapper; rw [if_neg (by decide +kernel)]; exact ⟨rfl, rfl⟩)
    (fun os started H enc _ => lifted os started H enc)

theorem proved : Rows.FnExactDrawPairsSaid := over
#print axioms proved
end Go.Proofs.Ytgmcpbhjcfiikaa.fnExactDrawPairs
