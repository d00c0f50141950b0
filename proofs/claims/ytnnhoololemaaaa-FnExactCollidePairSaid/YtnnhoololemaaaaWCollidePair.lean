import Derived.Test.YtnnhoololemaaaaBCollidePair
import Derived.Test.YtnnhoololemaaaaChecked
import Derived.Test.YtnnhoololemaaaaRows
import Derived.Laws.FloatArith
import Derived.ProofKit
import Derived.WalkKit
import Derived.WalkLawsBesides
import Derived.WalkSpells
import Derived.Deep.QuietTactic
import Derived.BigQuiet
import Derived.Deep.RegionHeld3
import Derived.ChangeKeysEq
import Derived.Laws.BitsAllLaws
import Derived.Deep.MidRow
import Derived.StillTailTactics
import Derived.OpenShut
/- The law FnExactCollidePair of chapter 1: at every argument the call returns true, and what was there before it is as it was. -/
namespace Go.Proofs.Ytnnhoololemaaaa
open Go.RowKit Go.Fl

@[go_sem] theorem ext_f64bits (y : Nat) (w : World) : (callFunc 203 #[.float .f64 y]).run Try.prog w = .ok (.value (.int .u64 y)) w := by
  rw [run_callFunc_extern Try.func203 (by kernel_rfl) (by kernel_rfl) (by kernel_rfl) (e := Extern.MathFloatBits.float64bits) (by kernel_rfl)]
  rfl

@[go_sem] theorem ext_f64from (n : Int) (w : World) : (callFunc 202 #[.int .u64 n]).run Try.prog w = .ok (.value (.float .f64 n.toNat)) w := by
  rw [run_callFunc_extern Try.func202 (by kernel_rfl) (by kernel_rfl) (by kernel_rfl) (e := Extern.MathFloatBits.float64frombits) (by kernel_rfl)]
  rfl

theorem hid {p : Prop} (h : p) : Hid p := h

theorem clear_sign (y : Nat) (h : y < 18446744073709551616) : (bits BinOp.andNot IntKind.u64 (y : Int) 9223372036854775808).toNat = y % 9223372036854775808 := by
  rw [u64_andNot _ _ (by omega) (by omega) (by omega) (by omega)]
  rw [Int.toNat_natCast, Int.toNat_natCast]
  exact Nat.and_two_pow_sub_one_eq_mod y 63

theorem abs_f64 (y : Nat) (h : y < 18446744073709551616) (w : World) :
    Calls Try.prog 145 #[.float .f64 y] w fun e w' => e = .returned (.float .f64 (y % 9223372036854775808)) ∧ w = w' := by
  have hc := hid (clear_sign y h)
  clear h
  go_enter Try.func145, Try.ntmps145
  go_wp2
  go_ret
  exact ⟨by simp [hc.out], rfl⟩

theorem isNaN_f64 (y : Nat) (w : World) :
    Calls Try.prog 187 #[.float .f64 y] w fun e w' => e = .returned (.bool (FloatKind.f64.format.order y y != some .eq)) ∧ w = w' := by
  go_enter Try.func187, Try.ntmps187
  go_wp2
  go_ret
  exact ⟨rfl, rfl⟩

theorem isInf_f64 (y : Nat) (h : y < 18446744073709551616) (w : World) :
    Calls Try.prog 188 #[.float .f64 y, .int .i64 0] w fun e w' => e = .returned (.bool (FloatKind.f64.format.order (y % 9223372036854775808) 9218868437227405311 == some .gt)) ∧ w = w' := by
  have hc := hid h
  clear h
  go_enter Try.func188, Try.ntmps188
  go_wp2_with (go_at_call 145; refine (abs_f64 y hc.out _).mono ?_; rintro e w' ⟨rfl, rfl⟩)
  go_ret
  exact ⟨rfl, rfl⟩

theorem isFinite_t (x : Nat) (hx : x < 4294967296) (h : finB x = true) (w : World) :
    Calls Try.prog 112 #[.float .f32 x] w fun e w' => e = .returned (.bool true) ∧ w = w' := by
  rw [finB_iff] at h
  have hc := fun w => run_conv_wid (P := Try.prog) w 22 26 x hx Try.underlying22 Try.underlying26 h
  obtain ⟨a, b, m, e, hr⟩ := read_wid_fin hx h
  have hn : (FloatKind.f64.format.order (wid x) (wid x) != some .eq) = false := by
    show (D.order (wid x) (wid x) != some .eq) = false
    rw [order_self hr]; rfl
  have hi : (FloatKind.f64.format.order (wid x % 9223372036854775808) 9218868437227405311 == some .gt) = false := by
    show (D.order (wid x % 9223372036854775808) 9218868437227405311 == some .gt) = false
    rw [b, order_ltD a (by decide)]
    rw [DINF_val] at a
    have hle : wid (mg x) ≤ 9218868437227405311 := by omega
    rcases Nat.lt_or_eq_of_le hle with h' | h'
    · rw [Nat.compare_eq_lt.2 h']; rfl
    · rw [Nat.compare_eq_eq.2 h']; rfl
  have hw : wid x < 18446744073709551616 := D.write_lt _
  have Hn := hid hn
  have Hi := hid hi
  have Hw := hid hw
  clear hn hi hw hr a b h hx
  go_enter Try.func112, Try.ntmps112
  go_wp2_with (first | (go_at_call 187; refine (isNaN_f64 (wid x) _).mono ?_; rintro e w' ⟨rfl, rfl⟩; rw [Hn.out]) | (go_at_call 188; refine (isInf_f64 (wid x) Hw.out _).mono ?_; rintro e w' ⟨rfl, rfl⟩; rw [Hi.out]))
  go_ret
  exact ⟨rfl, rfl⟩

@[go_sem] theorem ext_f32bits (y : Nat) (w : World) : (callFunc 183 #[.float .f32 y]).run Try.prog w = .ok (.value (.int .u32 y)) w := by
  rw [run_callFunc_extern Try.func183 (by kernel_rfl) (by kernel_rfl) (by kernel_rfl) (e := Extern.MathFloatBits.float32bits) (by kernel_rfl)]
  rfl

theorem back {P : Program} {f : FuncId} {args : Array Value} {w : World} {v : Value} (h : Calls P f args w fun e w' => e = .returned v ∧ w = w') : Calls P f args w fun e w' => e = .returned v ∧ w' = w :=
  h.mono fun _ _ ⟨a, b⟩ => ⟨a, b.symm⟩

/-- The mass of a class, as a word. -/
theorem iMass (k : Nat) (hk : k < 20) (w : World) :
    Calls Try.prog 117 #[.int .i64 (k : Int)] w fun e w' => e = .returned (.float .f32 (mass k)) ∧ w = w' := by
  have H : k = 0 ∨ k = 1 ∨ k = 2 ∨ k = 3 ∨ k = 4 ∨ k = 5 ∨ k = 6 ∨ k = 7 ∨ k = 8 ∨ k = 9 ∨ k = 10 ∨ k = 11 ∨ k = 12 ∨ k = 13 ∨ k = 14 ∨ k = 15 ∨ k = 16 ∨ k = 17 ∨ k = 18 ∨ k = 19 := by omega
  rcases H with rfl | rfl | rfl | rfl | rfl | rfl | rfl | rfl | rfl | rfl | rfl | rfl | rfl | rfl | rfl | rfl | rfl | rfl | rfl | rfl
  all_goals
    go_enter Try.func117, Try.ntmps117
    go_wp2
    go_ret
    exact ⟨rfl, rfl⟩

theorem isClass_t (k : Nat) (hk : k < 20) (w : World) :
    Calls Try.prog 172 #[.int .i64 (k : Int)] w fun e w' => e = .returned (.bool true) ∧ w = w' := by
  have h1 : decide ((0 : Int) ≤ (k : Int)) = true := by simp
  go_enter Try.func172, Try.ntmps172
  go_wp2
  go_ret
  exact ⟨by first | rfl | (simp; done) | (simp; omega), rfl⟩

theorem isClass_f (n : Int) (hn : ¬ (0 ≤ n ∧ n < 20)) (w : World) :
    Calls Try.prog 172 #[.int .i64 n] w fun e w' => e = .returned (.bool false) ∧ w = w' := by
  by_cases h0 : 0 ≤ n
  · have h2 : ¬ n < 20 := by omega
    have h3 : 20 ≤ n := by omega
    clear hn h2
    go_enter Try.func172, Try.ntmps172
    go_wp2
    go_ret
    exact ⟨by first | rfl | (simp; done) | (simp; omega), rfl⟩
  · have h3 : n < 0 := by omega
    have h4 : decide (0 ≤ n) = false := by simp; omega
    clear hn h0
    go_enter Try.func172, Try.ntmps172
    go_wp2
    go_ret
    exact ⟨by simp, rfl⟩

theorem l00In_t (n a b : Int) (h1 : a ≤ n) (h2 : n ≤ b) (w : World) :
    Calls Try.prog 121 #[.int .i64 n, .int .i64 a, .int .i64 b] w fun e w' => e = .returned (.bool true) ∧ w = w' := by
  go_enter Try.func121, Try.ntmps121
  go_wp2
  go_ret
  exact ⟨by first | rfl | (simp; done) | (simp; omega), rfl⟩

theorem l00In_f (n a b : Int) (hn : ¬ (a ≤ n ∧ n ≤ b)) (w : World) :
    Calls Try.prog 121 #[.int .i64 n, .int .i64 a, .int .i64 b] w fun e w' => e = .returned (.bool false) ∧ w = w' := by
  by_cases h0 : a ≤ n
  · have h3 : b < n := by omega
    clear hn
    go_enter Try.func121, Try.ntmps121
    go_wp2
    go_ret
    exact ⟨by first | rfl | (simp; done) | (simp; omega), rfl⟩
  · have h3 : n < a := by omega
    have h4 : decide (a ≤ n) = false := by simp; omega
    clear hn h0
    go_enter Try.func121, Try.ntmps121
    go_wp2
    go_ret
    exact ⟨by simp, rfl⟩

theorem sClass_t (k : Nat) (hk : k < 20) (w : World) :
    Calls Try.prog 134 #[.int .i64 (k : Int)] w fun e w' => e = .returned (.bool true) ∧ w = w' := by
  go_enter Try.func134, Try.ntmps134
  go_wp2_with fail
  refine (l00In_t k 0 19 (by omega) (by omega) _).mono ?_
  rintro e w1 ⟨rfl, rfl⟩
  go_wp2
  go_ret
  exact ⟨rfl, rfl⟩

theorem sClass_f (n : Int) (hn : ¬ (0 ≤ n ∧ n < 20)) (w : World) :
    Calls Try.prog 134 #[.int .i64 n] w fun e w' => e = .returned (.bool false) ∧ w = w' := by
  have H := hid hn
  clear hn
  go_enter Try.func134, Try.ntmps134
  go_wp2_with fail
  refine (l00In_f n 0 19 (by have := H.out; omega) _).mono ?_
  rintro e w1 ⟨rfl, rfl⟩
  go_wp2
  go_ret
  exact ⟨rfl, rfl⟩

def Cnt (n : Int) : Prop := 0 ≤ n ∧ n ≤ 1000000000

def Bx (b : Nat → Int) : Prop := ∀ i, i < 21 → Cnt (b i)

theorem isCount_t (n : Int) (h : Cnt n) (w : World) :
    Calls Try.prog 169 #[.int .i64 n] w fun e w' => e = .returned (.bool true) ∧ w = w' := by
  have h1 : decide (0 ≤ n) = true := decide_eq_true h.1
  have h2 := h.2
  clear h
  go_enter Try.func169, Try.ntmps169
  go_wp2
  go_ret
  exact ⟨by first | rfl | (simp; done) | (simp; omega), rfl⟩

theorem isCount_f (n : Int) (hn : ¬ Cnt n) (w : World) :
    Calls Try.prog 169 #[.int .i64 n] w fun e w' => e = .returned (.bool false) ∧ w = w' := by
  unfold Cnt at hn
  by_cases h0 : 0 ≤ n
  · have h2 : ¬ n ≤ 1000000000 := by omega
    have h3 : 1000000000 < n := by omega
    clear hn h2
    go_enter Try.func169, Try.ntmps169
    go_wp2
    go_ret
    exact ⟨by first | rfl | (simp; done) | (simp; omega), rfl⟩
  · have h3 : n < 0 := by omega
    have h4 : decide (0 ≤ n) = false := by simp; omega
    clear hn h0
    go_enter Try.func169, Try.ntmps169
    go_wp2
    go_ret
    exact ⟨by simp, rfl⟩

theorem info_box : (Try.prog.info? 80).map (·.size) = some 21 := by kernel_rfl

theorem info_lbox : (Try.prog.info? 76).map (·.size) = some 21 := by kernel_rfl

theorem info_cnt : (Try.prog.info? 78).map (·.size) = some 20 := by kernel_rfl

theorem info_i20 : (Try.prog.info? 74).map (·.size) = some 20 := by kernel_rfl

theorem info_int : (Try.prog.info? 2).map (·.size) = some 1 := by kernel_rfl

theorem ixc (b : Nat → Int) (k : Nat) (hk : k < 20) (w : World) :
    (Instr.index 78 (.agg (vls 20 (ilw b))) (.int .i64 (k : Int))).run Try.prog w = .ok (.int .i64 (b k)) w :=
  run_index_vls Try.underlying78 Try.underlying2 rfl info_int 20 (ilw b) k hk hk w

set_option maxRecDepth 100000 in
theorem iValidBox_t (b : Nat → Int) (h : Bx b) (w : World) :
    Calls Try.prog 84 #[.agg (vls 21 (ilw b))] w fun e w' => e = .returned (.bool true) ∧ Below w.heap.size w w' := by
  have A0 := hid (vAt.new w 21 (ilw b) 80)
  have b0 := boxed w (.cells (vls 21 (ilw b)) 80)
  have H := hid h
  clear h
  have hc20 : Cnt (b 20) := H.out 20 (by omega)
  have q20 := A0.out.cell (k := 20) (by omega)
  go_enter Try.func84, Try.ntmps84
  go_wp2_with (refine wpList_load_head rfl 78 _ rfl w.heap.size rfl 21 (ilw b) 80 A0.out 20 (by omega) _ Try.underlying78 rfl info_cnt ?_)
  go_loop [7] (fun i => ∃ k : Nat, k ≤ 20 ∧ i = .int .i64 k) (fun i => 20 - (intOf i).toNat)
  case atStart => exact ⟨0, by omega, rfl⟩
  case round =>
    obtain ⟨k, hk, rfl⟩ := hrel
    by_cases hlt : k < 20
    · have hix := ixc b k hlt
      go_wp2_with (go_at_call 169; refine (isCount_t (b k) (H.out k (by omega)) _).mono ?_; rintro e w' ⟨rfl, rfl⟩)
      go_round
      case rel => exact ⟨k + 1, by omega, by go_num⟩
      case measure => simp [intOf]; omega
    · go_wp2_with (go_at_call 169; refine (isCount_t (b 20) hc20 _).mono ?_; rintro e w' ⟨rfl, rfl⟩)
      go_ret
      exact ⟨rfl, b0⟩

set_option maxRecDepth 100000 in
theorem iValidBox_f (b : Nat → Int) (h : ¬ Bx b) (w : World) :
    Calls Try.prog 84 #[.agg (vls 21 (ilw b))] w fun e w' => e = .returned (.bool false) ∧ Below w.heap.size w w' := by
  have A0 := hid (vAt.new w 21 (ilw b) 80)
  have b0 := boxed w (.cells (vls 21 (ilw b)) 80)
  have H := hid h
  clear h
  have q20 := A0.out.icell (k := 20) (by omega)
  go_enter Try.func84, Try.ntmps84
  go_wp2_with (refine wpList_load_head rfl 78 _ rfl w.heap.size rfl 21 (ilw b) 80 A0.out 20 (by omega) _ Try.underlying78 rfl info_cnt ?_)
  go_loop [7] (fun i => ∃ k : Nat, k ≤ 20 ∧ Hid (∀ i, i < k → Cnt (b i)) ∧ i = .int .i64 k) (fun i => 20 - (intOf i).toNat)
  case atStart => exact ⟨0, by omega, hid (fun i hi => by omega), rfl⟩
  case round =>
    obtain ⟨k, hk, HK, rfl⟩ := hrel
    by_cases hlt : k < 20
    · have hix := ixc b k hlt
      by_cases hc : Cnt (b k)
      · have HC := hid hc
        clear hc
        go_wp2_with (go_at_call 169; refine (isCount_t (b k) HC.out _).mono ?_; rintro e w' ⟨rfl, rfl⟩)
        go_round
        case rel => exact ⟨k + 1, by omega, hid (all_step HK.out HC.out), by go_num⟩
        case measure => simp [intOf]; omega
      · have HC := hid hc
        clear hc
        go_wp2_with (go_at_call 169; refine (isCount_f (b k) HC.out _).mono ?_; rintro e w' ⟨rfl, rfl⟩)
        go_ret
        exact ⟨rfl, b0⟩
    · have hc : ¬ Cnt (b 20) := fun hc => H.out fun i hi => by
        rcases Nat.lt_or_eq_of_le (Nat.le_of_lt_succ hi) with h1 | h1
        · exact HK.out i (by omega)
        · rw [h1]; exact hc
      have HC := hid hc
      clear hc
      go_wp2_with (go_at_call 169; refine (isCount_f (b 20) HC.out _).mono ?_; rintro e w' ⟨rfl, rfl⟩)
      go_ret
      exact ⟨rfl, b0⟩

set_option maxRecDepth 100000 in
theorem sBoxOk_t (b : Nat → Int) (h : Bx b) (w : World) (g : Nat) (T : TypeId) (hg : vAt w g 21 (ilw b) T) :
    Calls Try.prog 167 #[.pointer (some ⟨g, 0, none⟩)] w fun e w' => e = .returned (.bool true) ∧ w = w' := by
  have H := hid h
  have G := hid hg
  clear h hg
  have q20 := G.out.icell (k := 20) (by omega)
  go_enter Try.func167, Try.ntmps167
  go_wp2
  go_loop [3] (fun i => ∃ k : Nat, k ≤ 20 ∧ i = .int .i64 k) (fun i => 20 - (intOf i).toNat)
  case atStart => exact ⟨0, by omega, rfl⟩
  case round =>
    obtain ⟨k, hk, rfl⟩ := hrel
    by_cases hlt : k < 20
    · have q := G.out.icell (k := k) (by omega)
      go_wp2_with (go_at_call 121; refine (l00In_t (b k) 0 1000000000 (H.out k (by omega)).1 (H.out k (by omega)).2 _).mono ?_; rintro e w' ⟨rfl, rfl⟩)
      go_round
      case rel => exact ⟨k + 1, by omega, by go_num⟩
      case measure => simp [intOf]; omega
    · go_wp2_with (go_at_call 121; refine (l00In_t (b 20) 0 1000000000 (H.out 20 (by omega)).1 (H.out 20 (by omega)).2 _).mono ?_; rintro e w' ⟨rfl, rfl⟩)
      go_ret
      exact ⟨rfl, rfl⟩

set_option maxRecDepth 100000 in
theorem sBoxOk_f (b : Nat → Int) (h : ¬ Bx b) (w : World) (g : Nat) (T : TypeId) (hg : vAt w g 21 (ilw b) T) :
    Calls Try.prog 167 #[.pointer (some ⟨g, 0, none⟩)] w fun e w' => e = .returned (.bool false) ∧ w = w' := by
  have H := hid h
  have G := hid hg
  clear h hg
  have q20 := G.out.icell (k := 20) (by omega)
  go_enter Try.func167, Try.ntmps167
  go_wp2
  go_loop [3] (fun i => ∃ k : Nat, k ≤ 20 ∧ Hid (∀ i, i < k → Cnt (b i)) ∧ i = .int .i64 k) (fun i => 20 - (intOf i).toNat)
  case atStart => exact ⟨0, by omega, hid (fun i hi => by omega), rfl⟩
  case round =>
    obtain ⟨k, hk, HK, rfl⟩ := hrel
    by_cases hlt : k < 20
    · have q := G.out.icell (k := k) (by omega)
      by_cases hc : Cnt (b k)
      · have HC := hid hc
        clear hc
        go_wp2_with (go_at_call 121; refine (l00In_t (b k) 0 1000000000 HC.out.1 HC.out.2 _).mono ?_; rintro e w' ⟨rfl, rfl⟩)
        go_round
        case rel => exact ⟨k + 1, by omega, hid (all_step HK.out HC.out), by go_num⟩
        case measure => simp [intOf]; omega
      · have HC := hid hc
        clear hc
        go_wp2_with (go_at_call 121; refine (l00In_f (b k) 0 1000000000 HC.out _).mono ?_; rintro e w' ⟨rfl, rfl⟩)
        go_ret
        exact ⟨rfl, rfl⟩
    · have hc : ¬ Cnt (b 20) := fun hc => H.out fun i hi => by
        rcases Nat.lt_or_eq_of_le (Nat.le_of_lt_succ hi) with h1 | h1
        · exact HK.out i (by omega)
        · rw [h1]; exact hc
      have HC := hid hc
      clear hc
      go_wp2_with (go_at_call 121; refine (l00In_f (b 20) 0 1000000000 HC.out _).mono ?_; rintro e w' ⟨rfl, rfl⟩)
      go_ret
      exact ⟨rfl, rfl⟩

set_option maxRecDepth 100000 in
theorem toCounts (b : Nat → Int) (w : World) :
    Calls Try.prog 168 #[.agg (vls 20 (ilw b))] w fun e w' => e = .returned (.agg (vls 20 (ilw b))) ∧ Below w.heap.size w w' := by
  have A0 := hid (((vAt.new w 20 (ilw b) 74).alloc (.cells (vls 20 (ilw fun _ => 0)) 78)).alloc (.cells (vls 20 (ilw fun _ => 0)) 78))
  have A1 := hid ((vAt.new1 w (.cells (vls 20 (ilw b)) 74) 20 (ilw fun _ => 0) 78).alloc (.cells (vls 20 (ilw fun _ => 0)) 78))
  have A2 := hid (vAt.new2 w (.cells (vls 20 (ilw b)) 74) (.cells (vls 20 (ilw fun _ => 0)) 78) 20 (ilw fun _ => 0) 78)
  have b0 := boxed3 w (.cells (vls 20 (ilw b)) 74) (.cells (vls 20 (ilw fun _ => 0)) 78) (.cells (vls 20 (ilw fun _ => 0)) 78)
  go_enter Try.func168, Try.ntmps168
  go_wp2
  go_loopw [4] (fun i wr => ∃ k : Nat, k ≤ 20 ∧ i = .int .i64 k ∧ Hid (vAt wr w.heap.size 20 (ilw b) 74) ∧ Hid (vAt wr (w.heap.size + 1) 20 (ilw fun _ => 0) 78) ∧ Hid (vAt wr (w.heap.size + 1 + 1) 20 (prtV (ilw b) (ilw fun _ => 0) k) 78) ∧ Hid (Below w.heap.size w wr)) (fun i _ => 20 - (intOf i).toNat)
  case atStart => exact ⟨0, by omega, rfl, A0, A1, hid (A2.out.ext fun i _ => (prtV_zero _ _ i).symm), hid b0⟩
  case round =>
    obtain ⟨k, hk, rfl, h0, h1, h2, hb⟩ := hrel
    by_cases hlt : k < 20
    · have q0 := h0.out.icell hlt
      have q2 := h2.out.cell hlt
      have f2 := h2.out.frozen k
      go_wp2
      go_roundw
      case rel => exact ⟨k + 1, by omega, by go_num, hid (h0.out.setOther (by simp; omega) _), hid (h1.out.setOther (by simp) _), hid ((h2.out.set k (ilw b k)).ext (fun i _ => prtV_succ _ _ k i)), hid (hb.out.setCell (by simp; omega) _)⟩
      case measure => simp [intOf]; omega
    · obtain rfl : k = 20 := by omega
      have h2' := hid (h2.out.ext (prtV_all _ _ 20))
      clear h2
      go_wp2_with (first | (refine wpList_load_row rfl 78 _ rfl (w.heap.size + 1 + 1) rfl 78 (vls 20 (ilw b)) (0, 0) _ h2'.out Try.underlying78 rfl (by rw [vls_size]; exact info_cnt) ?_) | (refine wpList_store_row rfl 78 _ _ rfl (w.heap.size + 1) (vls 20 (ilw b)) rfl rfl 78 _ h1.out (by rw [vls_size]; exact info_cnt) (by simp) (vls_one (ilw_one b)) ?_))
      exact bodyPost_ret (results_cell_row rfl _ _ (w.heap.size + 1) 78 (vls 20 (ilw b)) (0, 0) _ rfl (h1.out.setRow (ilw b)) Try.underlying78 rfl (by rw [vls_size]; exact info_cnt)) rfl ⟨rfl, below_row hb.out (by omega) _⟩

theorem box_last (b : Nat → Int) (i : Nat) (hi : i < 21) : updV (prtV (ilw b) (ilw fun _ => 0) 20) 20 (.int .i64 (b 20)) i = ilw b i := by
  unfold updV prtV ilw
  by_cases h1 : i = 20
  · rw [if_pos h1, h1]
  · rw [if_neg h1, if_pos (by omega)]

set_option maxRecDepth 100000 in
theorem toBox (b : Nat → Int) (w : World) :
    Calls Try.prog 83 #[.agg (vls 21 (ilw b))] w fun e w' => e = .returned (.agg (vls 21 (ilw b))) ∧ Below w.heap.size w w' := by
  have A0 := hid (((vAt.new w 21 (ilw b) 76).alloc (.cells (vls 21 (ilw fun _ => 0)) 80)).alloc (.cells (vls 21 (ilw fun _ => 0)) 80))
  have A1 := hid ((vAt.new1 w (.cells (vls 21 (ilw b)) 76) 21 (ilw fun _ => 0) 80).alloc (.cells (vls 21 (ilw fun _ => 0)) 80))
  have A2 := hid (vAt.new2 w (.cells (vls 21 (ilw b)) 76) (.cells (vls 21 (ilw fun _ => 0)) 80) 21 (ilw fun _ => 0) 80)
  have b0 := boxed3 w (.cells (vls 21 (ilw b)) 76) (.cells (vls 21 (ilw fun _ => 0)) 80) (.cells (vls 21 (ilw fun _ => 0)) 80)
  go_enter Try.func83, Try.ntmps83
  go_wp2_with (refine wpList_load_head rfl 74 _ rfl w.heap.size rfl 21 (ilw b) 76 A0.out 20 (by omega) _ Try.underlying74 rfl info_i20 ?_)
  refine (toCounts b _).mono ?_
  rintro e w1 ⟨rfl, hb1⟩
  have A0 := hid (A0.out.stay hb1)
  have A1 := hid (A1.out.stay hb1)
  have A2 := hid (A2.out.stay hb1)
  have c0 := stp b0 (Nat.le_refl _) hb1
  have N0 := hid (A0.out.setPartOther (k := w.heap.size + 1 + 1) (by omega) 0 (vls 20 (ilw b)).toList)
  have N1 := hid (A1.out.setPartOther (k := w.heap.size + 1 + 1) (by omega) 0 (vls 20 (ilw b)).toList)
  have N2 := hid ((A2.out.setPart 0 20 (ilw b)).ext fun i _ => updR_zero _ _ _ i)
  have nb := below_cells (g := w.heap.size + 1 + 1) (by omega) (vls 20 (ilw b)).toList 0 c0
  clear A0 A1 b0 c0
  have tok1 : True := trivial
  go_wp2_with (first | (have _t := M2; refine wpList_load_row rfl 80 _ rfl (w.heap.size + 1 + 1) rfl 80 (vls 21 (ilw b)) (0, 0) _ M2.out Try.underlying80 rfl (by rw [vls_size]; exact info_box) ?_) | (have _t := M2; refine wpList_store_row rfl 80 _ _ rfl (w.heap.size + 1) (vls 21 (ilw b)) rfl rfl 80 _ M1.out (by rw [vls_size]; exact info_box) (by simp) (vls_one (ilw_one b)) ?_) | (have _t := tok1; refine wpList_store_head rfl 78 _ _ rfl (w.heap.size + 1 + 1) 20 (ilw b) rfl rfl 21 (ilw fun _ => 0) 80 A2.out (by omega) info_cnt (ilw_one b) ?_; intro w9 hw9; rw [← hw9] at N0 N1 N2 nb; clear hw9 A2 tok1; have q0 := N0.out.icell (k := 20) (by omega); have q2 := N2.out.cell (k := 20) (by omega); have f2 := N2.out.frozen 20; have M1 := hid (N1.out.setOther (a := ⟨w.heap.size + 1 + 1, 20, none⟩) (by simp) (.int .i64 (b 20))); have M2 := hid ((N2.out.set 20 (.int .i64 (b 20))).ext (d := ilw b) (box_last b)); have mb := nb.setCell (p := ⟨w.heap.size + 1 + 1, 20, none⟩) (by simp; omega) (.int .i64 (b 20))))
  exact bodyPost_ret (results_cell_row rfl _ _ (w.heap.size + 1) 80 (vls 21 (ilw b)) (0, 0) _ rfl (M1.out.setRow (ilw b)) Try.underlying80 rfl (by rw [vls_size]; exact info_box)) rfl ⟨rfl, below_row mb (by omega) _⟩

theorem iUnits (k : Nat) (hk : k < 20) (w : World) :
    Calls Try.prog 170 #[.int .i64 (k : Int)] w fun e w' => e = .returned (.int .i64 ((2 : Int) ^ k)) ∧ w = w' := by
  have H : k = 0 ∨ k = 1 ∨ k = 2 ∨ k = 3 ∨ k = 4 ∨ k = 5 ∨ k = 6 ∨ k = 7 ∨ k = 8 ∨ k = 9 ∨ k = 10 ∨ k = 11 ∨ k = 12 ∨ k = 13 ∨ k = 14 ∨ k = 15 ∨ k = 16 ∨ k = 17 ∨ k = 18 ∨ k = 19 := by omega
  rcases H with rfl | rfl | rfl | rfl | rfl | rfl | rfl | rfl | rfl | rfl | rfl | rfl | rfl | rfl | rfl | rfl | rfl | rfl | rfl | rfl
  all_goals
    go_enter Try.func170, Try.ntmps170
    go_wp2
    go_ret
    exact ⟨rfl, rfl⟩

theorem pow_le (k : Nat) (hk : k < 20) : (1 : Int) ≤ (2 : Int) ^ k ∧ (2 : Int) ^ k ≤ 524288 := by
  have H : k = 0 ∨ k = 1 ∨ k = 2 ∨ k = 3 ∨ k = 4 ∨ k = 5 ∨ k = 6 ∨ k = 7 ∨ k = 8 ∨ k = 9 ∨ k = 10 ∨ k = 11 ∨ k = 12 ∨ k = 13 ∨ k = 14 ∨ k = 15 ∨ k = 16 ∨ k = 17 ∨ k = 18 ∨ k = 19 := by omega
  rcases H with rfl | rfl | rfl | rfl | rfl | rfl | rfl | rfl | rfl | rfl | rfl | rfl | rfl | rfl | rfl | rfl | rfl | rfl | rfl | rfl <;> decide

theorem wrap_id {n : Int} (h1 : -9223372036854775808 ≤ n) (h2 : n ≤ 9223372036854775807) : wrap64 n = n := by
  unfold wrap64; omega

set_option maxRecDepth 100000 in
theorem iClassFor_ok (x : Nat) (ha : amtB x = true) (h1 : ONE ≤ x) (w : World) :
    Calls Try.prog 173 #[.float .f32 x] w fun e w' => e = .returned (.tuple #[.int .i64 (forF x : Int), .int .i64 0]) ∧ w = w' := by
  have Hx := hid (amt_lt ha)
  have Hf := hid (amt_fin ha)
  have ho := lt_f ha (y := 1065353216) (by decide) h1
  have Ha := hid ha
  have H1 := hid h1
  clear ha h1
  go_enter Try.func173, Try.ntmps173
  go_wp2_with fail
  go_step3
  go_wp2_with fail
  refine (isFinite_t x Hx.out Hf.out _).mono ?_
  rintro e w1 ⟨rfl, rfl⟩
  go_wp2_with fail
  go_step3
  go_wp2_with fail
  go_loop [4] (fun i => ∃ k : Nat, k ≤ 19 ∧ i = .int .i64 k ∧ Hid (k = 19 ∨ x < mass (k + 1))) (fun i => (intOf i).toNat)
  case atStart => exact ⟨19, by omega, rfl, hid (.inl rfl)⟩
  case round =>
    obtain ⟨k, hk, rfl, hm⟩ := hrel
    by_cases hlt : 0 < k
    · by_cases hle : mass k ≤ x
      · have hg := gt_f (mass_amt (k := k) (by omega)) Ha.out hle
        have hf := hid (forF_eq (by omega) hle hm.out)
        clear hle
        go_wp2_with (go_at_call 117; refine (iMass k (by omega) _).mono ?_; rintro e w' ⟨rfl, rfl⟩)
        rw [Exit.noGoto_ret]
        go_ret2
        exact ⟨by simp [hf.out], rfl⟩
      · have hgt : x < mass k := by omega
        have hg := gt_t (mass_amt (k := k) (by omega)) Ha.out hgt
        have HG := hid hgt
        clear hle hgt
        go_wp2_with (go_at_call 117; refine (iMass k (by omega) _).mono ?_; rintro e w' ⟨rfl, rfl⟩)
        go_round
        case rel => exact ⟨k - 1, by omega, by congr 1; omega, hid (.inr (by rw [show k - 1 + 1 = k by omega]; exact HG.out))⟩
        case measure => simp [intOf]; omega
    · obtain rfl : k = 0 := by omega
      have hf := hid (forF_eq (by omega) H1.out hm.out)
      go_wp2
      go_ret2
      exact ⟨by simp [hf.out], rfl⟩

set_option maxRecDepth 100000 in
theorem iWithin_t (b : Nat → Int) (h : Bx b) (w : World) :
    Calls Try.prog 174 #[.agg (vls 21 (ilw b))] w fun e w' => e = .returned (.tuple #[.agg (vls 21 (ilw b)), .int .i64 0]) ∧ Below w.heap.size w w' := by
  have A0 := hid ((vAt.new w 21 (ilw b) 80).alloc (.cells (vls 21 (ilw fun _ => 0)) 80))
  have A1 := hid (vAt.new1 w (.cells (vls 21 (ilw b)) 80) 21 (ilw fun _ => 0) 80)
  have b0 := boxed2 w (.cells (vls 21 (ilw b)) 80) (.cells (vls 21 (ilw fun _ => 0)) 80)
  have H := hid h
  clear h
  go_enter Try.func174, Try.ntmps174
  go_wp2_with (refine wpList_load_row rfl 80 _ rfl (w.heap.size) rfl 80 (vls 21 (ilw b)) (0, 0) _ A0.out Try.underlying80 rfl (by rw [vls_size]; exact info_box) ?_)
  refine (iValidBox_t b H.out _).mono ?_
  rintro e w1 ⟨rfl, hb1⟩
  have A0 := hid (A0.out.stay hb1)
  have A1 := hid (A1.out.stay hb1)
  have c0 := stp b0 (Nat.le_refl _) hb1
  go_wp2_with (first | (refine wpList_load_row rfl 80 _ rfl (w.heap.size) rfl 80 (vls 21 (ilw b)) (0, 0) _ A0.out Try.underlying80 rfl (by rw [vls_size]; exact info_box) ?_) | (refine wpList_store_row rfl 80 _ _ rfl (w.heap.size + 1) (vls 21 (ilw b)) rfl rfl 80 _ A1.out (by rw [vls_size]; exact info_box) (by simp) (vls_one (ilw_one b)) ?_))
  exact bodyPost_ret (results_row_tmp rfl _ _ (w.heap.size + 1) 80 (vls 21 (ilw b)) (0, 0) _ rfl (A1.out.setRow (ilw b)) Try.underlying80 rfl (by rw [vls_size]; exact info_box)) rfl ⟨rfl, below_row c0 (by omega) _⟩

set_option maxRecDepth 100000 in
theorem iWithin_f (b : Nat → Int) (h : ¬ Bx b) (w : World) :
    Calls Try.prog 174 #[.agg (vls 21 (ilw b))] w fun e w' => e = .returned (.tuple #[.agg (vls 21 (ilw fun _ => 0)), .int .i64 3]) ∧ Below w.heap.size w w' := by
  have A0 := hid ((vAt.new w 21 (ilw b) 80).alloc (.cells (vls 21 (ilw fun _ => 0)) 80))
  have A1 := hid (vAt.new1 w (.cells (vls 21 (ilw b)) 80) 21 (ilw fun _ => 0) 80)
  have b0 := boxed2 w (.cells (vls 21 (ilw b)) 80) (.cells (vls 21 (ilw fun _ => 0)) 80)
  have H := hid h
  clear h
  go_enter Try.func174, Try.ntmps174
  go_wp2_with (refine wpList_load_row rfl 80 _ rfl (w.heap.size) rfl 80 (vls 21 (ilw b)) (0, 0) _ A0.out Try.underlying80 rfl (by rw [vls_size]; exact info_box) ?_)
  refine (iValidBox_f b H.out _).mono ?_
  rintro e w1 ⟨rfl, hb1⟩
  have A1 := hid (A1.out.stay hb1)
  have c0 := stp b0 (Nat.le_refl _) hb1
  go_wp2_with (refine wpList_store_row rfl 80 _ _ rfl (w.heap.size + 1) (vls 21 (ilw fun _ => 0)) rfl rfl 80 _ A1.out (by rw [vls_size]; exact info_box) (by simp) (vls_one (ilw_one _)) ?_)
  exact bodyPost_ret (results_row_tmp rfl _ _ (w.heap.size + 1) 80 (vls 21 (ilw fun _ => 0)) (0, 0) _ rfl (A1.out.setRow (ilw fun _ => 0)) Try.underlying80 rfl (by rw [vls_size]; exact info_box)) rfl ⟨rfl, below_row c0 (by omega) _⟩

theorem updI_ne (b : Nat → Int) (k : Nat) (x : Int) {i : Nat} (h : i ≠ k) : updI b k x i = b i := if_neg h

theorem wrapEq (x : Int) : IntKind.i64.wrap x = wrap64 x := by rw [IntKind.wrap_i64]; unfold wrap64; first | rfl | omega

theorem wrapI {n : Int} (h1 : -9223372036854775808 ≤ n) (h2 : n ≤ 9223372036854775807) : IntKind.i64.wrap n = n := by rw [wrapEq, wrap_id h1 h2]

set_option maxRecDepth 100000 in
theorem eqCounts (b : Nat → Int) (w : World) :
    Calls Try.prog 175 #[.agg (vls 20 (ilw b)), .agg (vls 20 (ilw b))] w fun e w' => e = .returned (.bool true) ∧ Below w.heap.size w w' := by
  have A0 := hid ((vAt.new w 20 (ilw b) 78).alloc (.cells (vls 20 (ilw b)) 78))
  have A1 := hid (vAt.new1 w (.cells (vls 20 (ilw b)) 78) 20 (ilw b) 78)
  have b0 := boxed2 w (.cells (vls 20 (ilw b)) 78) (.cells (vls 20 (ilw b)) 78)
  go_enter Try.func175, Try.ntmps175
  go_wp2
  go_loopw [5] (fun i wr => ∃ k : Nat, k ≤ 20 ∧ i = .int .i64 k ∧ Hid (vAt wr w.heap.size 20 (ilw b) 78) ∧ Hid (vAt wr (w.heap.size + 1) 20 (ilw b) 78) ∧ Hid (Below w.heap.size w wr)) (fun i _ => 20 - (intOf i).toNat)
  case atStart => exact ⟨0, by omega, rfl, A0, A1, hid b0⟩
  case round =>
    obtain ⟨k, hk, rfl, h0, h1, hb⟩ := hrel
    by_cases hlt : k < 20
    · have q0 := h0.out.icell hlt
      have q1 := h1.out.icell hlt
      go_wp2_with fail
      go_quiet (fail)
      go_wp2
      go_roundw
      case rel => exact ⟨k + 1, by omega, by go_num, h0, h1, hid (below_drewN hb.out _)⟩
      case measure => simp [intOf]; omega
    · go_wp2
      go_ret
      exact ⟨rfl, hb.out⟩

set_option maxRecDepth 100000 in
theorem eqBox (b : Nat → Int) (w : World) :
    Calls Try.prog 92 #[.agg (vls 21 (ilw b)), .agg (vls 21 (ilw b))] w fun e w' => e = .returned (.bool true) ∧ Below w.heap.size w w' := by
  have A0 := hid ((vAt.new w 21 (ilw b) 80).alloc (.cells (vls 21 (ilw b)) 80))
  have A1 := hid (vAt.new1 w (.cells (vls 21 (ilw b)) 80) 21 (ilw b) 80)
  have b0 := boxed2 w (.cells (vls 21 (ilw b)) 80) (.cells (vls 21 (ilw b)) 80)
  go_enter Try.func92, Try.ntmps92
  go_wp2_with (first | (refine wpList_load_head rfl 78 _ rfl w.heap.size rfl 21 (ilw b) 80 A0.out 20 (by omega) _ Try.underlying78 rfl info_cnt ?_) | (refine wpList_load_head rfl 78 _ rfl (w.heap.size + 1) rfl 21 (ilw b) 80 A1.out 20 (by omega) _ Try.underlying78 rfl info_cnt ?_))
  refine (eqCounts b _).mono ?_
  rintro e w1 ⟨rfl, hb1⟩
  have A0 := hid (A0.out.stay hb1)
  have A1 := hid (A1.out.stay hb1)
  have c0 := stp b0 (Nat.le_refl _) hb1
  have q0 := A0.out.icell (k := 20) (by omega)
  have q1 := A1.out.icell (k := 20) (by omega)
  go_wp2
  go_ret
  exact ⟨rfl, c0⟩

theorem tk1_bnd {b : Nat → Int} (h : Bx b) {i : Nat} (hi : i < 20) {k : Nat} (hk : k < 21) : -1 ≤ tk1 b i k ∧ tk1 b i k ≤ 1000000000 := by
  unfold tk1 updI
  have h1 := h i (by omega)
  have h2 := h k hk
  unfold Cnt at h1 h2
  split <;> omega

theorem tk2_bnd {b : Nat → Int} (h : Bx b) {i j : Nat} (hi : i < 20) (hj : j < 20) {k : Nat} (hk : k < 21) : -2 ≤ tk2 b i j k ∧ tk2 b i j k ≤ 1000000000 := by
  unfold tk2
  have h1 := tk1_bnd h hi (k := j) (by omega)
  have h2 := tk1_bnd h hi hk
  unfold updI
  split <;> omega

theorem tk2_20 (b : Nat → Int) {i j : Nat} (hi : i < 20) (hj : j < 20) : tk2 b i j 20 = b 20 := by
  unfold tk2 tk1
  rw [updI_ne _ _ _ (by omega), updI_ne _ _ _ (by omega)]

theorem tk3_20 (b : Nat → Int) {i j : Nat} (hi : i < 20) (hj : j < 20) : tk3 b i j 20 = b 20 := by
  unfold tk3
  have := kl_lt hi hj
  rw [updI_ne _ _ _ (by omega), tk2_20 b hi hj]

theorem info_pair : (Try.prog.info? 89).map (·.size) = some 2 := by kernel_rfl

theorem info_lpair : (Try.prog.info? 86).map (·.size) = some 2 := by kernel_rfl

set_option maxRecDepth 100000 in
theorem iPair_bad (b : Nat → Int) (p : Nat → Int) (h : ¬ Bx b) (w : World) :
    Calls Try.prog 91 #[.agg (vls 21 (ilw b)), .agg (vls 2 (ilw p))] w fun e w' => e = .returned (.tuple #[.agg (vls 21 (ilw fun _ => 0)), .int .i64 1]) ∧ Below w.heap.size w w' := by
  have A0 := hid (((vAt.new w 21 (ilw b) 80).alloc (.cells (vls 2 (ilw p)) 89)).alloc (.cells (vls 21 (ilw fun _ => 0)) 80))
  have AP := hid ((vAt.new1 w (.cells (vls 21 (ilw b)) 80) 2 (ilw p) 89).alloc (.cells (vls 21 (ilw fun _ => 0)) 80))
  have A2 := hid (vAt.new2 w (.cells (vls 21 (ilw b)) 80) (.cells (vls 2 (ilw p)) 89) 21 (ilw fun _ => 0) 80)
  have b0 := boxed3 w (.cells (vls 21 (ilw b)) 80) (.cells (vls 2 (ilw p)) 89) (.cells (vls 21 (ilw fun _ => 0)) 80)
  have H := hid h
  clear h
  go_enter Try.func91, Try.ntmps91
  go_wp2_with (refine wpList_load_row rfl 80 _ rfl (w.heap.size) rfl 80 (vls 21 (ilw b)) (0, 0) _ A0.out Try.underlying80 rfl (by rw [vls_size]; exact info_box) ?_)
  refine (iValidBox_f b H.out _).mono ?_
  rintro e w1 ⟨rfl, hb1⟩
  have A2 := hid (A2.out.stay hb1)
  have c0 := stp b0 (Nat.le_refl _) hb1
  go_wp2_with (refine wpList_store_row rfl 80 _ _ rfl (w.heap.size + 1 + 1) (vls 21 (ilw fun _ => 0)) rfl rfl 80 _ A2.out (by rw [vls_size]; exact info_box) (by simp) (vls_one (ilw_one _)) ?_)
  exact bodyPost_ret (results_row_tmp rfl _ _ (w.heap.size + 1 + 1) 80 (vls 21 (ilw fun _ => 0)) (0, 0) _ rfl (A2.out.setRow (ilw fun _ => 0)) Try.underlying80 rfl (by rw [vls_size]; exact info_box)) rfl ⟨rfl, below_row c0 (by omega) _⟩

set_option maxRecDepth 100000 in
theorem iPair_c0 (b : Nat → Int) (p : Nat → Int) (h : Bx b) (hn : ¬ (0 ≤ p 0 ∧ p 0 < 20)) (w : World) :
    Calls Try.prog 91 #[.agg (vls 21 (ilw b)), .agg (vls 2 (ilw p))] w fun e w' => e = .returned (.tuple #[.agg (vls 21 (ilw fun _ => 0)), .int .i64 2]) ∧ Below w.heap.size w w' := by
  have A0 := hid (((vAt.new w 21 (ilw b) 80).alloc (.cells (vls 2 (ilw p)) 89)).alloc (.cells (vls 21 (ilw fun _ => 0)) 80))
  have AP := hid ((vAt.new1 w (.cells (vls 21 (ilw b)) 80) 2 (ilw p) 89).alloc (.cells (vls 21 (ilw fun _ => 0)) 80))
  have A2 := hid (vAt.new2 w (.cells (vls 21 (ilw b)) 80) (.cells (vls 2 (ilw p)) 89) 21 (ilw fun _ => 0) 80)
  have b0 := boxed3 w (.cells (vls 21 (ilw b)) 80) (.cells (vls 2 (ilw p)) 89) (.cells (vls 21 (ilw fun _ => 0)) 80)
  have HN := hid hn
  clear hn
  have H := hid h
  have p0 := AP.out.icell (k := 0) (by omega)
  clear h p0
  go_enter Try.func91, Try.ntmps91
  go_wp2_with (refine wpList_load_row rfl 80 _ rfl (w.heap.size) rfl 80 (vls 21 (ilw b)) (0, 0) _ A0.out Try.underlying80 rfl (by rw [vls_size]; exact info_box) ?_)
  refine (iValidBox_t b H.out _).mono ?_
  rintro e w1 ⟨rfl, hb1⟩
  have A0 := hid (A0.out.stay hb1)
  have AP := hid (AP.out.stay hb1)
  have A2 := hid (A2.out.stay hb1)
  have c0 := stp b0 (Nat.le_refl _) hb1
  have p0 := AP.out.icell (k := 0) (by omega)
  have p1 := AP.out.icell (k := 1) (by omega)
  go_wp2_with fail
  refine (isClass_f (p 0) HN.out _).mono ?_
  rintro e w2 ⟨rfl, rfl⟩
  go_wp2_with (refine wpList_store_row rfl 80 _ _ rfl (w.heap.size + 1 + 1) (vls 21 (ilw fun _ => 0)) rfl rfl 80 _ A2.out (by rw [vls_size]; exact info_box) (by simp) (vls_one (ilw_one _)) ?_)
  exact bodyPost_ret (results_row_tmp rfl _ _ (w.heap.size + 1 + 1) 80 (vls 21 (ilw fun _ => 0)) (0, 0) _ rfl (A2.out.setRow (ilw fun _ => 0)) Try.underlying80 rfl (by rw [vls_size]; exact info_box)) rfl ⟨rfl, below_row c0 (by omega) _⟩

set_option maxRecDepth 100000 in
theorem iPair_c1 (b : Nat → Int) (p : Nat → Int) (h : Bx b) (i : Nat) (hi : i < 20) (hp : p 0 = (i : Int)) (hn : ¬ (0 ≤ p 1 ∧ p 1 < 20)) (w : World) :
    Calls Try.prog 91 #[.agg (vls 21 (ilw b)), .agg (vls 2 (ilw p))] w fun e w' => e = .returned (.tuple #[.agg (vls 21 (ilw fun _ => 0)), .int .i64 2]) ∧ Below w.heap.size w w' := by
  have A0 := hid (((vAt.new w 21 (ilw b) 80).alloc (.cells (vls 2 (ilw p)) 89)).alloc (.cells (vls 21 (ilw fun _ => 0)) 80))
  have AP := hid ((vAt.new1 w (.cells (vls 21 (ilw b)) 80) 2 (ilw p) 89).alloc (.cells (vls 21 (ilw fun _ => 0)) 80))
  have A2 := hid (vAt.new2 w (.cells (vls 21 (ilw b)) 80) (.cells (vls 2 (ilw p)) 89) 21 (ilw fun _ => 0) 80)
  have b0 := boxed3 w (.cells (vls 21 (ilw b)) 80) (.cells (vls 2 (ilw p)) 89) (.cells (vls 21 (ilw fun _ => 0)) 80)
  have HN := hid hn
  have HI := hid hi
  have HP := hid hp
  clear hn hi hp
  have H := hid h
  have p0 := AP.out.icell (k := 0) (by omega)
  clear h p0
  go_enter Try.func91, Try.ntmps91
  go_wp2_with (refine wpList_load_row rfl 80 _ rfl (w.heap.size) rfl 80 (vls 21 (ilw b)) (0, 0) _ A0.out Try.underlying80 rfl (by rw [vls_size]; exact info_box) ?_)
  refine (iValidBox_t b H.out _).mono ?_
  rintro e w1 ⟨rfl, hb1⟩
  have A0 := hid (A0.out.stay hb1)
  have AP := hid (AP.out.stay hb1)
  have A2 := hid (A2.out.stay hb1)
  have c0 := stp b0 (Nat.le_refl _) hb1
  have p0 := AP.out.icell (k := 0) (by omega)
  have p1 := AP.out.icell (k := 1) (by omega)
  rw [HP.out] at p0
  go_wp2_with fail
  refine (isClass_t i HI.out _).mono ?_
  rintro e w2 ⟨rfl, rfl⟩
  go_wp2_with fail
  refine (isClass_f (p 1) HN.out _).mono ?_
  rintro e w3 ⟨rfl, rfl⟩
  go_wp2_with (refine wpList_store_row rfl 80 _ _ rfl (w.heap.size + 1 + 1) (vls 21 (ilw fun _ => 0)) rfl rfl 80 _ A2.out (by rw [vls_size]; exact info_box) (by simp) (vls_one (ilw_one _)) ?_)
  exact bodyPost_ret (results_row_tmp rfl _ _ (w.heap.size + 1 + 1) 80 (vls 21 (ilw fun _ => 0)) (0, 0) _ rfl (A2.out.setRow (ilw fun _ => 0)) Try.underlying80 rfl (by rw [vls_size]; exact info_box)) rfl ⟨rfl, below_row c0 (by omega) _⟩

set_option maxHeartbeats 2000000 in
set_option maxRecDepth 100000 in
theorem iPair_n0 (b : Nat → Int) (p : Nat → Int) (h : Bx b) (i j : Nat) (hi : i < 20) (hj : j < 20) (hp0 : p 0 = (i : Int)) (hp1 : p 1 = (j : Int)) (hn : tk2 b i j i < 0) (w : World) :
    Calls Try.prog 91 #[.agg (vls 21 (ilw b)), .agg (vls 2 (ilw p))] w fun e w' => e = .returned (.tuple #[.agg (vls 21 (ilw fun _ => 0)), .int .i64 6]) ∧ Below w.heap.size w w' := by
  have A0 := hid (((vAt.new w 21 (ilw b) 80).alloc (.cells (vls 2 (ilw p)) 89)).alloc (.cells (vls 21 (ilw fun _ => 0)) 80))
  have AP := hid ((vAt.new1 w (.cells (vls 21 (ilw b)) 80) 2 (ilw p) 89).alloc (.cells (vls 21 (ilw fun _ => 0)) 80))
  have A2 := hid (vAt.new2 w (.cells (vls 21 (ilw b)) 80) (.cells (vls 2 (ilw p)) 89) 21 (ilw fun _ => 0) 80)
  have b0 := boxed3 w (.cells (vls 21 (ilw b)) 80) (.cells (vls 2 (ilw p)) 89) (.cells (vls 21 (ilw fun _ => 0)) 80)
  have HI := hid hi
  have HJ := hid hj
  have HP0 := hid hp0
  have HP1 := hid hp1
  clear hi hj hp0 hp1
  have hd1 : decide (tk2 b i j i < 0) = true := decide_eq_true hn
  have H := hid h
  have p0 := AP.out.icell (k := 0) (by omega)
  clear h p0
  go_enter Try.func91, Try.ntmps91
  go_wp2_with (refine wpList_load_row rfl 80 _ rfl (w.heap.size) rfl 80 (vls 21 (ilw b)) (0, 0) _ A0.out Try.underlying80 rfl (by rw [vls_size]; exact info_box) ?_)
  refine (iValidBox_t b H.out _).mono ?_
  rintro e w1 ⟨rfl, hb1⟩
  have A0 := hid (A0.out.stay hb1)
  have AP := hid (AP.out.stay hb1)
  have A2 := hid (A2.out.stay hb1)
  have c0 := stp b0 (Nat.le_refl _) hb1
  have p0 := AP.out.icell (k := 0) (by omega)
  have p1 := AP.out.icell (k := 1) (by omega)
  rw [HP0.out] at p0
  rw [HP1.out] at p1
  go_wp2_with fail
  refine (isClass_t i HI.out _).mono ?_
  rintro e w2 ⟨rfl, rfl⟩
  go_wp2_with fail
  refine (isClass_t j HJ.out _).mono ?_
  rintro e w3 ⟨rfl, rfl⟩
  have hl := hb1.size
  simp at hl
  have HL := hid hl
  clear hl b0 hb1
  have N0 := hid (vAt.new w1 21 (ilw fun _ => 0) 80)
  have M0 := hid (N0.out.setRow (ilw b))
  have MP := hid ((AP.out.alloc (.cells (vls 21 (ilw fun _ => 0)) 80)).setRowOther (k := w1.heap.size) (Nat.ne_of_lt AP.out.lt) (vls 21 (ilw b)))
  have M2 := hid ((A2.out.alloc (.cells (vls 21 (ilw fun _ => 0)) 80)).setRowOther (k := w1.heap.size) (Nat.ne_of_lt A2.out.lt) (vls 21 (ilw b)))
  have mb := below_row (c0.alloc c0.size (.cells (vls 21 (ilw fun _ => 0)) 80)) c0.size (g := w1.heap.size) (vls 21 (ilw b))
  have tok1 : True := trivial
  go_wp2_with (first | (have _t := tok1; refine wpList_load_row rfl 80 _ rfl (w.heap.size) rfl 80 (vls 21 (ilw b)) (0, 0) _ A0.out Try.underlying80 rfl (by rw [vls_size]; exact info_box) ?_) | (have _t := tok1; refine wpList_store_row rfl 80 _ _ rfl (w1.heap.size) (vls 21 (ilw b)) rfl rfl 80 _ N0.out (by rw [vls_size]; exact info_box) (by simp) (vls_one (ilw_one b)) ?_; generalize ((w1.alloc (.cells (vls 21 (ilw fun _ => 0)) 80)).setRow w1.heap.size (vls 21 (ilw b))) = w4 at M0 MP M2 mb ⊢; clear N0 A0 A2 AP p0 p1 tok1; have hi3 : (i : Int) < 20 := (by have := HI.out; omega); have hj3 : (j : Int) < 20 := (by have := HJ.out; omega); have hw1 : wrap64 (b i - 1) = b i - 1 := (by have := H.out i (by have := HI.out; omega); unfold Cnt at this; exact wrap_id (by omega) (by omega)); have hw2 : wrap64 (tk1 b i j - 1) = tk1 b i j - 1 := (by have := tk1_bnd H.out HI.out (k := j) (by have := HJ.out; omega); exact wrap_id (by omega) (by omega)); have gi : i < 21 := (by omega); have gj : j < 21 := (by omega); have a0 := MP.out.icell (k := 0) (by omega); have a1 := MP.out.icell (k := 1) (by omega); rw [HP0.out] at a0; rw [HP1.out] at a1; have q0 := M0.out.icell (k := i) gi; have f0 := M0.out.frozen i; have X0 := hid (M0.out.iset i (b i - 1)); have XP := hid (MP.out.setOther (a := ⟨w1.heap.size, i, none⟩) (by have := HL.out; simp; omega) (.int .i64 (b i - 1))); have X2 := hid (M2.out.setOther (a := ⟨w1.heap.size, i, none⟩) (by have := HL.out; simp; omega) (.int .i64 (b i - 1))); have xb := mb.setCell (p := ⟨w1.heap.size, i, none⟩) (by have := HL.out; simp; omega) (.int .i64 (b i - 1)); have e0 := XP.out.icell (k := 0) (by omega); have e1 := XP.out.icell (k := 1) (by omega); rw [HP0.out] at e0; rw [HP1.out] at e1; have q1 : World.cell? _ ⟨w1.heap.size, j, none⟩ = some (.int .i64 (tk1 b i j)) := X0.out.icell (k := j) gj; have f1 := X0.out.frozen j; have Y0 := hid (X0.out.iset j (tk1 b i j - 1)); have YP := hid (XP.out.setOther (a := ⟨w1.heap.size, j, none⟩) (by have := HL.out; simp; omega) (.int .i64 (tk1 b i j - 1))); have Y2 := hid (X2.out.setOther (a := ⟨w1.heap.size, j, none⟩) (by have := HL.out; simp; omega) (.int .i64 (tk1 b i j - 1))); have yb := xb.setCell (p := ⟨w1.heap.size, j, none⟩) (by have := HL.out; simp; omega) (.int .i64 (tk1 b i j - 1)); have s0 := YP.out.icell (k := 0) (by omega); have s1 := YP.out.icell (k := 1) (by omega); rw [HP0.out] at s0; rw [HP1.out] at s1; have t0 : World.cell? _ ⟨w1.heap.size, i, none⟩ = some (.int .i64 (tk2 b i j i)) := Y0.out.icell (k := i) gi; have t1 : World.cell? _ ⟨w1.heap.size, j, none⟩ = some (.int .i64 (tk2 b i j j)) := Y0.out.icell (k := j) gj) | (have _t := Y2; have hl := HL.out; refine wpList_store_row rfl 80 _ _ rfl (w.heap.size + 1 + 1) (vls 21 (ilw fun _ => 0)) rfl rfl 80 _ Y2.out (by rw [vls_size]; exact info_box) (by simp) (vls_one (ilw_one _)) ?_))
  have hl := HL.out
  exact bodyPost_ret (results_row_tmp rfl _ _ (w.heap.size + 1 + 1) 80 (vls 21 (ilw fun _ => 0)) (0, 0) _ rfl (Y2.out.setRow (ilw fun _ => 0)) Try.underlying80 rfl (by rw [vls_size]; exact info_box)) rfl ⟨rfl, below_row yb (by omega) _⟩

set_option maxHeartbeats 2000000 in
set_option maxRecDepth 100000 in
theorem iPair_n1 (b : Nat → Int) (p : Nat → Int) (h : Bx b) (i j : Nat) (hi : i < 20) (hj : j < 20) (hp0 : p 0 = (i : Int)) (hp1 : p 1 = (j : Int)) (hn0 : ¬ tk2 b i j i < 0) (hn : tk2 b i j j < 0) (w : World) :
    Calls Try.prog 91 #[.agg (vls 21 (ilw b)), .agg (vls 2 (ilw p))] w fun e w' => e = .returned (.tuple #[.agg (vls 21 (ilw fun _ => 0)), .int .i64 6]) ∧ Below w.heap.size w w' := by
  have A0 := hid (((vAt.new w 21 (ilw b) 80).alloc (.cells (vls 2 (ilw p)) 89)).alloc (.cells (vls 21 (ilw fun _ => 0)) 80))
  have AP := hid ((vAt.new1 w (.cells (vls 21 (ilw b)) 80) 2 (ilw p) 89).alloc (.cells (vls 21 (ilw fun _ => 0)) 80))
  have A2 := hid (vAt.new2 w (.cells (vls 21 (ilw b)) 80) (.cells (vls 2 (ilw p)) 89) 21 (ilw fun _ => 0) 80)
  have b0 := boxed3 w (.cells (vls 21 (ilw b)) 80) (.cells (vls 2 (ilw p)) 89) (.cells (vls 21 (ilw fun _ => 0)) 80)
  have HI := hid hi
  have HJ := hid hj
  have HP0 := hid hp0
  have HP1 := hid hp1
  clear hi hj hp0 hp1
  have hd1 : decide (tk2 b i j i < 0) = false := decide_eq_false hn0
  have hd2 : decide (tk2 b i j j < 0) = true := decide_eq_true hn
  clear hn0
  have H := hid h
  have p0 := AP.out.icell (k := 0) (by omega)
  clear h p0
  go_enter Try.func91, Try.ntmps91
  go_wp2_with (refine wpList_load_row rfl 80 _ rfl (w.heap.size) rfl 80 (vls 21 (ilw b)) (0, 0) _ A0.out Try.underlying80 rfl (by rw [vls_size]; exact info_box) ?_)
  refine (iValidBox_t b H.out _).mono ?_
  rintro e w1 ⟨rfl, hb1⟩
  have A0 := hid (A0.out.stay hb1)
  have AP := hid (AP.out.stay hb1)
  have A2 := hid (A2.out.stay hb1)
  have c0 := stp b0 (Nat.le_refl _) hb1
  have p0 := AP.out.icell (k := 0) (by omega)
  have p1 := AP.out.icell (k := 1) (by omega)
  rw [HP0.out] at p0
  rw [HP1.out] at p1
  go_wp2_with fail
  refine (isClass_t i HI.out _).mono ?_
  rintro e w2 ⟨rfl, rfl⟩
  go_wp2_with fail
  refine (isClass_t j HJ.out _).mono ?_
  rintro e w3 ⟨rfl, rfl⟩
  have hl := hb1.size
  simp at hl
  have HL := hid hl
  clear hl b0 hb1
  have N0 := hid (vAt.new w1 21 (ilw fun _ => 0) 80)
  have M0 := hid (N0.out.setRow (ilw b))
  have MP := hid ((AP.out.alloc (.cells (vls 21 (ilw fun _ => 0)) 80)).setRowOther (k := w1.heap.size) (Nat.ne_of_lt AP.out.lt) (vls 21 (ilw b)))
  have M2 := hid ((A2.out.alloc (.cells (vls 21 (ilw fun _ => 0)) 80)).setRowOther (k := w1.heap.size) (Nat.ne_of_lt A2.out.lt) (vls 21 (ilw b)))
  have mb := below_row (c0.alloc c0.size (.cells (vls 21 (ilw fun _ => 0)) 80)) c0.size (g := w1.heap.size) (vls 21 (ilw b))
  have tok1 : True := trivial
  go_wp2_with (first | (have _t := tok1; refine wpList_load_row rfl 80 _ rfl (w.heap.size) rfl 80 (vls 21 (ilw b)) (0, 0) _ A0.out Try.underlying80 rfl (by rw [vls_size]; exact info_box) ?_) | (have _t := tok1; refine wpList_store_row rfl 80 _ _ rfl (w1.heap.size) (vls 21 (ilw b)) rfl rfl 80 _ N0.out (by rw [vls_size]; exact info_box) (by simp) (vls_one (ilw_one b)) ?_; generalize ((w1.alloc (.cells (vls 21 (ilw fun _ => 0)) 80)).setRow w1.heap.size (vls 21 (ilw b))) = w4 at M0 MP M2 mb ⊢; clear N0 A0 A2 AP p0 p1 tok1; have hi3 : (i : Int) < 20 := (by have := HI.out; omega); have hj3 : (j : Int) < 20 := (by have := HJ.out; omega); have hw1 : wrap64 (b i - 1) = b i - 1 := (by have := H.out i (by have := HI.out; omega); unfold Cnt at this; exact wrap_id (by omega) (by omega)); have hw2 : wrap64 (tk1 b i j - 1) = tk1 b i j - 1 := (by have := tk1_bnd H.out HI.out (k := j) (by have := HJ.out; omega); exact wrap_id (by omega) (by omega)); have gi : i < 21 := (by omega); have gj : j < 21 := (by omega); have a0 := MP.out.icell (k := 0) (by omega); have a1 := MP.out.icell (k := 1) (by omega); rw [HP0.out] at a0; rw [HP1.out] at a1; have q0 := M0.out.icell (k := i) gi; have f0 := M0.out.frozen i; have X0 := hid (M0.out.iset i (b i - 1)); have XP := hid (MP.out.setOther (a := ⟨w1.heap.size, i, none⟩) (by have := HL.out; simp; omega) (.int .i64 (b i - 1))); have X2 := hid (M2.out.setOther (a := ⟨w1.heap.size, i, none⟩) (by have := HL.out; simp; omega) (.int .i64 (b i - 1))); have xb := mb.setCell (p := ⟨w1.heap.size, i, none⟩) (by have := HL.out; simp; omega) (.int .i64 (b i - 1)); have e0 := XP.out.icell (k := 0) (by omega); have e1 := XP.out.icell (k := 1) (by omega); rw [HP0.out] at e0; rw [HP1.out] at e1; have q1 : World.cell? _ ⟨w1.heap.size, j, none⟩ = some (.int .i64 (tk1 b i j)) := X0.out.icell (k := j) gj; have f1 := X0.out.frozen j; have Y0 := hid (X0.out.iset j (tk1 b i j - 1)); have YP := hid (XP.out.setOther (a := ⟨w1.heap.size, j, none⟩) (by have := HL.out; simp; omega) (.int .i64 (tk1 b i j - 1))); have Y2 := hid (X2.out.setOther (a := ⟨w1.heap.size, j, none⟩) (by have := HL.out; simp; omega) (.int .i64 (tk1 b i j - 1))); have yb := xb.setCell (p := ⟨w1.heap.size, j, none⟩) (by have := HL.out; simp; omega) (.int .i64 (tk1 b i j - 1)); have s0 := YP.out.icell (k := 0) (by omega); have s1 := YP.out.icell (k := 1) (by omega); rw [HP0.out] at s0; rw [HP1.out] at s1; have t0 : World.cell? _ ⟨w1.heap.size, i, none⟩ = some (.int .i64 (tk2 b i j i)) := Y0.out.icell (k := i) gi; have t1 : World.cell? _ ⟨w1.heap.size, j, none⟩ = some (.int .i64 (tk2 b i j j)) := Y0.out.icell (k := j) gj) | (have _t := Y2; have hl := HL.out; refine wpList_store_row rfl 80 _ _ rfl (w.heap.size + 1 + 1) (vls 21 (ilw fun _ => 0)) rfl rfl 80 _ Y2.out (by rw [vls_size]; exact info_box) (by simp) (vls_one (ilw_one _)) ?_))
  have hl := HL.out
  exact bodyPost_ret (results_row_tmp rfl _ _ (w.heap.size + 1 + 1) 80 (vls 21 (ilw fun _ => 0)) (0, 0) _ rfl (Y2.out.setRow (ilw fun _ => 0)) Try.underlying80 rfl (by rw [vls_size]; exact info_box)) rfl ⟨rfl, below_row yb (by omega) _⟩

set_option maxHeartbeats 4000000 in
set_option maxRecDepth 100000 in
theorem iPair_ok (b : Nat → Int) (p : Nat → Int) (h : Bx b) (i j : Nat) (hi : i < 20) (hj : j < 20) (hp0 : p 0 = (i : Int)) (hp1 : p 1 = (j : Int)) (hn0 : ¬ tk2 b i j i < 0) (hn : ¬ tk2 b i j j < 0) (r : Nat → Int) (q : Int) (hr : ∀ w, Calls Try.prog 174 #[.agg (vls 21 (ilw (tk4 b i j)))] w fun e w' => e = .returned (.tuple #[.agg (vls 21 (ilw r)), .int .i64 q]) ∧ Below w.heap.size w w') (w : World) :
    Calls Try.prog 91 #[.agg (vls 21 (ilw b)), .agg (vls 2 (ilw p))] w fun e w' => e = .returned (.tuple #[.agg (vls 21 (ilw r)), .int .i64 q]) ∧ Below w.heap.size w w' := by
  have A0 := hid (((vAt.new w 21 (ilw b) 80).alloc (.cells (vls 2 (ilw p)) 89)).alloc (.cells (vls 21 (ilw fun _ => 0)) 80))
  have AP := hid ((vAt.new1 w (.cells (vls 21 (ilw b)) 80) 2 (ilw p) 89).alloc (.cells (vls 21 (ilw fun _ => 0)) 80))
  have A2 := hid (vAt.new2 w (.cells (vls 21 (ilw b)) 80) (.cells (vls 2 (ilw p)) 89) 21 (ilw fun _ => 0) 80)
  have b0 := boxed3 w (.cells (vls 21 (ilw b)) 80) (.cells (vls 2 (ilw p)) 89) (.cells (vls 21 (ilw fun _ => 0)) 80)
  have HI := hid hi
  have HJ := hid hj
  have HP0 := hid hp0
  have HP1 := hid hp1
  clear hi hj hp0 hp1
  have HR := hid hr
  clear hr
  have hd1 : decide (tk2 b i j i < 0) = false := decide_eq_false hn0
  have hd2 : decide (tk2 b i j j < 0) = false := decide_eq_false hn
  clear hn0 hn
  have H := hid h
  have p0 := AP.out.icell (k := 0) (by omega)
  clear h p0
  go_enter Try.func91, Try.ntmps91
  go_wp2_with (refine wpList_load_row rfl 80 _ rfl (w.heap.size) rfl 80 (vls 21 (ilw b)) (0, 0) _ A0.out Try.underlying80 rfl (by rw [vls_size]; exact info_box) ?_)
  refine (iValidBox_t b H.out _).mono ?_
  rintro e w1 ⟨rfl, hb1⟩
  have A0 := hid (A0.out.stay hb1)
  have AP := hid (AP.out.stay hb1)
  have A2 := hid (A2.out.stay hb1)
  have c0 := stp b0 (Nat.le_refl _) hb1
  have p0 := AP.out.icell (k := 0) (by omega)
  have p1 := AP.out.icell (k := 1) (by omega)
  rw [HP0.out] at p0
  rw [HP1.out] at p1
  go_wp2_with fail
  refine (isClass_t i HI.out _).mono ?_
  rintro e w2 ⟨rfl, rfl⟩
  go_wp2_with fail
  refine (isClass_t j HJ.out _).mono ?_
  rintro e w3 ⟨rfl, rfl⟩
  have hl := hb1.size
  simp at hl
  have HL := hid hl
  clear hl b0 hb1
  have N0 := hid (vAt.new w1 21 (ilw fun _ => 0) 80)
  have M0 := hid (N0.out.setRow (ilw b))
  have MP := hid ((AP.out.alloc (.cells (vls 21 (ilw fun _ => 0)) 80)).setRowOther (k := w1.heap.size) (Nat.ne_of_lt AP.out.lt) (vls 21 (ilw b)))
  have M2 := hid ((A2.out.alloc (.cells (vls 21 (ilw fun _ => 0)) 80)).setRowOther (k := w1.heap.size) (Nat.ne_of_lt A2.out.lt) (vls 21 (ilw b)))
  have mb := below_row (c0.alloc c0.size (.cells (vls 21 (ilw fun _ => 0)) 80)) c0.size (g := w1.heap.size) (vls 21 (ilw b))
  have tok1 : True := trivial
  go_wp2_with (first | (have _t := tok1; refine wpList_load_row rfl 80 _ rfl (w.heap.size) rfl 80 (vls 21 (ilw b)) (0, 0) _ A0.out Try.underlying80 rfl (by rw [vls_size]; exact info_box) ?_) | (have _t := tok1; refine wpList_store_row rfl 80 _ _ rfl (w1.heap.size) (vls 21 (ilw b)) rfl rfl 80 _ N0.out (by rw [vls_size]; exact info_box) (by simp) (vls_one (ilw_one b)) ?_; generalize ((w1.alloc (.cells (vls 21 (ilw fun _ => 0)) 80)).setRow w1.heap.size (vls 21 (ilw b))) = w4 at M0 MP M2 mb ⊢; clear N0 A0 A2 AP p0 p1 tok1; have hi3 : (i : Int) < 20 := (by have := HI.out; omega); have hj3 : (j : Int) < 20 := (by have := HJ.out; omega); have hw1 : wrap64 (b i - 1) = b i - 1 := (by have := H.out i (by have := HI.out; omega); unfold Cnt at this; exact wrap_id (by omega) (by omega)); have hw2 : wrap64 (tk1 b i j - 1) = tk1 b i j - 1 := (by have := tk1_bnd H.out HI.out (k := j) (by have := HJ.out; omega); exact wrap_id (by omega) (by omega)); have gi : i < 21 := (by omega); have gj : j < 21 := (by omega); have a0 := MP.out.icell (k := 0) (by omega); have a1 := MP.out.icell (k := 1) (by omega); rw [HP0.out] at a0; rw [HP1.out] at a1; have q0 := M0.out.icell (k := i) gi; have f0 := M0.out.frozen i; have X0 := hid (M0.out.iset i (b i - 1)); have XP := hid (MP.out.setOther (a := ⟨w1.heap.size, i, none⟩) (by have := HL.out; simp; omega) (.int .i64 (b i - 1))); have X2 := hid (M2.out.setOther (a := ⟨w1.heap.size, i, none⟩) (by have := HL.out; simp; omega) (.int .i64 (b i - 1))); have xb := mb.setCell (p := ⟨w1.heap.size, i, none⟩) (by have := HL.out; simp; omega) (.int .i64 (b i - 1)); have e0 := XP.out.icell (k := 0) (by omega); have e1 := XP.out.icell (k := 1) (by omega); rw [HP0.out] at e0; rw [HP1.out] at e1; have q1 : World.cell? _ ⟨w1.heap.size, j, none⟩ = some (.int .i64 (tk1 b i j)) := X0.out.icell (k := j) gj; have f1 := X0.out.frozen j; have Y0 := hid (X0.out.iset j (tk1 b i j - 1)); have YP := hid (XP.out.setOther (a := ⟨w1.heap.size, j, none⟩) (by have := HL.out; simp; omega) (.int .i64 (tk1 b i j - 1))); have Y2 := hid (X2.out.setOther (a := ⟨w1.heap.size, j, none⟩) (by have := HL.out; simp; omega) (.int .i64 (tk1 b i j - 1))); have yb := xb.setCell (p := ⟨w1.heap.size, j, none⟩) (by have := HL.out; simp; omega) (.int .i64 (tk1 b i j - 1)); have s0 := YP.out.icell (k := 0) (by omega); have s1 := YP.out.icell (k := 1) (by omega); rw [HP0.out] at s0; rw [HP1.out] at s1; have t0 : World.cell? _ ⟨w1.heap.size, i, none⟩ = some (.int .i64 (tk2 b i j i)) := Y0.out.icell (k := i) gi; have t1 : World.cell? _ ⟨w1.heap.size, j, none⟩ = some (.int .i64 (tk2 b i j j)) := Y0.out.icell (k := j) gj))

  clear hw1 hw2 a0 a1 q0 f0 X0 XP X2 xb e0 e1 q1 f1 t0 t1 M0 MP M2 mb hd1 hd2 s0 s1
  generalize ((w4.setCell ⟨w1.heap.size, i, none⟩ (.int .i64 (b i - 1))).setCell ⟨w1.heap.size, j, none⟩ (.int .i64 (tk1 b i j - 1))) = w5 at Y0 YP Y2 yb ⊢
  have s0 := YP.out.icell (k := 0) (by omega)
  have s1 := YP.out.icell (k := 1) (by omega)
  rw [HP0.out] at s0
  rw [HP1.out] at s1
  go_quiet ((first | (go_at_call 170; exact Calls.quiet_of_same (back (iUnits i HI.out _))) | (go_at_call 170; exact Calls.quiet_of_same (back (iUnits j HJ.out _)))))
  have hi := HI.out
  have hj := HJ.out
  obtain ⟨m1, m2, m3, m4, m5, _⟩ := wm_facts hi hj
  have hk := kl_lt hi hj
  have HK := hid hk
  have hk3 : (kl i j : Int) < 20 := by omega
  have Y0 : Hid (vAt (w5.drewN nq) w1.heap.size 21 (ilw (tk2 b i j)) 80) := Y0
  have Y2 : Hid (vAt (w5.drewN nq) (w.heap.size + 1 + 1) 21 (ilw fun _ => 0) 80) := Y2
  have yb := below_drewN yb nq
  rw [show wrap64 ((2 : Int) ^ i + (2 : Int) ^ j) = ms i j by have := pow_le i hi; have := pow_le j hj; exact wrap_id (by omega) (by omega)]
  clear s0 s1 YP
  generalize w5.drewN nq = w6 at Y0 Y2 yb ⊢
  have q0 := Y0.out.icell (k := kl i j) (by omega)
  have f0 := Y0.out.frozen (kl i j)
  have hb2 := tk2_bnd H.out hi hj (k := kl i j) (by omega)
  have M5 := hid (And.intro m4 m5)
  go_wp2_with fail
  refine (iClassFor_ok (wm i j) m1 m2 _).mono ?_
  rintro e w7 ⟨rfl, rfl⟩
  rw [m3]
  clear m1 m2 m3 m4 m5 hi hj
  have hw : wrap64 (tk2 b i j (kl i j) + 1) = tk2 b i j (kl i j) + 1 := wrap_id (by omega) (by omega)
  clear hb2
  have Z0 := hid (Y0.out.iset (kl i j) (tk2 b i j (kl i j) + 1))
  have Z2 := hid (Y2.out.setOther (a := ⟨w1.heap.size, kl i j, none⟩) (by have := HL.out; simp; omega) (.int .i64 (tk2 b i j (kl i j) + 1)))
  have zb := yb.setCell (p := ⟨w1.heap.size, kl i j, none⟩) (by have := HL.out; simp; omega) (.int .i64 (tk2 b i j (kl i j) + 1))
  go_wp2_with fail
  clear q0 f0 Y0 Y2 yb
  generalize w6.setCell ⟨w1.heap.size, kl i j, none⟩ (.int .i64 (tk2 b i j (kl i j) + 1)) = w8 at Z0 Z2 zb ⊢
  have Z0 : Hid (vAt w8.drew w1.heap.size 21 (ilw (tk3 b i j)) 80) := hid Z0.out.drew
  have Z2 := hid Z2.out.drew
  have zb := zb.drew
  refine wp_region_still_tail 8 (by kernel_rfl) (by kernel_rfl) ?_
  change wpStill _ _ w8.drew (fun a' => wpList _ _ _ _ a' w8.drew) _ _
  simp only [List.take_succ_cons, List.take_zero, List.drop_succ_cons, List.drop_zero]
  generalize w8.drew = w9 at Z0 Z2 zb ⊢
  have q3 := Z0.out.icell (k := 20) (by omega)
  have f3 := Z0.out.frozen 20
  repeat still_step
  still_call (back (iUnits (kl i j) HK.out _))
  repeat still_step
  refine wpStill_nil ?_
  have he : IntKind.i64.wrap (tk3 b i j 20 + IntKind.i64.wrap (ms i j - (2 : Int) ^ kl i j)) = tk3 b i j 20 + (ms i j - (2 : Int) ^ kl i j) := by
    have h20 := H.out 20 (by omega)
    unfold Cnt at h20
    rw [tk3_20 b HI.out HJ.out]
    have := M5.out
    have := pow_le (kl i j) HK.out
    rw [wrapI (n := ms i j - (2 : Int) ^ kl i j) (by omega) (by omega)]
    exact wrapI (by omega) (by omega)
  rw [he]
  have T0 : Hid (vAt (w9.setCell ⟨w1.heap.size, 20, none⟩ (.int .i64 (tk3 b i j 20 + (ms i j - (2 : Int) ^ kl i j)))) w1.heap.size 21 (ilw (tk4 b i j)) 80) := hid (Z0.out.iset 20 (tk3 b i j 20 + (ms i j - (2 : Int) ^ kl i j)))
  have T2 := hid (Z2.out.setOther (a := ⟨w1.heap.size, 20, none⟩) (by have := HL.out; simp; omega) (.int .i64 (tk3 b i j 20 + (ms i j - (2 : Int) ^ kl i j))))
  have tb := zb.setCell (p := ⟨w1.heap.size, 20, none⟩) (by have := HL.out; simp; omega) (.int .i64 (tk3 b i j 20 + (ms i j - (2 : Int) ^ kl i j)))
  clear he Z0 Z2 zb
  go_wp2_with (refine wpList_load_row rfl 80 _ rfl (w1.heap.size) rfl 80 (vls 21 (ilw (tk4 b i j))) (0, 0) _ T0.out Try.underlying80 rfl (by rw [vls_size]; exact info_box) ?_)
  refine (HR.out _).mono ?_
  rintro e w10 ⟨rfl, hb10⟩
  have K2 := hid (T2.out.stay hb10)
  have kb := stp tb (Nat.le_refl _) hb10
  go_wp2_with (refine wpList_store_row rfl 80 _ _ rfl (w.heap.size + 1 + 1) (vls 21 (ilw r)) rfl rfl 80 _ K2.out (by rw [vls_size]; exact info_box) (by simp) (vls_one (ilw_one _)) ?_)
  have hl := HL.out
  exact bodyPost_ret (results_row_tmp rfl _ _ (w.heap.size + 1 + 1) 80 (vls 21 (ilw r)) (0, 0) _ rfl (K2.out.setRow (ilw r)) Try.underlying80 rfl (by rw [vls_size]; exact info_box)) rfl ⟨rfl, below_row kb (by omega) _⟩

set_option maxRecDepth 100000 in
theorem sWhole (K : Nat) (hK : K < 20) (m : Int) (h1 : (2 : Int) ^ K ≤ m) (h2 : m ≤ 1048576) (h3 : K = 19 ∨ m < (2 : Int) ^ (K + 1)) (w : World) :
    Calls Try.prog 209 #[.int .i64 m] w fun e w' => e = .returned (.int .i64 (K : Int)) ∧ w = w' := by
  have HK := hid hK
  have H1 := hid h1
  have H3 := hid h3
  clear hK h1 h3
  go_enter Try.func209, Try.ntmps209
  go_wp2
  go_loop [3] (fun i => ∃ k : Nat, k ≤ K ∧ i = .int .i64 k) (fun i => 20 - (intOf i).toNat)
  case atStart => exact ⟨0, by omega, rfl⟩
  case round =>
    obtain ⟨k, hk, rfl⟩ := hrel
    have hkk := HK.out
    by_cases hlt : k < 19
    · have hp := pow_le (k + 1) (by omega)
      have hw : wrap64 ((2 : Int) ^ (k + 1)) = (2 : Int) ^ (k + 1) := wrap_id (by omega) (by omega)
      clear hp
      have hd : decide ((k : Int) < 19) = true := decide_eq_true (by omega)
      by_cases hkK : k = K
      · have hd2 : ¬ (2 : Int) ^ (k + 1) ≤ m := by rcases H3.out with h | h <;> rw [hkK] <;> omega
        have HE := hid hkK
        clear hkK
        go_wp2
        go_ret
        exact ⟨by rw [HE.out]; rfl, rfl⟩
      · have hd2 : (2 : Int) ^ (k + 1) ≤ m := by
          have h1 := H1.out
          have h2 : (2 : Int) ^ (k + 1) ≤ (2 : Int) ^ K := by
            have := Nat.pow_le_pow_right (n := 2) (by decide) (show k + 1 ≤ K by omega)
            exact_mod_cast this
          omega
        go_wp2
        go_round
        case rel => exact ⟨k + 1, by omega, by go_num⟩
        case measure => simp [intOf]; omega
    · have hd : decide ((k : Int) < 19) = false := decide_eq_false (by omega)
      have HE := hid (show k = K by omega)
      go_wp2
      go_ret
      exact ⟨by rw [HE.out]; rfl, rfl⟩

set_option maxHeartbeats 2000000 in
set_option maxRecDepth 100000 in
theorem sP_c0 (b : Nat → Int) (p : Nat → Int) (hn : ¬ (0 ≤ p 0 ∧ p 0 < 20)) (w : World) (gp : Nat) (T : TypeId) (hg : vAt w gp 2 (ilw p) T) :
    Calls Try.prog 171 #[.agg (vls 21 (ilw b)), .pointer (some ⟨gp, 0, none⟩)] w fun e w' => e = .returned (.tuple #[.agg (vls 21 (ilw fun _ => 0)), .int .i64 2]) ∧ Below w.heap.size w w' := by
  have A0 := hid ((vAt.new w 21 (ilw b) 80).alloc (.cells (vls 21 (ilw fun _ => 0)) 80))
  have A2 := hid (vAt.new1 w (.cells (vls 21 (ilw b)) 80) 21 (ilw fun _ => 0) 80)
  have AP := hid ((hg.alloc (.cells (vls 21 (ilw b)) 80)).alloc (.cells (vls 21 (ilw fun _ => 0)) 80))
  have b0 := boxed2 w (.cells (vls 21 (ilw b)) 80) (.cells (vls 21 (ilw fun _ => 0)) 80)
  have HG := hid hg.lt
  clear hg
  have p0 := AP.out.icell (k := 0) (by omega)
  have p1 := AP.out.icell (k := 1) (by omega)
  have HN := hid hn
  clear hn
  go_enter Try.func171, Try.ntmps171
  go_wp2_with fail
  refine (sClass_f (p 0) HN.out _).mono ?_
  rintro e w2 ⟨rfl, rfl⟩
  go_wp2_with (refine wpList_store_row rfl 80 _ _ rfl (w.heap.size + 1) (vls 21 (ilw fun _ => 0)) rfl rfl 80 _ A2.out (by rw [vls_size]; exact info_box) (by simp) (vls_one (ilw_one _)) ?_)
  exact bodyPost_ret (results_row_tmp rfl _ _ (w.heap.size + 1) 80 (vls 21 (ilw fun _ => 0)) (0, 0) _ rfl (A2.out.setRow (ilw fun _ => 0)) Try.underlying80 rfl (by rw [vls_size]; exact info_box)) rfl ⟨rfl, below_row b0 (by omega) _⟩

set_option maxHeartbeats 2000000 in
set_option maxRecDepth 100000 in
theorem sP_c1 (b : Nat → Int) (p : Nat → Int) (i : Nat) (hi : i < 20) (hp : p 0 = (i : Int)) (hn : ¬ (0 ≤ p 1 ∧ p 1 < 20)) (w : World) (gp : Nat) (T : TypeId) (hg : vAt w gp 2 (ilw p) T) :
    Calls Try.prog 171 #[.agg (vls 21 (ilw b)), .pointer (some ⟨gp, 0, none⟩)] w fun e w' => e = .returned (.tuple #[.agg (vls 21 (ilw fun _ => 0)), .int .i64 2]) ∧ Below w.heap.size w w' := by
  have A0 := hid ((vAt.new w 21 (ilw b) 80).alloc (.cells (vls 21 (ilw fun _ => 0)) 80))
  have A2 := hid (vAt.new1 w (.cells (vls 21 (ilw b)) 80) 21 (ilw fun _ => 0) 80)
  have AP := hid ((hg.alloc (.cells (vls 21 (ilw b)) 80)).alloc (.cells (vls 21 (ilw fun _ => 0)) 80))
  have b0 := boxed2 w (.cells (vls 21 (ilw b)) 80) (.cells (vls 21 (ilw fun _ => 0)) 80)
  have HG := hid hg.lt
  clear hg
  have p0 := AP.out.icell (k := 0) (by omega)
  have p1 := AP.out.icell (k := 1) (by omega)
  have HN := hid hn
  have HI := hid hi
  rw [hp] at p0
  clear hn hi hp
  go_enter Try.func171, Try.ntmps171
  go_wp2_with fail
  refine (sClass_t i HI.out _).mono ?_
  rintro e w2 ⟨rfl, rfl⟩
  go_wp2_with fail
  refine (sClass_f (p 1) HN.out _).mono ?_
  rintro e w3 ⟨rfl, rfl⟩
  go_wp2_with (refine wpList_store_row rfl 80 _ _ rfl (w.heap.size + 1) (vls 21 (ilw fun _ => 0)) rfl rfl 80 _ A2.out (by rw [vls_size]; exact info_box) (by simp) (vls_one (ilw_one _)) ?_)
  exact bodyPost_ret (results_row_tmp rfl _ _ (w.heap.size + 1) 80 (vls 21 (ilw fun _ => 0)) (0, 0) _ rfl (A2.out.setRow (ilw fun _ => 0)) Try.underlying80 rfl (by rw [vls_size]; exact info_box)) rfl ⟨rfl, below_row b0 (by omega) _⟩

set_option maxHeartbeats 2000000 in
set_option maxRecDepth 100000 in
theorem sP_n0 (b : Nat → Int) (p : Nat → Int) (h : Bx b) (i j : Nat) (hi : i < 20) (hj : j < 20) (hp0 : p 0 = (i : Int)) (hp1 : p 1 = (j : Int)) (hn : tk2 b i j i < 0) (w : World) (gp : Nat) (T : TypeId) (hg : vAt w gp 2 (ilw p) T) :
    Calls Try.prog 171 #[.agg (vls 21 (ilw b)), .pointer (some ⟨gp, 0, none⟩)] w fun e w' => e = .returned (.tuple #[.agg (vls 21 (ilw fun _ => 0)), .int .i64 6]) ∧ Below w.heap.size w w' := by
  have A0 := hid ((vAt.new w 21 (ilw b) 80).alloc (.cells (vls 21 (ilw fun _ => 0)) 80))
  have A2 := hid (vAt.new1 w (.cells (vls 21 (ilw b)) 80) 21 (ilw fun _ => 0) 80)
  have AP := hid ((hg.alloc (.cells (vls 21 (ilw b)) 80)).alloc (.cells (vls 21 (ilw fun _ => 0)) 80))
  have b0 := boxed2 w (.cells (vls 21 (ilw b)) 80) (.cells (vls 21 (ilw fun _ => 0)) 80)
  have HG := hid hg.lt
  clear hg
  have p0 := AP.out.icell (k := 0) (by omega)
  have p1 := AP.out.icell (k := 1) (by omega)
  have hd1 : decide (tk2 b i j i < 0) = true := decide_eq_true hn
  have HI := hid hi
  have HJ := hid hj
  have HP0 := hid hp0
  have HP1 := hid hp1
  have H := hid h
  clear h hi hj hp0 hp1
  rw [HP0.out] at p0
  rw [HP1.out] at p1
  go_enter Try.func171, Try.ntmps171
  go_wp2_with fail
  refine (sClass_t i HI.out _).mono ?_
  rintro e w2 ⟨rfl, rfl⟩
  go_wp2_with fail
  refine (sClass_t j HJ.out _).mono ?_
  rintro e w3 ⟨rfl, rfl⟩
  generalize ((w.alloc (.cells (vls 21 (ilw b)) 80)).alloc (.cells (vls 21 (ilw fun _ => 0)) 80)) = w4 at A0 A2 AP b0 p0 p1 ⊢
  have hi3 : (i : Int) < 20 := (by have := HI.out; omega)
  have hj3 : (j : Int) < 20 := (by have := HJ.out; omega)
  have hw1 : wrap64 (b i - 1) = b i - 1 := (by have := H.out i (by have := HI.out; omega); unfold Cnt at this; exact wrap_id (by omega) (by omega))
  have hw2 : wrap64 (tk1 b i j - 1) = tk1 b i j - 1 := (by have := tk1_bnd H.out HI.out (k := j) (by have := HJ.out; omega); exact wrap_id (by omega) (by omega))
  have gi : i < 21 := (by omega)
  have gj : j < 21 := (by omega)
  have q0 := A0.out.icell (k := i) gi
  have f0 := A0.out.frozen i
  have X0 := hid (A0.out.iset i (b i - 1))
  have XP := hid (AP.out.setOther (a := ⟨w.heap.size, i, none⟩) (by have := HG.out; simp; omega) (.int .i64 (b i - 1)))
  have X2 := hid (A2.out.setOther (a := ⟨w.heap.size, i, none⟩) (by simp) (.int .i64 (b i - 1)))
  have xb := b0.setCell (p := ⟨w.heap.size, i, none⟩) (Nat.le_refl _) (.int .i64 (b i - 1))
  have e0 := XP.out.icell (k := 0) (by omega)
  have e1 := XP.out.icell (k := 1) (by omega)
  rw [HP0.out] at e0
  rw [HP1.out] at e1
  have q1 : World.cell? _ ⟨w.heap.size, j, none⟩ = some (.int .i64 (tk1 b i j)) := X0.out.icell (k := j) gj
  have f1 := X0.out.frozen j
  have Y0 := hid (X0.out.iset j (tk1 b i j - 1))
  have YP := hid (XP.out.setOther (a := ⟨w.heap.size, j, none⟩) (by have := HG.out; simp; omega) (.int .i64 (tk1 b i j - 1)))
  have Y2 := hid (X2.out.setOther (a := ⟨w.heap.size, j, none⟩) (by simp) (.int .i64 (tk1 b i j - 1)))
  have yb := xb.setCell (p := ⟨w.heap.size, j, none⟩) (Nat.le_refl _) (.int .i64 (tk1 b i j - 1))
  have s0 := YP.out.icell (k := 0) (by omega)
  have s1 := YP.out.icell (k := 1) (by omega)
  rw [HP0.out] at s0
  rw [HP1.out] at s1
  have t0 : World.cell? _ ⟨w.heap.size, i, none⟩ = some (.int .i64 (tk2 b i j i)) := Y0.out.icell (k := i) gi
  have t1 : World.cell? _ ⟨w.heap.size, j, none⟩ = some (.int .i64 (tk2 b i j j)) := Y0.out.icell (k := j) gj
  go_wp2_with (refine wpList_store_row rfl 80 _ _ rfl (w.heap.size + 1) (vls 21 (ilw fun _ => 0)) rfl rfl 80 _ Y2.out (by rw [vls_size]; exact info_box) (by simp) (vls_one (ilw_one _)) ?_)
  exact bodyPost_ret (results_row_tmp rfl _ _ (w.heap.size + 1) 80 (vls 21 (ilw fun _ => 0)) (0, 0) _ rfl (Y2.out.setRow (ilw fun _ => 0)) Try.underlying80 rfl (by rw [vls_size]; exact info_box)) rfl ⟨rfl, below_row yb (by omega) _⟩

set_option maxHeartbeats 2000000 in
set_option maxRecDepth 100000 in
theorem sP_n1 (b : Nat → Int) (p : Nat → Int) (h : Bx b) (i j : Nat) (hi : i < 20) (hj : j < 20) (hp0 : p 0 = (i : Int)) (hp1 : p 1 = (j : Int)) (hn0 : ¬ tk2 b i j i < 0) (hn : tk2 b i j j < 0) (w : World) (gp : Nat) (T : TypeId) (hg : vAt w gp 2 (ilw p) T) :
    Calls Try.prog 171 #[.agg (vls 21 (ilw b)), .pointer (some ⟨gp, 0, none⟩)] w fun e w' => e = .returned (.tuple #[.agg (vls 21 (ilw fun _ => 0)), .int .i64 6]) ∧ Below w.heap.size w w' := by
  have A0 := hid ((vAt.new w 21 (ilw b) 80).alloc (.cells (vls 21 (ilw fun _ => 0)) 80))
  have A2 := hid (vAt.new1 w (.cells (vls 21 (ilw b)) 80) 21 (ilw fun _ => 0) 80)
  have AP := hid ((hg.alloc (.cells (vls 21 (ilw b)) 80)).alloc (.cells (vls 21 (ilw fun _ => 0)) 80))
  have b0 := boxed2 w (.cells (vls 21 (ilw b)) 80) (.cells (vls 21 (ilw fun _ => 0)) 80)
  have HG := hid hg.lt
  clear hg
  have p0 := AP.out.icell (k := 0) (by omega)
  have p1 := AP.out.icell (k := 1) (by omega)
  have hd1 : decide (tk2 b i j i < 0) = false := decide_eq_false hn0
  have hd2 : decide (tk2 b i j j < 0) = true := decide_eq_true hn
  clear hn0
  have HI := hid hi
  have HJ := hid hj
  have HP0 := hid hp0
  have HP1 := hid hp1
  have H := hid h
  clear h hi hj hp0 hp1
  rw [HP0.out] at p0
  rw [HP1.out] at p1
  go_enter Try.func171, Try.ntmps171
  go_wp2_with fail
  refine (sClass_t i HI.out _).mono ?_
  rintro e w2 ⟨rfl, rfl⟩
  go_wp2_with fail
  refine (sClass_t j HJ.out _).mono ?_
  rintro e w3 ⟨rfl, rfl⟩
  generalize ((w.alloc (.cells (vls 21 (ilw b)) 80)).alloc (.cells (vls 21 (ilw fun _ => 0)) 80)) = w4 at A0 A2 AP b0 p0 p1 ⊢
  have hi3 : (i : Int) < 20 := (by have := HI.out; omega)
  have hj3 : (j : Int) < 20 := (by have := HJ.out; omega)
  have hw1 : wrap64 (b i - 1) = b i - 1 := (by have := H.out i (by have := HI.out; omega); unfold Cnt at this; exact wrap_id (by omega) (by omega))
  have hw2 : wrap64 (tk1 b i j - 1) = tk1 b i j - 1 := (by have := tk1_bnd H.out HI.out (k := j) (by have := HJ.out; omega); exact wrap_id (by omega) (by omega))
  have gi : i < 21 := (by omega)
  have gj : j < 21 := (by omega)
  have q0 := A0.out.icell (k := i) gi
  have f0 := A0.out.frozen i
  have X0 := hid (A0.out.iset i (b i - 1))
  have XP := hid (AP.out.setOther (a := ⟨w.heap.size, i, none⟩) (by have := HG.out; simp; omega) (.int .i64 (b i - 1)))
  have X2 := hid (A2.out.setOther (a := ⟨w.heap.size, i, none⟩) (by simp) (.int .i64 (b i - 1)))
  have xb := b0.setCell (p := ⟨w.heap.size, i, none⟩) (Nat.le_refl _) (.int .i64 (b i - 1))
  have e0 := XP.out.icell (k := 0) (by omega)
  have e1 := XP.out.icell (k := 1) (by omega)
  rw [HP0.out] at e0
  rw [HP1.out] at e1
  have q1 : World.cell? _ ⟨w.heap.size, j, none⟩ = some (.int .i64 (tk1 b i j)) := X0.out.icell (k := j) gj
  have f1 := X0.out.frozen j
  have Y0 := hid (X0.out.iset j (tk1 b i j - 1))
  have YP := hid (XP.out.setOther (a := ⟨w.heap.size, j, none⟩) (by have := HG.out; simp; omega) (.int .i64 (tk1 b i j - 1)))
  have Y2 := hid (X2.out.setOther (a := ⟨w.heap.size, j, none⟩) (by simp) (.int .i64 (tk1 b i j - 1)))
  have yb := xb.setCell (p := ⟨w.heap.size, j, none⟩) (Nat.le_refl _) (.int .i64 (tk1 b i j - 1))
  have s0 := YP.out.icell (k := 0) (by omega)
  have s1 := YP.out.icell (k := 1) (by omega)
  rw [HP0.out] at s0
  rw [HP1.out] at s1
  have t0 : World.cell? _ ⟨w.heap.size, i, none⟩ = some (.int .i64 (tk2 b i j i)) := Y0.out.icell (k := i) gi
  have t1 : World.cell? _ ⟨w.heap.size, j, none⟩ = some (.int .i64 (tk2 b i j j)) := Y0.out.icell (k := j) gj
  go_wp2_with (refine wpList_store_row rfl 80 _ _ rfl (w.heap.size + 1) (vls 21 (ilw fun _ => 0)) rfl rfl 80 _ Y2.out (by rw [vls_size]; exact info_box) (by simp) (vls_one (ilw_one _)) ?_)
  exact bodyPost_ret (results_row_tmp rfl _ _ (w.heap.size + 1) 80 (vls 21 (ilw fun _ => 0)) (0, 0) _ rfl (Y2.out.setRow (ilw fun _ => 0)) Try.underlying80 rfl (by rw [vls_size]; exact info_box)) rfl ⟨rfl, below_row yb (by omega) _⟩

set_option maxHeartbeats 2000000 in
set_option maxRecDepth 100000 in
theorem sP_ok (b : Nat → Int) (p : Nat → Int) (h : Bx b) (i j : Nat) (hi : i < 20) (hj : j < 20) (hp0 : p 0 = (i : Int)) (hp1 : p 1 = (j : Int)) (hn0 : ¬ tk2 b i j i < 0) (hn : ¬ tk2 b i j j < 0) (r : Nat → Int) (q : Int) (hq : (Bx (tk4 b i j) ∧ r = tk4 b i j ∧ q = 0) ∨ (¬ Bx (tk4 b i j) ∧ r = (fun _ => 0) ∧ q = 3)) (w : World) (gp : Nat) (T : TypeId) (hg : vAt w gp 2 (ilw p) T) :
    Calls Try.prog 171 #[.agg (vls 21 (ilw b)), .pointer (some ⟨gp, 0, none⟩)] w fun e w' => e = .returned (.tuple #[.agg (vls 21 (ilw r)), .int .i64 q]) ∧ Below w.heap.size w w' := by
  have A0 := hid ((vAt.new w 21 (ilw b) 80).alloc (.cells (vls 21 (ilw fun _ => 0)) 80))
  have A2 := hid (vAt.new1 w (.cells (vls 21 (ilw b)) 80) 21 (ilw fun _ => 0) 80)
  have AP := hid ((hg.alloc (.cells (vls 21 (ilw b)) 80)).alloc (.cells (vls 21 (ilw fun _ => 0)) 80))
  have b0 := boxed2 w (.cells (vls 21 (ilw b)) 80) (.cells (vls 21 (ilw fun _ => 0)) 80)
  have HG := hid hg.lt
  clear hg
  have p0 := AP.out.icell (k := 0) (by omega)
  have p1 := AP.out.icell (k := 1) (by omega)
  have HQ := hid hq
  clear hq
  have hd1 : decide (tk2 b i j i < 0) = false := decide_eq_false hn0
  have hd2 : decide (tk2 b i j j < 0) = false := decide_eq_false hn
  clear hn0 hn
  have HI := hid hi
  have HJ := hid hj
  have HP0 := hid hp0
  have HP1 := hid hp1
  have H := hid h
  clear h hi hj hp0 hp1
  rw [HP0.out] at p0
  rw [HP1.out] at p1
  go_enter Try.func171, Try.ntmps171
  go_wp2_with fail
  refine (sClass_t i HI.out _).mono ?_
  rintro e w2 ⟨rfl, rfl⟩
  go_wp2_with fail
  refine (sClass_t j HJ.out _).mono ?_
  rintro e w3 ⟨rfl, rfl⟩
  generalize ((w.alloc (.cells (vls 21 (ilw b)) 80)).alloc (.cells (vls 21 (ilw fun _ => 0)) 80)) = w4 at A0 A2 AP b0 p0 p1 ⊢
  have hi3 : (i : Int) < 20 := (by have := HI.out; omega)
  have hj3 : (j : Int) < 20 := (by have := HJ.out; omega)
  have hw1 : wrap64 (b i - 1) = b i - 1 := (by have := H.out i (by have := HI.out; omega); unfold Cnt at this; exact wrap_id (by omega) (by omega))
  have hw2 : wrap64 (tk1 b i j - 1) = tk1 b i j - 1 := (by have := tk1_bnd H.out HI.out (k := j) (by have := HJ.out; omega); exact wrap_id (by omega) (by omega))
  have gi : i < 21 := (by omega)
  have gj : j < 21 := (by omega)
  have q0 := A0.out.icell (k := i) gi
  have f0 := A0.out.frozen i
  have X0 := hid (A0.out.iset i (b i - 1))
  have XP := hid (AP.out.setOther (a := ⟨w.heap.size, i, none⟩) (by have := HG.out; simp; omega) (.int .i64 (b i - 1)))
  have X2 := hid (A2.out.setOther (a := ⟨w.heap.size, i, none⟩) (by simp) (.int .i64 (b i - 1)))
  have xb := b0.setCell (p := ⟨w.heap.size, i, none⟩) (Nat.le_refl _) (.int .i64 (b i - 1))
  have e0 := XP.out.icell (k := 0) (by omega)
  have e1 := XP.out.icell (k := 1) (by omega)
  rw [HP0.out] at e0
  rw [HP1.out] at e1
  have q1 : World.cell? _ ⟨w.heap.size, j, none⟩ = some (.int .i64 (tk1 b i j)) := X0.out.icell (k := j) gj
  have f1 := X0.out.frozen j
  have Y0 := hid (X0.out.iset j (tk1 b i j - 1))
  have YP := hid (XP.out.setOther (a := ⟨w.heap.size, j, none⟩) (by have := HG.out; simp; omega) (.int .i64 (tk1 b i j - 1)))
  have Y2 := hid (X2.out.setOther (a := ⟨w.heap.size, j, none⟩) (by simp) (.int .i64 (tk1 b i j - 1)))
  have yb := xb.setCell (p := ⟨w.heap.size, j, none⟩) (Nat.le_refl _) (.int .i64 (tk1 b i j - 1))
  have s0 := YP.out.icell (k := 0) (by omega)
  have s1 := YP.out.icell (k := 1) (by omega)
  rw [HP0.out] at s0
  rw [HP1.out] at s1
  have t0 : World.cell? _ ⟨w.heap.size, i, none⟩ = some (.int .i64 (tk2 b i j i)) := Y0.out.icell (k := i) gi
  have t1 : World.cell? _ ⟨w.heap.size, j, none⟩ = some (.int .i64 (tk2 b i j j)) := Y0.out.icell (k := j) gj
  go_wp2_with fail
  clear hw1 hw2 p0 p1 q0 f0 X0 XP X2 xb e0 e1 q1 f1 t0 t1 A0 AP A2 b0 hd1 hd2 s0 s1
  generalize ((w4.setCell ⟨w.heap.size, i, none⟩ (.int .i64 (b i - 1))).setCell ⟨w.heap.size, j, none⟩ (.int .i64 (tk1 b i j - 1))) = w5 at Y0 YP Y2 yb ⊢
  have s0 := YP.out.icell (k := 0) (by omega)
  have s1 := YP.out.icell (k := 1) (by omega)
  rw [HP0.out] at s0
  rw [HP1.out] at s1
  go_quiet (fail)
  have hi := HI.out
  have hj := HJ.out
  obtain ⟨m1, m2, m3, m4, m5, m6⟩ := wm_facts hi hj
  have hk := kl_lt hi hj
  have HK := hid hk
  have hk3 : (kl i j : Int) < 20 := by omega
  have Y0 : Hid (vAt (w5.drewN nq) w.heap.size 21 (ilw (tk2 b i j)) 80) := Y0
  have Y2 : Hid (vAt (w5.drewN nq) (w.heap.size + 1) 21 (ilw fun _ => 0) 80) := Y2
  have yb := below_drewN yb nq
  rw [show wrap64 (wrap64 ((2 : Int) ^ i) + wrap64 ((2 : Int) ^ j)) = ms i j by have h1 := pow_le i hi; have h2 := pow_le j hj; rw [wrap_id (n := (2 : Int) ^ i) (by omega) (by omega), wrap_id (n := (2 : Int) ^ j) (by omega) (by omega)]; exact wrap_id (by omega) (by omega)]
  clear s0 s1 YP
  generalize w5.drewN nq = w6 at Y0 Y2 yb ⊢
  have q0 := Y0.out.icell (k := kl i j) (by omega)
  have f0 := Y0.out.frozen (kl i j)
  have hb2 := tk2_bnd H.out hi hj (k := kl i j) (by omega)
  have M5 := hid (And.intro m4 m5)
  go_wp2_with fail
  refine (sWhole (kl i j) hk (ms i j) m4 m5 m6 _).mono ?_
  rintro e w7 ⟨rfl, rfl⟩
  clear m1 m2 m3 m6
  have hw : wrap64 (tk2 b i j (kl i j) + 1) = tk2 b i j (kl i j) + 1 := wrap_id (by omega) (by omega)
  have hpk := pow_le (kl i j) hk
  have h20 := H.out 20 (by omega)
  unfold Cnt at h20
  have hz20 := tk3_20 b hi hj
  have hv1 : wrap64 ((2 : Int) ^ kl i j) = (2 : Int) ^ kl i j := wrap_id (by omega) (by omega)
  have hv2 : wrap64 (ms i j - (2 : Int) ^ kl i j) = ms i j - (2 : Int) ^ kl i j := wrap_id (by omega) (by omega)
  have hv3 : wrap64 (tk3 b i j 20 + (ms i j - (2 : Int) ^ kl i j)) = tk3 b i j 20 + (ms i j - (2 : Int) ^ kl i j) := wrap_id (by omega) (by omega)
  clear m4 m5 hi hj hb2 hpk h20 hz20
  have Z0 : Hid (vAt (w6.setCell ⟨w.heap.size, kl i j, none⟩ (.int .i64 (tk2 b i j (kl i j) + 1))) w.heap.size 21 (ilw (tk3 b i j)) 80) := hid (Y0.out.iset (kl i j) (tk2 b i j (kl i j) + 1))
  have Z2 := hid (Y2.out.setOther (a := ⟨w.heap.size, kl i j, none⟩) (by simp) (.int .i64 (tk2 b i j (kl i j) + 1)))
  have zb := yb.setCell (p := ⟨w.heap.size, kl i j, none⟩) (Nat.le_refl _) (.int .i64 (tk2 b i j (kl i j) + 1))
  have q3 := Z0.out.icell (k := 20) (by omega)
  have f3 := Z0.out.frozen 20
  have T0 : Hid (vAt ((w6.setCell ⟨w.heap.size, kl i j, none⟩ (.int .i64 (tk2 b i j (kl i j) + 1))).setCell ⟨w.heap.size, 20, none⟩ (.int .i64 (tk3 b i j 20 + (ms i j - (2 : Int) ^ kl i j)))) w.heap.size 21 (ilw (tk4 b i j)) 80) := hid (Z0.out.iset 20 (tk3 b i j 20 + (ms i j - (2 : Int) ^ kl i j)))
  have T2 := hid (Z2.out.setOther (a := ⟨w.heap.size, 20, none⟩) (by simp) (.int .i64 (tk3 b i j 20 + (ms i j - (2 : Int) ^ kl i j))))
  have tb := zb.setCell (p := ⟨w.heap.size, 20, none⟩) (Nat.le_refl _) (.int .i64 (tk3 b i j 20 + (ms i j - (2 : Int) ^ kl i j)))
  clear Z0 Z2 zb Y0 Y2 yb
  go_wp2_with fail
  clear q0 f0 q3 f3 hv1 hv2 hv3 hw
  generalize ((w6.setCell ⟨w.heap.size, kl i j, none⟩ (.int .i64 (tk2 b i j (kl i j) + 1))).setCell ⟨w.heap.size, 20, none⟩ (.int .i64 (tk3 b i j 20 + (ms i j - (2 : Int) ^ kl i j)))) = w8 at T0 T2 tb ⊢
  rcases HQ.out with ⟨hq, rfl, rfl⟩ | ⟨hq, rfl, rfl⟩
  · refine (sBoxOk_t (tk4 b i j) hq _ w.heap.size 80 T0.out).mono ?_
    rintro e w9 ⟨rfl, rfl⟩
    go_wp2_with (first | (refine wpList_load_row rfl 80 _ rfl (w.heap.size) rfl 80 (vls 21 (ilw (tk4 b i j))) (0, 0) _ T0.out Try.underlying80 rfl (by rw [vls_size]; exact info_box) ?_) | (refine wpList_store_row rfl 80 _ _ rfl (w.heap.size + 1) (vls 21 (ilw (tk4 b i j))) rfl rfl 80 _ T2.out (by rw [vls_size]; exact info_box) (by simp) (vls_one (ilw_one _)) ?_))
    exact bodyPost_ret (results_row_tmp rfl _ _ (w.heap.size + 1) 80 (vls 21 (ilw (tk4 b i j))) (0, 0) _ rfl (T2.out.setRow (ilw (tk4 b i j))) Try.underlying80 rfl (by rw [vls_size]; exact info_box)) rfl ⟨rfl, below_row tb (by omega) _⟩

  · refine (sBoxOk_f (tk4 b i j) hq _ w.heap.size 80 T0.out).mono ?_
    rintro e w9 ⟨rfl, rfl⟩
    go_wp2_with (refine wpList_store_row rfl 80 _ _ rfl (w.heap.size + 1) (vls 21 (ilw fun _ => 0)) rfl rfl 80 _ T2.out (by rw [vls_size]; exact info_box) (by simp) (vls_one (ilw_one _)) ?_)
    exact bodyPost_ret (results_row_tmp rfl _ _ (w.heap.size + 1) 80 (vls 21 (ilw fun _ => 0)) (0, 0) _ rfl (T2.out.setRow (ilw fun _ => 0)) Try.underlying80 rfl (by rw [vls_size]; exact info_box)) rfl ⟨rfl, below_row tb (by omega) _⟩

set_option maxRecDepth 100000 in
theorem sPair_bad (b p : Nat → Int) (h : ¬ Bx b) (w : World) :
    Calls Try.prog 89 #[.agg (vls 21 (ilw b)), .agg (vls 2 (ilw p))] w fun e w' => e = .returned (.tuple #[.agg (vls 21 (ilw fun _ => 0)), .int .i64 1]) ∧ Below w.heap.size w w' := by
  have A0 := hid (((vAt.new w 21 (ilw b) 80).alloc (.cells (vls 2 (ilw p)) 89)).alloc (.cells (vls 21 (ilw fun _ => 0)) 80))
  have A2 := hid (vAt.new2 w (.cells (vls 21 (ilw b)) 80) (.cells (vls 2 (ilw p)) 89) 21 (ilw fun _ => 0) 80)
  have b0 := boxed3 w (.cells (vls 21 (ilw b)) 80) (.cells (vls 2 (ilw p)) 89) (.cells (vls 21 (ilw fun _ => 0)) 80)
  have H := hid h
  clear h
  go_enter Try.func89, Try.ntmps89
  go_wp2_with fail
  refine (sBoxOk_f b H.out _ w.heap.size 80 A0.out).mono ?_
  rintro e w1 ⟨rfl, rfl⟩
  go_wp2_with (refine wpList_store_row rfl 80 _ _ rfl (w.heap.size + 1 + 1) (vls 21 (ilw fun _ => 0)) rfl rfl 80 _ A2.out (by rw [vls_size]; exact info_box) (by simp) (vls_one (ilw_one _)) ?_)
  exact bodyPost_ret (results_row_tmp rfl _ _ (w.heap.size + 1 + 1) 80 (vls 21 (ilw fun _ => 0)) (0, 0) _ rfl (A2.out.setRow (ilw fun _ => 0)) Try.underlying80 rfl (by rw [vls_size]; exact info_box)) rfl ⟨rfl, below_row b0 (by omega) _⟩

set_option maxRecDepth 100000 in
theorem sPair_good (b p : Nat → Int) (h : Bx b) (r : Nat → Int) (q : Int) (hc : ∀ (w : World) (gp : Nat) (T : TypeId), vAt w gp 2 (ilw p) T → Calls Try.prog 171 #[.agg (vls 21 (ilw b)), .pointer (some ⟨gp, 0, none⟩)] w fun e w' => e = .returned (.tuple #[.agg (vls 21 (ilw r)), .int .i64 q]) ∧ Below w.heap.size w w') (w : World) :
    Calls Try.prog 89 #[.agg (vls 21 (ilw b)), .agg (vls 2 (ilw p))] w fun e w' => e = .returned (.tuple #[.agg (vls 21 (ilw r)), .int .i64 q]) ∧ Below w.heap.size w w' := by
  have A0 := hid (((vAt.new w 21 (ilw b) 80).alloc (.cells (vls 2 (ilw p)) 89)).alloc (.cells (vls 21 (ilw fun _ => 0)) 80))
  have AP := hid ((vAt.new1 w (.cells (vls 21 (ilw b)) 80) 2 (ilw p) 89).alloc (.cells (vls 21 (ilw fun _ => 0)) 80))
  have A2 := hid (vAt.new2 w (.cells (vls 21 (ilw b)) 80) (.cells (vls 2 (ilw p)) 89) 21 (ilw fun _ => 0) 80)
  have b0 := boxed3 w (.cells (vls 21 (ilw b)) 80) (.cells (vls 2 (ilw p)) 89) (.cells (vls 21 (ilw fun _ => 0)) 80)
  have H := hid h
  have HC := hid hc
  clear h hc
  go_enter Try.func89, Try.ntmps89
  go_wp2_with fail
  refine (sBoxOk_t b H.out _ w.heap.size 80 A0.out).mono ?_
  rintro e w1 ⟨rfl, rfl⟩
  go_wp2_with (refine wpList_load_row rfl 80 _ rfl (w.heap.size) rfl 80 (vls 21 (ilw b)) (0, 0) _ A0.out Try.underlying80 rfl (by rw [vls_size]; exact info_box) ?_)
  refine (HC.out _ (w.heap.size + 1) 89 AP.out).mono ?_
  rintro e w2 ⟨rfl, hb2⟩
  have A2 := hid (A2.out.stay hb2)
  have c0 := stp b0 (Nat.le_refl _) hb2
  go_wp2_with (refine wpList_store_row rfl 80 _ _ rfl (w.heap.size + 1 + 1) (vls 21 (ilw r)) rfl rfl 80 _ A2.out (by rw [vls_size]; exact info_box) (by simp) (vls_one (ilw_one _)) ?_)
  exact bodyPost_ret (results_row_tmp rfl _ _ (w.heap.size + 1 + 1) 80 (vls 21 (ilw r)) (0, 0) _ rfl (A2.out.setRow (ilw r)) Try.underlying80 rfl (by rw [vls_size]; exact info_box)) rfl ⟨rfl, below_row c0 (by omega) _⟩

theorem toPairL (x y : Int) (w : World) :
    Calls Try.prog 90 #[.agg #[.int .i64 x, .int .i64 y]] w fun e w' => e = .returned (.agg #[.int .i64 x, .int .i64 y]) ∧ Below w.heap.size w w' := by
  have k0 : Hid (Kept w [(w.heap.size + 1, #[.int .i64 x, .int .i64 y], 89)] (((w.alloc (.cells #[.int .i64 x, .int .i64 y] 86)).alloc (.cells #[.int .i64 x, .int .i64 y] 89)).alloc (.cells #[.int .i64 x, .int .i64 y] 89))) := hid (((((Kept.nil w).push _ _).push _ _).push _ _).sub (by simp))
  go_enter Try.func90, Try.ntmps90
  go_wp2
  exact bodyPost_ret (results_cell_row rfl _ _ (w.heap.size + 1) 89 #[.int .i64 x, .int .i64 y] (0, 0) _ rfl (k0.out.at (x := (w.heap.size + 1, #[.int .i64 x, .int .i64 y], 89)) (by simp)) Try.underlying89 rfl info_pair) rfl ⟨rfl, k0.out.1⟩

theorem toPair (p : Nat → Int) (w : World) :
    Calls Try.prog 90 #[.agg (vls 2 (ilw p))] w fun e w' => e = .returned (.agg (vls 2 (ilw p))) ∧ Below w.heap.size w w' := by
  rw [pair_lit]
  exact toPairL (p 0) (p 1) w

theorem alloc_box (a : Operand → Value) (d : Option Tmp) (t : TypeId) (ps : String) (af : Array Edge) (gd : Option (Nat × Bool)) (w : World) :
    (execOp a ⟨d, .alloc 80, t, ps, af, gd⟩).run Try.prog w = .ok (.value (.pointer (some ⟨w.heap.size, 0, none⟩))) (w.alloc (.cells (vls 21 (ilw fun _ => 0)) 80)) := by
  unfold execOp
  go_simp

theorem run_toBox1 (a : Act) (x0 : Operand) (v0 : Value) (h0 : a.eval x0 = v0) (d : Option Tmp) (ats : Array TypeId) (t : TypeId) (ps : String) (af : Array Edge) (gd : Option (Nat × Bool)) (w : World) :
    (execOp a.eval ⟨d, .call { callee := .value (.func 83), args := #[x0], argTypes := ats }, t, ps, af, gd⟩).run Try.prog w = .ok (.enter 83 #[v0]) w := by
  subst h0
  unfold execOp
  go_simp

theorem run_toPair1 (a : Act) (x0 : Operand) (v0 : Value) (h0 : a.eval x0 = v0) (d : Option Tmp) (ats : Array TypeId) (t : TypeId) (ps : String) (af : Array Edge) (gd : Option (Nat × Bool)) (w : World) :
    (execOp a.eval ⟨d, .call { callee := .value (.func 90), args := #[x0], argTypes := ats }, t, ps, af, gd⟩).run Try.prog w = .ok (.enter 90 #[v0]) w := by
  subst h0
  unfold execOp
  go_simp

theorem run_sCollidePair2 (a : Act) (x0 : Operand) (v0 : Value) (h0 : a.eval x0 = v0) (x1 : Operand) (v1 : Value) (h1 : a.eval x1 = v1) (d : Option Tmp) (ats : Array TypeId) (t : TypeId) (ps : String) (af : Array Edge) (gd : Option (Nat × Bool)) (w : World) :
    (execOp a.eval ⟨d, .call { callee := .value (.func 89), args := #[x0, x1], argTypes := ats }, t, ps, af, gd⟩).run Try.prog w = .ok (.enter 89 #[v0, v1]) w := by
  subst h0 h1
  unfold execOp
  go_simp

theorem run_iCollidePair2 (a : Act) (x0 : Operand) (v0 : Value) (h0 : a.eval x0 = v0) (x1 : Operand) (v1 : Value) (h1 : a.eval x1 = v1) (d : Option Tmp) (ats : Array TypeId) (t : TypeId) (ps : String) (af : Array Edge) (gd : Option (Nat × Bool)) (w : World) :
    (execOp a.eval ⟨d, .call { callee := .value (.func 91), args := #[x0, x1], argTypes := ats }, t, ps, af, gd⟩).run Try.prog w = .ok (.enter 91 #[v0, v1]) w := by
  subst h0 h1
  unfold execOp
  go_simp

set_option maxRecDepth 100000 in
set_option maxHeartbeats 2000000 in
theorem coreCollidePair (x0 : Nat → Int) (x1 : Nat → Int) (r0 : Nat → Int) (r1 : Int)
    (hS : ∀ w, Calls Try.prog 89 #[.agg (vls 21 (ilw x0)), .agg (vls 2 (ilw x1))] w fun e w' => e = .returned (.tuple #[.agg (vls 21 (ilw r0)), .int .i64 r1]) ∧ Below w.heap.size w w')
    (hI : ∀ w, Calls Try.prog 91 #[.agg (vls 21 (ilw x0)), .agg (vls 2 (ilw x1))] w fun e w' => e = .returned (.tuple #[.agg (vls 21 (ilw r0)), .int .i64 r1]) ∧ Below w.heap.size w w') (w : World) :
    Calls Try.prog 27 #[.agg (vls 21 (ilw x0)), .agg (vls 2 (ilw x1))] w fun e w' => e = .returned (.bool true) ∧ Below w.heap.size w w' := by
  have k0 : Hid (Kept w [(w.heap.size, vls 21 (ilw x0), 76), (w.heap.size + 1, vls 2 (ilw x1), 86)] ((w.alloc (.cells (vls 21 (ilw x0)) 76)).alloc (.cells (vls 2 (ilw x1)) 86))) := hid ((((Kept.nil w).push (vls 21 (ilw x0)) 76).push (vls 2 (ilw x1)) 86).sub (by simp))
  have HS := hid hS
  have HI := hid hI
  clear hS hI
  go_enter Try.func27, Try.ntmps27
  go_wp2_with fail
  rename_i Q1 K1 hK1
  have key1 : ∀ (a0 : Nat) (w1 : World), Hid (Kept w [(a0, vls 21 (ilw r0), 80), (w.heap.size, vls 21 (ilw x0), 76), (w.heap.size + 1, vls 2 (ilw x1), 86)] w1) → K1 { tmps := (.agg (vls 21 (ilw x0)) :: .agg (vls 2 (ilw x1)) :: .pointer (some ⟨w.heap.size, 0, none⟩) :: .pointer (some ⟨w.heap.size + 1, 0, none⟩) :: .bool false :: .pointer (some ⟨a0, 0, none⟩) :: .int .i64 r1 :: undef :: undef :: .tuple #[.agg (vls 21 (ilw r0)), .int .i64 r1] :: .agg (vls 21 (ilw x0)) :: .agg (vls 21 (ilw x0)) :: .agg (vls 2 (ilw x1)) :: .agg (vls 2 (ilw x1)) :: .tuple #[.agg (vls 21 (ilw r0)), .int .i64 r1] :: .agg (vls 21 (ilw r0)) :: .int .i64 r1 :: undef :: undef :: undef :: undef :: undef :: undef :: undef :: undef :: undef :: undef :: undef :: undef :: undef :: undef :: undef :: undef :: undef :: []).toArray, defers := [] } w1 := by
    intro a0 w1 k1
    clear k0
    go_wp2_with fail
    rename_i K2 hK2
    have key2 : ∀ (b0 : Nat) (w2 : World), Hid (Kept w [(b0, vls 21 (ilw r0), 80), (a0, vls 21 (ilw r0), 80), (w.heap.size, vls 21 (ilw x0), 76), (w.heap.size + 1, vls 2 (ilw x1), 86)] w2) → K2 { tmps := (.agg (vls 21 (ilw x0)) :: .agg (vls 2 (ilw x1)) :: .pointer (some ⟨w.heap.size, 0, none⟩) :: .pointer (some ⟨w.heap.size + 1, 0, none⟩) :: .bool false :: .pointer (some ⟨a0, 0, none⟩) :: .int .i64 r1 :: .pointer (some ⟨b0, 0, none⟩) :: .int .i64 r1 :: .tuple #[.agg (vls 21 (ilw r0)), .int .i64 r1] :: .agg (vls 21 (ilw x0)) :: .agg (vls 21 (ilw x0)) :: .agg (vls 2 (ilw x1)) :: .agg (vls 2 (ilw x1)) :: .tuple #[.agg (vls 21 (ilw r0)), .int .i64 r1] :: .agg (vls 21 (ilw r0)) :: .int .i64 r1 :: .tuple #[.agg (vls 21 (ilw r0)), .int .i64 r1] :: .agg (vls 21 (ilw x0)) :: .agg (vls 21 (ilw x0)) :: .agg (vls 2 (ilw x1)) :: .agg (vls 2 (ilw x1)) :: .tuple #[.agg (vls 21 (ilw r0)), .int .i64 r1] :: .agg (vls 21 (ilw r0)) :: .int .i64 r1 :: undef :: undef :: undef :: undef :: undef :: undef :: undef :: undef :: undef :: []).toArray, defers := [] } w2 := by
      intro b0 w2 k2
      clear k1 HS HI
      go_wp2_with (first | (refine wpList_load_row rfl 80 _ rfl (b0) rfl 80 (vls 21 (ilw r0)) (0, 0) _ (k2.out.at (x := (b0, vls 21 (ilw r0), 80)) (by simp)) Try.underlying80 rfl (by rw [vls_size]; exact info_box) ?_) | (refine wpList_load_row rfl 80 _ rfl (a0) rfl 80 (vls 21 (ilw r0)) (0, 0) _ (k2.out.at (x := (a0, vls 21 (ilw r0), 80)) (by simp)) Try.underlying80 rfl (by rw [vls_size]; exact info_box) ?_))
      refine (eqBox r0 _).mono ?_
      rintro e w3 ⟨rfl, hb3⟩
      have k3 := hid (k2.out.stay hb3)
      go_wp2
      all_goals go_ret
      all_goals exact ⟨rfl, k3.out.1⟩
    refine region_kept (w0 := w) (l := [(a0, vls 21 (ilw r0), 80), (w.heap.size, vls 21 (ilw x0), 76), (w.heap.size + 1, vls 2 (ilw x1), 86)]) 11 #[false, false, false, false, false, false, false, false, false, false, false] (by kernel_rfl) rfl rfl ?_
    have kd := k1.out.drew
    clear k1
    generalize w1.drew = wd at kd ⊢
    refine take_load 0 { tmps := (.agg (vls 21 (ilw x0)) :: .agg (vls 2 (ilw x1)) :: .pointer (some ⟨w.heap.size, 0, none⟩) :: .pointer (some ⟨w.heap.size + 1, 0, none⟩) :: .bool false :: .pointer (some ⟨a0, 0, none⟩) :: .int .i64 r1 :: undef :: undef :: .tuple #[.agg (vls 21 (ilw r0)), .int .i64 r1] :: .agg (vls 21 (ilw x0)) :: .agg (vls 21 (ilw x0)) :: .agg (vls 2 (ilw x1)) :: .agg (vls 2 (ilw x1)) :: .tuple #[.agg (vls 21 (ilw r0)), .int .i64 r1] :: .agg (vls 21 (ilw r0)) :: .int .i64 r1 :: undef :: .agg (vls 21 (ilw x0)) :: undef :: undef :: undef :: undef :: undef :: undef :: undef :: undef :: undef :: undef :: undef :: undef :: undef :: undef :: undef :: []).toArray, defers := [] } #[true, false, false, false, false, false, false, false, false, false, false] rfl (by rfl) (by kernel_rfl) (by kernel_rfl) (by kernel_rfl) 76 _ rfl (w.heap.size) (vls 21 (ilw x0)) 76 (by rfl) (by simp) _ Try.underlying76 rfl (by rw [vls_size]; exact info_lbox) (by rfl) (by rfl) (kd) ?_
    refine take_load 2 { tmps := (.agg (vls 21 (ilw x0)) :: .agg (vls 2 (ilw x1)) :: .pointer (some ⟨w.heap.size, 0, none⟩) :: .pointer (some ⟨w.heap.size + 1, 0, none⟩) :: .bool false :: .pointer (some ⟨a0, 0, none⟩) :: .int .i64 r1 :: undef :: undef :: .tuple #[.agg (vls 21 (ilw r0)), .int .i64 r1] :: .agg (vls 21 (ilw x0)) :: .agg (vls 21 (ilw x0)) :: .agg (vls 2 (ilw x1)) :: .agg (vls 2 (ilw x1)) :: .tuple #[.agg (vls 21 (ilw r0)), .int .i64 r1] :: .agg (vls 21 (ilw r0)) :: .int .i64 r1 :: undef :: .agg (vls 21 (ilw x0)) :: undef :: .agg (vls 2 (ilw x1)) :: undef :: undef :: undef :: undef :: undef :: undef :: undef :: undef :: undef :: undef :: undef :: undef :: undef :: []).toArray, defers := [] } #[true, false, true, false, false, false, false, false, false, false, false] rfl (by rfl) (by kernel_rfl) (by kernel_rfl) (by kernel_rfl) 86 _ rfl (w.heap.size + 1) (vls 2 (ilw x1)) 86 (by rfl) (by simp) _ Try.underlying86 rfl (by rw [vls_size]; exact info_lpair) (by rfl) (by rfl) (kd) ?_
    refine wpAnyH_ready (rs := [1, 8]) (by kernel_rfl) (by simp) ?_
    refine callK 1 { tmps := (.agg (vls 21 (ilw x0)) :: .agg (vls 2 (ilw x1)) :: .pointer (some ⟨w.heap.size, 0, none⟩) :: .pointer (some ⟨w.heap.size + 1, 0, none⟩) :: .bool false :: .pointer (some ⟨a0, 0, none⟩) :: .int .i64 r1 :: undef :: undef :: .tuple #[.agg (vls 21 (ilw r0)), .int .i64 r1] :: .agg (vls 21 (ilw x0)) :: .agg (vls 21 (ilw x0)) :: .agg (vls 2 (ilw x1)) :: .agg (vls 2 (ilw x1)) :: .tuple #[.agg (vls 21 (ilw r0)), .int .i64 r1] :: .agg (vls 21 (ilw r0)) :: .int .i64 r1 :: undef :: .agg (vls 21 (ilw x0)) :: .agg (vls 21 (ilw x0)) :: .agg (vls 2 (ilw x1)) :: undef :: undef :: undef :: undef :: undef :: undef :: undef :: undef :: undef :: undef :: undef :: undef :: undef :: []).toArray, defers := [] } #[true, true, true, false, false, false, false, false, false, false, false] (.agg (vls 21 (ilw x0))) kd rfl (by rfl) 83 #[.agg (vls 21 (ilw x0))] (run_toBox1 _ _ _ rfl _ _ _ _ _ _) (by rfl) (by rfl) (toBox _ _) (fun w1 k1 => ?_) ?_
    · refine ⟨k1, ?_⟩
      refine wpAnyH_ready (rs := [3, 8]) (by kernel_rfl) (by simp) ?_
      refine callK 3 { tmps := (.agg (vls 21 (ilw x0)) :: .agg (vls 2 (ilw x1)) :: .pointer (some ⟨w.heap.size, 0, none⟩) :: .pointer (some ⟨w.heap.size + 1, 0, none⟩) :: .bool false :: .pointer (some ⟨a0, 0, none⟩) :: .int .i64 r1 :: undef :: undef :: .tuple #[.agg (vls 21 (ilw r0)), .int .i64 r1] :: .agg (vls 21 (ilw x0)) :: .agg (vls 21 (ilw x0)) :: .agg (vls 2 (ilw x1)) :: .agg (vls 2 (ilw x1)) :: .tuple #[.agg (vls 21 (ilw r0)), .int .i64 r1] :: .agg (vls 21 (ilw r0)) :: .int .i64 r1 :: undef :: .agg (vls 21 (ilw x0)) :: .agg (vls 21 (ilw x0)) :: .agg (vls 2 (ilw x1)) :: .agg (vls 2 (ilw x1)) :: undef :: undef :: undef :: undef :: undef :: undef :: undef :: undef :: undef :: undef :: undef :: undef :: []).toArray, defers := [] } #[true, true, true, true, false, false, false, false, false, false, false] (.agg (vls 2 (ilw x1))) k1 rfl (by rfl) 90 #[.agg (vls 2 (ilw x1))] (run_toPair1 _ _ _ rfl _ _ _ _ _ _) (by rfl) (by rfl) (toPair _ _) (fun w2 k2 => ?_) ?_
      · refine ⟨k2, ?_⟩
        refine wpAnyH_ready (rs := [4, 8]) (by kernel_rfl) (by simp) ?_
        refine callK 4 { tmps := (.agg (vls 21 (ilw x0)) :: .agg (vls 2 (ilw x1)) :: .pointer (some ⟨w.heap.size, 0, none⟩) :: .pointer (some ⟨w.heap.size + 1, 0, none⟩) :: .bool false :: .pointer (some ⟨a0, 0, none⟩) :: .int .i64 r1 :: undef :: undef :: .tuple #[.agg (vls 21 (ilw r0)), .int .i64 r1] :: .agg (vls 21 (ilw x0)) :: .agg (vls 21 (ilw x0)) :: .agg (vls 2 (ilw x1)) :: .agg (vls 2 (ilw x1)) :: .tuple #[.agg (vls 21 (ilw r0)), .int .i64 r1] :: .agg (vls 21 (ilw r0)) :: .int .i64 r1 :: undef :: .agg (vls 21 (ilw x0)) :: .agg (vls 21 (ilw x0)) :: .agg (vls 2 (ilw x1)) :: .agg (vls 2 (ilw x1)) :: .tuple #[.agg (vls 21 (ilw r0)), .int .i64 r1] :: undef :: undef :: undef :: undef :: undef :: undef :: undef :: undef :: undef :: undef :: undef :: []).toArray, defers := [] } #[true, true, true, true, true, false, false, false, false, false, false] (.tuple #[.agg (vls 21 (ilw r0)), .int .i64 r1]) k2 rfl (by rfl) 91 #[.agg (vls 21 (ilw x0)), .agg (vls 2 (ilw x1))] (run_iCollidePair2 _ _ _ rfl _ _ rfl _ _ _ _ _ _) (by rfl) (by rfl) (HI.out _) (fun w3 k3 => ?_) ?_
        · refine ⟨k3, ?_⟩
          refine take_val 5 { tmps := (.agg (vls 21 (ilw x0)) :: .agg (vls 2 (ilw x1)) :: .pointer (some ⟨w.heap.size, 0, none⟩) :: .pointer (some ⟨w.heap.size + 1, 0, none⟩) :: .bool false :: .pointer (some ⟨a0, 0, none⟩) :: .int .i64 r1 :: undef :: undef :: .tuple #[.agg (vls 21 (ilw r0)), .int .i64 r1] :: .agg (vls 21 (ilw x0)) :: .agg (vls 21 (ilw x0)) :: .agg (vls 2 (ilw x1)) :: .agg (vls 2 (ilw x1)) :: .tuple #[.agg (vls 21 (ilw r0)), .int .i64 r1] :: .agg (vls 21 (ilw r0)) :: .int .i64 r1 :: .tuple #[.agg (vls 21 (ilw r0)), .int .i64 r1] :: .agg (vls 21 (ilw x0)) :: .agg (vls 21 (ilw x0)) :: .agg (vls 2 (ilw x1)) :: .agg (vls 2 (ilw x1)) :: .tuple #[.agg (vls 21 (ilw r0)), .int .i64 r1] :: undef :: undef :: undef :: undef :: undef :: undef :: undef :: undef :: undef :: undef :: undef :: []).toArray, defers := [] } #[true, true, true, true, true, true, false, false, false, false, false] (.tuple #[.agg (vls 21 (ilw r0)), .int .i64 r1]) rfl (by rfl) (by kernel_rfl) (by kernel_rfl) (by kernel_rfl) (fun w => by rfl) (by rfl) (by rfl) (k3) ?_
          refine take_val 6 { tmps := (.agg (vls 21 (ilw x0)) :: .agg (vls 2 (ilw x1)) :: .pointer (some ⟨w.heap.size, 0, none⟩) :: .pointer (some ⟨w.heap.size + 1, 0, none⟩) :: .bool false :: .pointer (some ⟨a0, 0, none⟩) :: .int .i64 r1 :: undef :: undef :: .tuple #[.agg (vls 21 (ilw r0)), .int .i64 r1] :: .agg (vls 21 (ilw x0)) :: .agg (vls 21 (ilw x0)) :: .agg (vls 2 (ilw x1)) :: .agg (vls 2 (ilw x1)) :: .tuple #[.agg (vls 21 (ilw r0)), .int .i64 r1] :: .agg (vls 21 (ilw r0)) :: .int .i64 r1 :: .tuple #[.agg (vls 21 (ilw r0)), .int .i64 r1] :: .agg (vls 21 (ilw x0)) :: .agg (vls 21 (ilw x0)) :: .agg (vls 2 (ilw x1)) :: .agg (vls 2 (ilw x1)) :: .tuple #[.agg (vls 21 (ilw r0)), .int .i64 r1] :: .agg (vls 21 (ilw r0)) :: undef :: undef :: undef :: undef :: undef :: undef :: undef :: undef :: undef :: undef :: []).toArray, defers := [] } #[true, true, true, true, true, true, true, false, false, false, false] (.agg (vls 21 (ilw r0))) rfl (by rfl) (by kernel_rfl) (by kernel_rfl) (by kernel_rfl) (fun w => by rfl) (by rfl) (by rfl) (k3) ?_
          refine take_val 7 { tmps := (.agg (vls 21 (ilw x0)) :: .agg (vls 2 (ilw x1)) :: .pointer (some ⟨w.heap.size, 0, none⟩) :: .pointer (some ⟨w.heap.size + 1, 0, none⟩) :: .bool false :: .pointer (some ⟨a0, 0, none⟩) :: .int .i64 r1 :: undef :: undef :: .tuple #[.agg (vls 21 (ilw r0)), .int .i64 r1] :: .agg (vls 21 (ilw x0)) :: .agg (vls 21 (ilw x0)) :: .agg (vls 2 (ilw x1)) :: .agg (vls 2 (ilw x1)) :: .tuple #[.agg (vls 21 (ilw r0)), .int .i64 r1] :: .agg (vls 21 (ilw r0)) :: .int .i64 r1 :: .tuple #[.agg (vls 21 (ilw r0)), .int .i64 r1] :: .agg (vls 21 (ilw x0)) :: .agg (vls 21 (ilw x0)) :: .agg (vls 2 (ilw x1)) :: .agg (vls 2 (ilw x1)) :: .tuple #[.agg (vls 21 (ilw r0)), .int .i64 r1] :: .agg (vls 21 (ilw r0)) :: .int .i64 r1 :: undef :: undef :: undef :: undef :: undef :: undef :: undef :: undef :: undef :: []).toArray, defers := [] } #[true, true, true, true, true, true, true, true, false, false, false] (.int .i64 r1) rfl (by rfl) (by kernel_rfl) (by kernel_rfl) (by kernel_rfl) (fun w => by rfl) (by rfl) (by rfl) (k3) ?_
          refine wpAnyH_ready (rs := [8]) (by kernel_rfl) (by simp) ?_
          refine allocK 8 (fun g4 => { tmps := (.agg (vls 21 (ilw x0)) :: .agg (vls 2 (ilw x1)) :: .pointer (some ⟨w.heap.size, 0, none⟩) :: .pointer (some ⟨w.heap.size + 1, 0, none⟩) :: .bool false :: .pointer (some ⟨a0, 0, none⟩) :: .int .i64 r1 :: .pointer (some ⟨g4, 0, none⟩) :: undef :: .tuple #[.agg (vls 21 (ilw r0)), .int .i64 r1] :: .agg (vls 21 (ilw x0)) :: .agg (vls 21 (ilw x0)) :: .agg (vls 2 (ilw x1)) :: .agg (vls 2 (ilw x1)) :: .tuple #[.agg (vls 21 (ilw r0)), .int .i64 r1] :: .agg (vls 21 (ilw r0)) :: .int .i64 r1 :: .tuple #[.agg (vls 21 (ilw r0)), .int .i64 r1] :: .agg (vls 21 (ilw x0)) :: .agg (vls 21 (ilw x0)) :: .agg (vls 2 (ilw x1)) :: .agg (vls 2 (ilw x1)) :: .tuple #[.agg (vls 21 (ilw r0)), .int .i64 r1] :: .agg (vls 21 (ilw r0)) :: .int .i64 r1 :: undef :: undef :: undef :: undef :: undef :: undef :: undef :: undef :: undef :: []).toArray, defers := [] }) #[true, true, true, true, true, true, true, true, true, false, false] k3 rfl (by rfl) (vls 21 (ilw fun _ => 0)) 80 (alloc_box _ _ _ _ _ _ _) (fun g => by rfl) (by rfl) (fun w4 g4 k4 hB4 hn4 => ?_) AllReadyH.nil
          refine ⟨k4.tail, ?_⟩
          refine wpAnyH_ready (rs := [9]) (by kernel_rfl) (by simp) ?_
          refine storeK 9 { tmps := (.agg (vls 21 (ilw x0)) :: .agg (vls 2 (ilw x1)) :: .pointer (some ⟨w.heap.size, 0, none⟩) :: .pointer (some ⟨w.heap.size + 1, 0, none⟩) :: .bool false :: .pointer (some ⟨a0, 0, none⟩) :: .int .i64 r1 :: .pointer (some ⟨g4, 0, none⟩) :: undef :: .tuple #[.agg (vls 21 (ilw r0)), .int .i64 r1] :: .agg (vls 21 (ilw x0)) :: .agg (vls 21 (ilw x0)) :: .agg (vls 2 (ilw x1)) :: .agg (vls 2 (ilw x1)) :: .tuple #[.agg (vls 21 (ilw r0)), .int .i64 r1] :: .agg (vls 21 (ilw r0)) :: .int .i64 r1 :: .tuple #[.agg (vls 21 (ilw r0)), .int .i64 r1] :: .agg (vls 21 (ilw x0)) :: .agg (vls 21 (ilw x0)) :: .agg (vls 2 (ilw x1)) :: .agg (vls 2 (ilw x1)) :: .tuple #[.agg (vls 21 (ilw r0)), .int .i64 r1] :: .agg (vls 21 (ilw r0)) :: .int .i64 r1 :: undef :: undef :: undef :: undef :: undef :: undef :: undef :: undef :: undef :: []).toArray, defers := [] } #[true, true, true, true, true, true, true, true, true, true, false] k4 hB4 hn4 rfl (by rfl) 80 _ _ rfl (vls 21 (ilw r0)) (by rfl) (by rfl) (by rw [vls_size]; exact info_box) (by simp) (vls_one (ilw_one _)) (by rfl) (by rfl) (fun w5 k5 => ?_) AllReadyH.nil
          refine ⟨k5.tail, ?_⟩
          refine take_val 10 { tmps := (.agg (vls 21 (ilw x0)) :: .agg (vls 2 (ilw x1)) :: .pointer (some ⟨w.heap.size, 0, none⟩) :: .pointer (some ⟨w.heap.size + 1, 0, none⟩) :: .bool false :: .pointer (some ⟨a0, 0, none⟩) :: .int .i64 r1 :: .pointer (some ⟨g4, 0, none⟩) :: .int .i64 r1 :: .tuple #[.agg (vls 21 (ilw r0)), .int .i64 r1] :: .agg (vls 21 (ilw x0)) :: .agg (vls 21 (ilw x0)) :: .agg (vls 2 (ilw x1)) :: .agg (vls 2 (ilw x1)) :: .tuple #[.agg (vls 21 (ilw r0)), .int .i64 r1] :: .agg (vls 21 (ilw r0)) :: .int .i64 r1 :: .tuple #[.agg (vls 21 (ilw r0)), .int .i64 r1] :: .agg (vls 21 (ilw x0)) :: .agg (vls 21 (ilw x0)) :: .agg (vls 2 (ilw x1)) :: .agg (vls 2 (ilw x1)) :: .tuple #[.agg (vls 21 (ilw r0)), .int .i64 r1] :: .agg (vls 21 (ilw r0)) :: .int .i64 r1 :: undef :: undef :: undef :: undef :: undef :: undef :: undef :: undef :: undef :: []).toArray, defers := [] } #[true, true, true, true, true, true, true, true, true, true, true] (.int .i64 r1) rfl (by rfl) (by kernel_rfl) (by kernel_rfl) (by kernel_rfl) (fun w => by rfl) (by rfl) (by rfl) (k5.tail) ?_
          exact wpAnyH_done (by kernel_rfl) (NoPanic.normal (key2 g4 _ (hid k5))) _
        refine allocK 8 (fun g6 => { tmps := (.agg (vls 21 (ilw x0)) :: .agg (vls 2 (ilw x1)) :: .pointer (some ⟨w.heap.size, 0, none⟩) :: .pointer (some ⟨w.heap.size + 1, 0, none⟩) :: .bool false :: .pointer (some ⟨a0, 0, none⟩) :: .int .i64 r1 :: .pointer (some ⟨g6, 0, none⟩) :: undef :: .tuple #[.agg (vls 21 (ilw r0)), .int .i64 r1] :: .agg (vls 21 (ilw x0)) :: .agg (vls 21 (ilw x0)) :: .agg (vls 2 (ilw x1)) :: .agg (vls 2 (ilw x1)) :: .tuple #[.agg (vls 21 (ilw r0)), .int .i64 r1] :: .agg (vls 21 (ilw r0)) :: .int .i64 r1 :: undef :: .agg (vls 21 (ilw x0)) :: .agg (vls 21 (ilw x0)) :: .agg (vls 2 (ilw x1)) :: .agg (vls 2 (ilw x1)) :: undef :: undef :: undef :: undef :: undef :: undef :: undef :: undef :: undef :: undef :: undef :: undef :: []).toArray, defers := [] }) #[true, true, true, true, false, false, false, false, true, false, false] k2 rfl (by rfl) (vls 21 (ilw fun _ => 0)) 80 (alloc_box _ _ _ _ _ _ _) (fun g => by rfl) (by rfl) (fun w6 g6 k6 hB6 hn6 => ?_) AllReadyH.nil
        refine ⟨k6.tail, ?_⟩
        refine wpAnyH_ready (rs := [4]) (by kernel_rfl) (by simp) ?_
        refine callK 4 { tmps := (.agg (vls 21 (ilw x0)) :: .agg (vls 2 (ilw x1)) :: .pointer (some ⟨w.heap.size, 0, none⟩) :: .pointer (some ⟨w.heap.size + 1, 0, none⟩) :: .bool false :: .pointer (some ⟨a0, 0, none⟩) :: .int .i64 r1 :: .pointer (some ⟨g6, 0, none⟩) :: undef :: .tuple #[.agg (vls 21 (ilw r0)), .int .i64 r1] :: .agg (vls 21 (ilw x0)) :: .agg (vls 21 (ilw x0)) :: .agg (vls 2 (ilw x1)) :: .agg (vls 2 (ilw x1)) :: .tuple #[.agg (vls 21 (ilw r0)), .int .i64 r1] :: .agg (vls 21 (ilw r0)) :: .int .i64 r1 :: undef :: .agg (vls 21 (ilw x0)) :: .agg (vls 21 (ilw x0)) :: .agg (vls 2 (ilw x1)) :: .agg (vls 2 (ilw x1)) :: .tuple #[.agg (vls 21 (ilw r0)), .int .i64 r1] :: undef :: undef :: undef :: undef :: undef :: undef :: undef :: undef :: undef :: undef :: undef :: []).toArray, defers := [] } #[true, true, true, true, true, false, false, false, true, false, false] (.tuple #[.agg (vls 21 (ilw r0)), .int .i64 r1]) k6 rfl (by rfl) 91 #[.agg (vls 21 (ilw x0)), .agg (vls 2 (ilw x1))] (run_iCollidePair2 _ _ _ rfl _ _ rfl _ _ _ _ _ _) (by rfl) (by rfl) (HI.out _) (fun w7 k7 => ?_) AllReadyH.nil
        refine ⟨k7.tail, ?_⟩
        refine take_val 5 { tmps := (.agg (vls 21 (ilw x0)) :: .agg (vls 2 (ilw x1)) :: .pointer (some ⟨w.heap.size, 0, none⟩) :: .pointer (some ⟨w.heap.size + 1, 0, none⟩) :: .bool false :: .pointer (some ⟨a0, 0, none⟩) :: .int .i64 r1 :: .pointer (some ⟨g6, 0, none⟩) :: undef :: .tuple #[.agg (vls 21 (ilw r0)), .int .i64 r1] :: .agg (vls 21 (ilw x0)) :: .agg (vls 21 (ilw x0)) :: .agg (vls 2 (ilw x1)) :: .agg (vls 2 (ilw x1)) :: .tuple #[.agg (vls 21 (ilw r0)), .int .i64 r1] :: .agg (vls 21 (ilw r0)) :: .int .i64 r1 :: .tuple #[.agg (vls 21 (ilw r0)), .int .i64 r1] :: .agg (vls 21 (ilw x0)) :: .agg (vls 21 (ilw x0)) :: .agg (vls 2 (ilw x1)) :: .agg (vls 2 (ilw x1)) :: .tuple #[.agg (vls 21 (ilw r0)), .int .i64 r1] :: undef :: undef :: undef :: undef :: undef :: undef :: undef :: undef :: undef :: undef :: undef :: []).toArray, defers := [] } #[true, true, true, true, true, true, false, false, true, false, false] (.tuple #[.agg (vls 21 (ilw r0)), .int .i64 r1]) rfl (by rfl) (by kernel_rfl) (by kernel_rfl) (by kernel_rfl) (fun w => by rfl) (by rfl) (by rfl) (k7.tail) ?_
        refine take_val 6 { tmps := (.agg (vls 21 (ilw x0)) :: .agg (vls 2 (ilw x1)) :: .pointer (some ⟨w.heap.size, 0, none⟩) :: .pointer (some ⟨w.heap.size + 1, 0, none⟩) :: .bool false :: .pointer (some ⟨a0, 0, none⟩) :: .int .i64 r1 :: .pointer (some ⟨g6, 0, none⟩) :: undef :: .tuple #[.agg (vls 21 (ilw r0)), .int .i64 r1] :: .agg (vls 21 (ilw x0)) :: .agg (vls 21 (ilw x0)) :: .agg (vls 2 (ilw x1)) :: .agg (vls 2 (ilw x1)) :: .tuple #[.agg (vls 21 (ilw r0)), .int .i64 r1] :: .agg (vls 21 (ilw r0)) :: .int .i64 r1 :: .tuple #[.agg (vls 21 (ilw r0)), .int .i64 r1] :: .agg (vls 21 (ilw x0)) :: .agg (vls 21 (ilw x0)) :: .agg (vls 2 (ilw x1)) :: .agg (vls 2 (ilw x1)) :: .tuple #[.agg (vls 21 (ilw r0)), .int .i64 r1] :: .agg (vls 21 (ilw r0)) :: undef :: undef :: undef :: undef :: undef :: undef :: undef :: undef :: undef :: undef :: []).toArray, defers := [] } #[true, true, true, true, true, true, true, false, true, false, false] (.agg (vls 21 (ilw r0))) rfl (by rfl) (by kernel_rfl) (by kernel_rfl) (by kernel_rfl) (fun w => by rfl) (by rfl) (by rfl) (k7.tail) ?_
        refine take_val 7 { tmps := (.agg (vls 21 (ilw x0)) :: .agg (vls 2 (ilw x1)) :: .pointer (some ⟨w.heap.size, 0, none⟩) :: .pointer (some ⟨w.heap.size + 1, 0, none⟩) :: .bool false :: .pointer (some ⟨a0, 0, none⟩) :: .int .i64 r1 :: .pointer (some ⟨g6, 0, none⟩) :: undef :: .tuple #[.agg (vls 21 (ilw r0)), .int .i64 r1] :: .agg (vls 21 (ilw x0)) :: .agg (vls 21 (ilw x0)) :: .agg (vls 2 (ilw x1)) :: .agg (vls 2 (ilw x1)) :: .tuple #[.agg (vls 21 (ilw r0)), .int .i64 r1] :: .agg (vls 21 (ilw r0)) :: .int .i64 r1 :: .tuple #[.agg (vls 21 (ilw r0)), .int .i64 r1] :: .agg (vls 21 (ilw x0)) :: .agg (vls 21 (ilw x0)) :: .agg (vls 2 (ilw x1)) :: .agg (vls 2 (ilw x1)) :: .tuple #[.agg (vls 21 (ilw r0)), .int .i64 r1] :: .agg (vls 21 (ilw r0)) :: .int .i64 r1 :: undef :: undef :: undef :: undef :: undef :: undef :: undef :: undef :: undef :: []).toArray, defers := [] } #[true, true, true, true, true, true, true, true, true, false, false] (.int .i64 r1) rfl (by rfl) (by kernel_rfl) (by kernel_rfl) (by kernel_rfl) (fun w => by rfl) (by rfl) (by rfl) (k7.tail) ?_
        refine wpAnyH_ready (rs := [9]) (by kernel_rfl) (by simp) ?_
        refine storeK 9 { tmps := (.agg (vls 21 (ilw x0)) :: .agg (vls 2 (ilw x1)) :: .pointer (some ⟨w.heap.size, 0, none⟩) :: .pointer (some ⟨w.heap.size + 1, 0, none⟩) :: .bool false :: .pointer (some ⟨a0, 0, none⟩) :: .int .i64 r1 :: .pointer (some ⟨g6, 0, none⟩) :: undef :: .tuple #[.agg (vls 21 (ilw r0)), .int .i64 r1] :: .agg (vls 21 (ilw x0)) :: .agg (vls 21 (ilw x0)) :: .agg (vls 2 (ilw x1)) :: .agg (vls 2 (ilw x1)) :: .tuple #[.agg (vls 21 (ilw r0)), .int .i64 r1] :: .agg (vls 21 (ilw r0)) :: .int .i64 r1 :: .tuple #[.agg (vls 21 (ilw r0)), .int .i64 r1] :: .agg (vls 21 (ilw x0)) :: .agg (vls 21 (ilw x0)) :: .agg (vls 2 (ilw x1)) :: .agg (vls 2 (ilw x1)) :: .tuple #[.agg (vls 21 (ilw r0)), .int .i64 r1] :: .agg (vls 21 (ilw r0)) :: .int .i64 r1 :: undef :: undef :: undef :: undef :: undef :: undef :: undef :: undef :: undef :: []).toArray, defers := [] } #[true, true, true, true, true, true, true, true, true, true, false] k7 hB6 hn6 rfl (by rfl) 80 _ _ rfl (vls 21 (ilw r0)) (by rfl) (by rfl) (by rw [vls_size]; exact info_box) (by simp) (vls_one (ilw_one _)) (by rfl) (by rfl) (fun w8 k8 => ?_) AllReadyH.nil
        refine ⟨k8.tail, ?_⟩
        refine take_val 10 { tmps := (.agg (vls 21 (ilw x0)) :: .agg (vls 2 (ilw x1)) :: .pointer (some ⟨w.heap.size, 0, none⟩) :: .pointer (some ⟨w.heap.size + 1, 0, none⟩) :: .bool false :: .pointer (some ⟨a0, 0, none⟩) :: .int .i64 r1 :: .pointer (some ⟨g6, 0, none⟩) :: .int .i64 r1 :: .tuple #[.agg (vls 21 (ilw r0)), .int .i64 r1] :: .agg (vls 21 (ilw x0)) :: .agg (vls 21 (ilw x0)) :: .agg (vls 2 (ilw x1)) :: .agg (vls 2 (ilw x1)) :: .tuple #[.agg (vls 21 (ilw r0)), .int .i64 r1] :: .agg (vls 21 (ilw r0)) :: .int .i64 r1 :: .tuple #[.agg (vls 21 (ilw r0)), .int .i64 r1] :: .agg (vls 21 (ilw x0)) :: .agg (vls 21 (ilw x0)) :: .agg (vls 2 (ilw x1)) :: .agg (vls 2 (ilw x1)) :: .tuple #[.agg (vls 21 (ilw r0)), .int .i64 r1] :: .agg (vls 21 (ilw r0)) :: .int .i64 r1 :: undef :: undef :: undef :: undef :: undef :: undef :: undef :: undef :: undef :: []).toArray, defers := [] } #[true, true, true, true, true, true, true, true, true, true, true] (.int .i64 r1) rfl (by rfl) (by kernel_rfl) (by kernel_rfl) (by kernel_rfl) (fun w => by rfl) (by rfl) (by rfl) (k8.tail) ?_
        exact wpAnyH_done (by kernel_rfl) (NoPanic.normal (key2 g6 _ (hid k8))) _
      refine allocK 8 (fun g9 => { tmps := (.agg (vls 21 (ilw x0)) :: .agg (vls 2 (ilw x1)) :: .pointer (some ⟨w.heap.size, 0, none⟩) :: .pointer (some ⟨w.heap.size + 1, 0, none⟩) :: .bool false :: .pointer (some ⟨a0, 0, none⟩) :: .int .i64 r1 :: .pointer (some ⟨g9, 0, none⟩) :: undef :: .tuple #[.agg (vls 21 (ilw r0)), .int .i64 r1] :: .agg (vls 21 (ilw x0)) :: .agg (vls 21 (ilw x0)) :: .agg (vls 2 (ilw x1)) :: .agg (vls 2 (ilw x1)) :: .tuple #[.agg (vls 21 (ilw r0)), .int .i64 r1] :: .agg (vls 21 (ilw r0)) :: .int .i64 r1 :: undef :: .agg (vls 21 (ilw x0)) :: .agg (vls 21 (ilw x0)) :: .agg (vls 2 (ilw x1)) :: undef :: undef :: undef :: undef :: undef :: undef :: undef :: undef :: undef :: undef :: undef :: undef :: undef :: []).toArray, defers := [] }) #[true, true, true, false, false, false, false, false, true, false, false] k1 rfl (by rfl) (vls 21 (ilw fun _ => 0)) 80 (alloc_box _ _ _ _ _ _ _) (fun g => by rfl) (by rfl) (fun w9 g9 k9 hB9 hn9 => ?_) AllReadyH.nil
      refine ⟨k9.tail, ?_⟩
      refine wpAnyH_ready (rs := [3]) (by kernel_rfl) (by simp) ?_
      refine callK 3 { tmps := (.agg (vls 21 (ilw x0)) :: .agg (vls 2 (ilw x1)) :: .pointer (some ⟨w.heap.size, 0, none⟩) :: .pointer (some ⟨w.heap.size + 1, 0, none⟩) :: .bool false :: .pointer (some ⟨a0, 0, none⟩) :: .int .i64 r1 :: .pointer (some ⟨g9, 0, none⟩) :: undef :: .tuple #[.agg (vls 21 (ilw r0)), .int .i64 r1] :: .agg (vls 21 (ilw x0)) :: .agg (vls 21 (ilw x0)) :: .agg (vls 2 (ilw x1)) :: .agg (vls 2 (ilw x1)) :: .tuple #[.agg (vls 21 (ilw r0)), .int .i64 r1] :: .agg (vls 21 (ilw r0)) :: .int .i64 r1 :: undef :: .agg (vls 21 (ilw x0)) :: .agg (vls 21 (ilw x0)) :: .agg (vls 2 (ilw x1)) :: .agg (vls 2 (ilw x1)) :: undef :: undef :: undef :: undef :: undef :: undef :: undef :: undef :: undef :: undef :: undef :: undef :: []).toArray, defers := [] } #[true, true, true, true, false, false, false, false, true, false, false] (.agg (vls 2 (ilw x1))) k9 rfl (by rfl) 90 #[.agg (vls 2 (ilw x1))] (run_toPair1 _ _ _ rfl _ _ _ _ _ _) (by rfl) (by rfl) (toPair _ _) (fun w10 k10 => ?_) AllReadyH.nil
      refine ⟨k10.tail, ?_⟩
      refine wpAnyH_ready (rs := [4]) (by kernel_rfl) (by simp) ?_
      refine callK 4 { tmps := (.agg (vls 21 (ilw x0)) :: .agg (vls 2 (ilw x1)) :: .pointer (some ⟨w.heap.size, 0, none⟩) :: .pointer (some ⟨w.heap.size + 1, 0, none⟩) :: .bool false :: .pointer (some ⟨a0, 0, none⟩) :: .int .i64 r1 :: .pointer (some ⟨g9, 0, none⟩) :: undef :: .tuple #[.agg (vls 21 (ilw r0)), .int .i64 r1] :: .agg (vls 21 (ilw x0)) :: .agg (vls 21 (ilw x0)) :: .agg (vls 2 (ilw x1)) :: .agg (vls 2 (ilw x1)) :: .tuple #[.agg (vls 21 (ilw r0)), .int .i64 r1] :: .agg (vls 21 (ilw r0)) :: .int .i64 r1 :: undef :: .agg (vls 21 (ilw x0)) :: .agg (vls 21 (ilw x0)) :: .agg (vls 2 (ilw x1)) :: .agg (vls 2 (ilw x1)) :: .tuple #[.agg (vls 21 (ilw r0)), .int .i64 r1] :: undef :: undef :: undef :: undef :: undef :: undef :: undef :: undef :: undef :: undef :: undef :: []).toArray, defers := [] } #[true, true, true, true, true, false, false, false, true, false, false] (.tuple #[.agg (vls 21 (ilw r0)), .int .i64 r1]) k10 rfl (by rfl) 91 #[.agg (vls 21 (ilw x0)), .agg (vls 2 (ilw x1))] (run_iCollidePair2 _ _ _ rfl _ _ rfl _ _ _ _ _ _) (by rfl) (by rfl) (HI.out _) (fun w11 k11 => ?_) AllReadyH.nil
      refine ⟨k11.tail, ?_⟩
      refine take_val 5 { tmps := (.agg (vls 21 (ilw x0)) :: .agg (vls 2 (ilw x1)) :: .pointer (some ⟨w.heap.size, 0, none⟩) :: .pointer (some ⟨w.heap.size + 1, 0, none⟩) :: .bool false :: .pointer (some ⟨a0, 0, none⟩) :: .int .i64 r1 :: .pointer (some ⟨g9, 0, none⟩) :: undef :: .tuple #[.agg (vls 21 (ilw r0)), .int .i64 r1] :: .agg (vls 21 (ilw x0)) :: .agg (vls 21 (ilw x0)) :: .agg (vls 2 (ilw x1)) :: .agg (vls 2 (ilw x1)) :: .tuple #[.agg (vls 21 (ilw r0)), .int .i64 r1] :: .agg (vls 21 (ilw r0)) :: .int .i64 r1 :: .tuple #[.agg (vls 21 (ilw r0)), .int .i64 r1] :: .agg (vls 21 (ilw x0)) :: .agg (vls 21 (ilw x0)) :: .agg (vls 2 (ilw x1)) :: .agg (vls 2 (ilw x1)) :: .tuple #[.agg (vls 21 (ilw r0)), .int .i64 r1] :: undef :: undef :: undef :: undef :: undef :: undef :: undef :: undef :: undef :: undef :: undef :: []).toArray, defers := [] } #[true, true, true, true, true, true, false, false, true, false, false] (.tuple #[.agg (vls 21 (ilw r0)), .int .i64 r1]) rfl (by rfl) (by kernel_rfl) (by kernel_rfl) (by kernel_rfl) (fun w => by rfl) (by rfl) (by rfl) (k11.tail) ?_
      refine take_val 6 { tmps := (.agg (vls 21 (ilw x0)) :: .agg (vls 2 (ilw x1)) :: .pointer (some ⟨w.heap.size, 0, none⟩) :: .pointer (some ⟨w.heap.size + 1, 0, none⟩) :: .bool false :: .pointer (some ⟨a0, 0, none⟩) :: .int .i64 r1 :: .pointer (some ⟨g9, 0, none⟩) :: undef :: .tuple #[.agg (vls 21 (ilw r0)), .int .i64 r1] :: .agg (vls 21 (ilw x0)) :: .agg (vls 21 (ilw x0)) :: .agg (vls 2 (ilw x1)) :: .agg (vls 2 (ilw x1)) :: .tuple #[.agg (vls 21 (ilw r0)), .int .i64 r1] :: .agg (vls 21 (ilw r0)) :: .int .i64 r1 :: .tuple #[.agg (vls 21 (ilw r0)), .int .i64 r1] :: .agg (vls 21 (ilw x0)) :: .agg (vls 21 (ilw x0)) :: .agg (vls 2 (ilw x1)) :: .agg (vls 2 (ilw x1)) :: .tuple #[.agg (vls 21 (ilw r0)), .int .i64 r1] :: .agg (vls 21 (ilw r0)) :: undef :: undef :: undef :: undef :: undef :: undef :: undef :: undef :: undef :: undef :: []).toArray, defers := [] } #[true, true, true, true, true, true, true, false, true, false, false] (.agg (vls 21 (ilw r0))) rfl (by rfl) (by kernel_rfl) (by kernel_rfl) (by kernel_rfl) (fun w => by rfl) (by rfl) (by rfl) (k11.tail) ?_
      refine take_val 7 { tmps := (.agg (vls 21 (ilw x0)) :: .agg (vls 2 (ilw x1)) :: .pointer (some ⟨w.heap.size, 0, none⟩) :: .pointer (some ⟨w.heap.size + 1, 0, none⟩) :: .bool false :: .pointer (some ⟨a0, 0, none⟩) :: .int .i64 r1 :: .pointer (some ⟨g9, 0, none⟩) :: undef :: .tuple #[.agg (vls 21 (ilw r0)), .int .i64 r1] :: .agg (vls 21 (ilw x0)) :: .agg (vls 21 (ilw x0)) :: .agg (vls 2 (ilw x1)) :: .agg (vls 2 (ilw x1)) :: .tuple #[.agg (vls 21 (ilw r0)), .int .i64 r1] :: .agg (vls 21 (ilw r0)) :: .int .i64 r1 :: .tuple #[.agg (vls 21 (ilw r0)), .int .i64 r1] :: .agg (vls 21 (ilw x0)) :: .agg (vls 21 (ilw x0)) :: .agg (vls 2 (ilw x1)) :: .agg (vls 2 (ilw x1)) :: .tuple #[.agg (vls 21 (ilw r0)), .int .i64 r1] :: .agg (vls 21 (ilw r0)) :: .int .i64 r1 :: undef :: undef :: undef :: undef :: undef :: undef :: undef :: undef :: undef :: []).toArray, defers := [] } #[true, true, true, true, true, true, true, true, true, false, false] (.int .i64 r1) rfl (by rfl) (by kernel_rfl) (by kernel_rfl) (by kernel_rfl) (fun w => by rfl) (by rfl) (by rfl) (k11.tail) ?_
      refine wpAnyH_ready (rs := [9]) (by kernel_rfl) (by simp) ?_
      refine storeK 9 { tmps := (.agg (vls 21 (ilw x0)) :: .agg (vls 2 (ilw x1)) :: .pointer (some ⟨w.heap.size, 0, none⟩) :: .pointer (some ⟨w.heap.size + 1, 0, none⟩) :: .bool false :: .pointer (some ⟨a0, 0, none⟩) :: .int .i64 r1 :: .pointer (some ⟨g9, 0, none⟩) :: undef :: .tuple #[.agg (vls 21 (ilw r0)), .int .i64 r1] :: .agg (vls 21 (ilw x0)) :: .agg (vls 21 (ilw x0)) :: .agg (vls 2 (ilw x1)) :: .agg (vls 2 (ilw x1)) :: .tuple #[.agg (vls 21 (ilw r0)), .int .i64 r1] :: .agg (vls 21 (ilw r0)) :: .int .i64 r1 :: .tuple #[.agg (vls 21 (ilw r0)), .int .i64 r1] :: .agg (vls 21 (ilw x0)) :: .agg (vls 21 (ilw x0)) :: .agg (vls 2 (ilw x1)) :: .agg (vls 2 (ilw x1)) :: .tuple #[.agg (vls 21 (ilw r0)), .int .i64 r1] :: .agg (vls 21 (ilw r0)) :: .int .i64 r1 :: undef :: undef :: undef :: undef :: undef :: undef :: undef :: undef :: undef :: []).toArray, defers := [] } #[true, true, true, true, true, true, true, true, true, true, false] k11 hB9 hn9 rfl (by rfl) 80 _ _ rfl (vls 21 (ilw r0)) (by rfl) (by rfl) (by rw [vls_size]; exact info_box) (by simp) (vls_one (ilw_one _)) (by rfl) (by rfl) (fun w12 k12 => ?_) AllReadyH.nil
      refine ⟨k12.tail, ?_⟩
      refine take_val 10 { tmps := (.agg (vls 21 (ilw x0)) :: .agg (vls 2 (ilw x1)) :: .pointer (some ⟨w.heap.size, 0, none⟩) :: .pointer (some ⟨w.heap.size + 1, 0, none⟩) :: .bool false :: .pointer (some ⟨a0, 0, none⟩) :: .int .i64 r1 :: .pointer (some ⟨g9, 0, none⟩) :: .int .i64 r1 :: .tuple #[.agg (vls 21 (ilw r0)), .int .i64 r1] :: .agg (vls 21 (ilw x0)) :: .agg (vls 21 (ilw x0)) :: .agg (vls 2 (ilw x1)) :: .agg (vls 2 (ilw x1)) :: .tuple #[.agg (vls 21 (ilw r0)), .int .i64 r1] :: .agg (vls 21 (ilw r0)) :: .int .i64 r1 :: .tuple #[.agg (vls 21 (ilw r0)), .int .i64 r1] :: .agg (vls 21 (ilw x0)) :: .agg (vls 21 (ilw x0)) :: .agg (vls 2 (ilw x1)) :: .agg (vls 2 (ilw x1)) :: .tuple #[.agg (vls 21 (ilw r0)), .int .i64 r1] :: .agg (vls 21 (ilw r0)) :: .int .i64 r1 :: undef :: undef :: undef :: undef :: undef :: undef :: undef :: undef :: undef :: []).toArray, defers := [] } #[true, true, true, true, true, true, true, true, true, true, true] (.int .i64 r1) rfl (by rfl) (by kernel_rfl) (by kernel_rfl) (by kernel_rfl) (fun w => by rfl) (by rfl) (by rfl) (k12.tail) ?_
      exact wpAnyH_done (by kernel_rfl) (NoPanic.normal (key2 g9 _ (hid k12))) _
    refine allocK 8 (fun g13 => { tmps := (.agg (vls 21 (ilw x0)) :: .agg (vls 2 (ilw x1)) :: .pointer (some ⟨w.heap.size, 0, none⟩) :: .pointer (some ⟨w.heap.size + 1, 0, none⟩) :: .bool false :: .pointer (some ⟨a0, 0, none⟩) :: .int .i64 r1 :: .pointer (some ⟨g13, 0, none⟩) :: undef :: .tuple #[.agg (vls 21 (ilw r0)), .int .i64 r1] :: .agg (vls 21 (ilw x0)) :: .agg (vls 21 (ilw x0)) :: .agg (vls 2 (ilw x1)) :: .agg (vls 2 (ilw x1)) :: .tuple #[.agg (vls 21 (ilw r0)), .int .i64 r1] :: .agg (vls 21 (ilw r0)) :: .int .i64 r1 :: undef :: .agg (vls 21 (ilw x0)) :: undef :: .agg (vls 2 (ilw x1)) :: undef :: undef :: undef :: undef :: undef :: undef :: undef :: undef :: undef :: undef :: undef :: undef :: undef :: []).toArray, defers := [] }) #[true, false, true, false, false, false, false, false, true, false, false] kd rfl (by rfl) (vls 21 (ilw fun _ => 0)) 80 (alloc_box _ _ _ _ _ _ _) (fun g => by rfl) (by rfl) (fun w13 g13 k13 hB13 hn13 => ?_) AllReadyH.nil
    refine ⟨k13.tail, ?_⟩
    refine wpAnyH_ready (rs := [1]) (by kernel_rfl) (by simp) ?_
    refine callK 1 { tmps := (.agg (vls 21 (ilw x0)) :: .agg (vls 2 (ilw x1)) :: .pointer (some ⟨w.heap.size, 0, none⟩) :: .pointer (some ⟨w.heap.size + 1, 0, none⟩) :: .bool false :: .pointer (some ⟨a0, 0, none⟩) :: .int .i64 r1 :: .pointer (some ⟨g13, 0, none⟩) :: undef :: .tuple #[.agg (vls 21 (ilw r0)), .int .i64 r1] :: .agg (vls 21 (ilw x0)) :: .agg (vls 21 (ilw x0)) :: .agg (vls 2 (ilw x1)) :: .agg (vls 2 (ilw x1)) :: .tuple #[.agg (vls 21 (ilw r0)), .int .i64 r1] :: .agg (vls 21 (ilw r0)) :: .int .i64 r1 :: undef :: .agg (vls 21 (ilw x0)) :: .agg (vls 21 (ilw x0)) :: .agg (vls 2 (ilw x1)) :: undef :: undef :: undef :: undef :: undef :: undef :: undef :: undef :: undef :: undef :: undef :: undef :: undef :: []).toArray, defers := [] } #[true, true, true, false, false, false, false, false, true, false, false] (.agg (vls 21 (ilw x0))) k13 rfl (by rfl) 83 #[.agg (vls 21 (ilw x0))] (run_toBox1 _ _ _ rfl _ _ _ _ _ _) (by rfl) (by rfl) (toBox _ _) (fun w14 k14 => ?_) AllReadyH.nil
    refine ⟨k14.tail, ?_⟩
    refine wpAnyH_ready (rs := [3]) (by kernel_rfl) (by simp) ?_
    refine callK 3 { tmps := (.agg (vls 21 (ilw x0)) :: .agg (vls 2 (ilw x1)) :: .pointer (some ⟨w.heap.size, 0, none⟩) :: .pointer (some ⟨w.heap.size + 1, 0, none⟩) :: .bool false :: .pointer (some ⟨a0, 0, none⟩) :: .int .i64 r1 :: .pointer (some ⟨g13, 0, none⟩) :: undef :: .tuple #[.agg (vls 21 (ilw r0)), .int .i64 r1] :: .agg (vls 21 (ilw x0)) :: .agg (vls 21 (ilw x0)) :: .agg (vls 2 (ilw x1)) :: .agg (vls 2 (ilw x1)) :: .tuple #[.agg (vls 21 (ilw r0)), .int .i64 r1] :: .agg (vls 21 (ilw r0)) :: .int .i64 r1 :: undef :: .agg (vls 21 (ilw x0)) :: .agg (vls 21 (ilw x0)) :: .agg (vls 2 (ilw x1)) :: .agg (vls 2 (ilw x1)) :: undef :: undef :: undef :: undef :: undef :: undef :: undef :: undef :: undef :: undef :: undef :: undef :: []).toArray, defers := [] } #[true, true, true, true, false, false, false, false, true, false, false] (.agg (vls 2 (ilw x1))) k14 rfl (by rfl) 90 #[.agg (vls 2 (ilw x1))] (run_toPair1 _ _ _ rfl _ _ _ _ _ _) (by rfl) (by rfl) (toPair _ _) (fun w15 k15 => ?_) AllReadyH.nil
    refine ⟨k15.tail, ?_⟩
    refine wpAnyH_ready (rs := [4]) (by kernel_rfl) (by simp) ?_
    refine callK 4 { tmps := (.agg (vls 21 (ilw x0)) :: .agg (vls 2 (ilw x1)) :: .pointer (some ⟨w.heap.size, 0, none⟩) :: .pointer (some ⟨w.heap.size + 1, 0, none⟩) :: .bool false :: .pointer (some ⟨a0, 0, none⟩) :: .int .i64 r1 :: .pointer (some ⟨g13, 0, none⟩) :: undef :: .tuple #[.agg (vls 21 (ilw r0)), .int .i64 r1] :: .agg (vls 21 (ilw x0)) :: .agg (vls 21 (ilw x0)) :: .agg (vls 2 (ilw x1)) :: .agg (vls 2 (ilw x1)) :: .tuple #[.agg (vls 21 (ilw r0)), .int .i64 r1] :: .agg (vls 21 (ilw r0)) :: .int .i64 r1 :: undef :: .agg (vls 21 (ilw x0)) :: .agg (vls 21 (ilw x0)) :: .agg (vls 2 (ilw x1)) :: .agg (vls 2 (ilw x1)) :: .tuple #[.agg (vls 21 (ilw r0)), .int .i64 r1] :: undef :: undef :: undef :: undef :: undef :: undef :: undef :: undef :: undef :: undef :: undef :: []).toArray, defers := [] } #[true, true, true, true, true, false, false, false, true, false, false] (.tuple #[.agg (vls 21 (ilw r0)), .int .i64 r1]) k15 rfl (by rfl) 91 #[.agg (vls 21 (ilw x0)), .agg (vls 2 (ilw x1))] (run_iCollidePair2 _ _ _ rfl _ _ rfl _ _ _ _ _ _) (by rfl) (by rfl) (HI.out _) (fun w16 k16 => ?_) AllReadyH.nil
    refine ⟨k16.tail, ?_⟩
    refine take_val 5 { tmps := (.agg (vls 21 (ilw x0)) :: .agg (vls 2 (ilw x1)) :: .pointer (some ⟨w.heap.size, 0, none⟩) :: .pointer (some ⟨w.heap.size + 1, 0, none⟩) :: .bool false :: .pointer (some ⟨a0, 0, none⟩) :: .int .i64 r1 :: .pointer (some ⟨g13, 0, none⟩) :: undef :: .tuple #[.agg (vls 21 (ilw r0)), .int .i64 r1] :: .agg (vls 21 (ilw x0)) :: .agg (vls 21 (ilw x0)) :: .agg (vls 2 (ilw x1)) :: .agg (vls 2 (ilw x1)) :: .tuple #[.agg (vls 21 (ilw r0)), .int .i64 r1] :: .agg (vls 21 (ilw r0)) :: .int .i64 r1 :: .tuple #[.agg (vls 21 (ilw r0)), .int .i64 r1] :: .agg (vls 21 (ilw x0)) :: .agg (vls 21 (ilw x0)) :: .agg (vls 2 (ilw x1)) :: .agg (vls 2 (ilw x1)) :: .tuple #[.agg (vls 21 (ilw r0)), .int .i64 r1] :: undef :: undef :: undef :: undef :: undef :: undef :: undef :: undef :: undef :: undef :: undef :: []).toArray, defers := [] } #[true, true, true, true, true, true, false, false, true, false, false] (.tuple #[.agg (vls 21 (ilw r0)), .int .i64 r1]) rfl (by rfl) (by kernel_rfl) (by kernel_rfl) (by kernel_rfl) (fun w => by rfl) (by rfl) (by rfl) (k16.tail) ?_
    refine take_val 6 { tmps := (.agg (vls 21 (ilw x0)) :: .agg (vls 2 (ilw x1)) :: .pointer (some ⟨w.heap.size, 0, none⟩) :: .pointer (some ⟨w.heap.size + 1, 0, none⟩) :: .bool false :: .pointer (some ⟨a0, 0, none⟩) :: .int .i64 r1 :: .pointer (some ⟨g13, 0, none⟩) :: undef :: .tuple #[.agg (vls 21 (ilw r0)), .int .i64 r1] :: .agg (vls 21 (ilw x0)) :: .agg (vls 21 (ilw x0)) :: .agg (vls 2 (ilw x1)) :: .agg (vls 2 (ilw x1)) :: .tuple #[.agg (vls 21 (ilw r0)), .int .i64 r1] :: .agg (vls 21 (ilw r0)) :: .int .i64 r1 :: .tuple #[.agg (vls 21 (ilw r0)), .int .i64 r1] :: .agg (vls 21 (ilw x0)) :: .agg (vls 21 (ilw x0)) :: .agg (vls 2 (ilw x1)) :: .agg (vls 2 (ilw x1)) :: .tuple #[.agg (vls 21 (ilw r0)), .int .i64 r1] :: .agg (vls 21 (ilw r0)) :: undef :: undef :: undef :: undef :: undef :: undef :: undef :: undef :: undef :: undef :: []).toArray, defers := [] } #[true, true, true, true, true, true, true, false, true, false, false] (.agg (vls 21 (ilw r0))) rfl (by rfl) (by kernel_rfl) (by kernel_rfl) (by kernel_rfl) (fun w => by rfl) (by rfl) (by rfl) (k16.tail) ?_
    refine take_val 7 { tmps := (.agg (vls 21 (ilw x0)) :: .agg (vls 2 (ilw x1)) :: .pointer (some ⟨w.heap.size, 0, none⟩) :: .pointer (some ⟨w.heap.size + 1, 0, none⟩) :: .bool false :: .pointer (some ⟨a0, 0, none⟩) :: .int .i64 r1 :: .pointer (some ⟨g13, 0, none⟩) :: undef :: .tuple #[.agg (vls 21 (ilw r0)), .int .i64 r1] :: .agg (vls 21 (ilw x0)) :: .agg (vls 21 (ilw x0)) :: .agg (vls 2 (ilw x1)) :: .agg (vls 2 (ilw x1)) :: .tuple #[.agg (vls 21 (ilw r0)), .int .i64 r1] :: .agg (vls 21 (ilw r0)) :: .int .i64 r1 :: .tuple #[.agg (vls 21 (ilw r0)), .int .i64 r1] :: .agg (vls 21 (ilw x0)) :: .agg (vls 21 (ilw x0)) :: .agg (vls 2 (ilw x1)) :: .agg (vls 2 (ilw x1)) :: .tuple #[.agg (vls 21 (ilw r0)), .int .i64 r1] :: .agg (vls 21 (ilw r0)) :: .int .i64 r1 :: undef :: undef :: undef :: undef :: undef :: undef :: undef :: undef :: undef :: []).toArray, defers := [] } #[true, true, true, true, true, true, true, true, true, false, false] (.int .i64 r1) rfl (by rfl) (by kernel_rfl) (by kernel_rfl) (by kernel_rfl) (fun w => by rfl) (by rfl) (by rfl) (k16.tail) ?_
    refine wpAnyH_ready (rs := [9]) (by kernel_rfl) (by simp) ?_
    refine storeK 9 { tmps := (.agg (vls 21 (ilw x0)) :: .agg (vls 2 (ilw x1)) :: .pointer (some ⟨w.heap.size, 0, none⟩) :: .pointer (some ⟨w.heap.size + 1, 0, none⟩) :: .bool false :: .pointer (some ⟨a0, 0, none⟩) :: .int .i64 r1 :: .pointer (some ⟨g13, 0, none⟩) :: undef :: .tuple #[.agg (vls 21 (ilw r0)), .int .i64 r1] :: .agg (vls 21 (ilw x0)) :: .agg (vls 21 (ilw x0)) :: .agg (vls 2 (ilw x1)) :: .agg (vls 2 (ilw x1)) :: .tuple #[.agg (vls 21 (ilw r0)), .int .i64 r1] :: .agg (vls 21 (ilw r0)) :: .int .i64 r1 :: .tuple #[.agg (vls 21 (ilw r0)), .int .i64 r1] :: .agg (vls 21 (ilw x0)) :: .agg (vls 21 (ilw x0)) :: .agg (vls 2 (ilw x1)) :: .agg (vls 2 (ilw x1)) :: .tuple #[.agg (vls 21 (ilw r0)), .int .i64 r1] :: .agg (vls 21 (ilw r0)) :: .int .i64 r1 :: undef :: undef :: undef :: undef :: undef :: undef :: undef :: undef :: undef :: []).toArray, defers := [] } #[true, true, true, true, true, true, true, true, true, true, false] k16 hB13 hn13 rfl (by rfl) 80 _ _ rfl (vls 21 (ilw r0)) (by rfl) (by rfl) (by rw [vls_size]; exact info_box) (by simp) (vls_one (ilw_one _)) (by rfl) (by rfl) (fun w17 k17 => ?_) AllReadyH.nil
    refine ⟨k17.tail, ?_⟩
    refine take_val 10 { tmps := (.agg (vls 21 (ilw x0)) :: .agg (vls 2 (ilw x1)) :: .pointer (some ⟨w.heap.size, 0, none⟩) :: .pointer (some ⟨w.heap.size + 1, 0, none⟩) :: .bool false :: .pointer (some ⟨a0, 0, none⟩) :: .int .i64 r1 :: .pointer (some ⟨g13, 0, none⟩) :: .int .i64 r1 :: .tuple #[.agg (vls 21 (ilw r0)), .int .i64 r1] :: .agg (vls 21 (ilw x0)) :: .agg (vls 21 (ilw x0)) :: .agg (vls 2 (ilw x1)) :: .agg (vls 2 (ilw x1)) :: .tuple #[.agg (vls 21 (ilw r0)), .int .i64 r1] :: .agg (vls 21 (ilw r0)) :: .int .i64 r1 :: .tuple #[.agg (vls 21 (ilw r0)), .int .i64 r1] :: .agg (vls 21 (ilw x0)) :: .agg (vls 21 (ilw x0)) :: .agg (vls 2 (ilw x1)) :: .agg (vls 2 (ilw x1)) :: .tuple #[.agg (vls 21 (ilw r0)), .int .i64 r1] :: .agg (vls 21 (ilw r0)) :: .int .i64 r1 :: undef :: undef :: undef :: undef :: undef :: undef :: undef :: undef :: undef :: []).toArray, defers := [] } #[true, true, true, true, true, true, true, true, true, true, true] (.int .i64 r1) rfl (by rfl) (by kernel_rfl) (by kernel_rfl) (by kernel_rfl) (fun w => by rfl) (by rfl) (by rfl) (k17.tail) ?_
    exact wpAnyH_done (by kernel_rfl) (NoPanic.normal (key2 g13 _ (hid k17))) _
  refine region_kept (w0 := w) (l := [(w.heap.size, vls 21 (ilw x0), 76), (w.heap.size + 1, vls 2 (ilw x1), 86)]) 11 #[false, false, false, false, false, false, false, false, false, false, false] (by kernel_rfl) rfl rfl ?_
  have kd := k0.out.drew
  clear k0
  generalize ((w.alloc (.cells (vls 21 (ilw x0)) 76)).alloc (.cells (vls 2 (ilw x1)) 86)).drew = wd at kd ⊢
  refine take_load 0 { tmps := (.agg (vls 21 (ilw x0)) :: .agg (vls 2 (ilw x1)) :: .pointer (some ⟨w.heap.size, 0, none⟩) :: .pointer (some ⟨w.heap.size + 1, 0, none⟩) :: .bool false :: undef :: undef :: undef :: undef :: undef :: .agg (vls 21 (ilw x0)) :: undef :: undef :: undef :: undef :: undef :: undef :: undef :: undef :: undef :: undef :: undef :: undef :: undef :: undef :: undef :: undef :: undef :: undef :: undef :: undef :: undef :: undef :: undef :: []).toArray, defers := [] } #[true, false, false, false, false, false, false, false, false, false, false] rfl (by rfl) (by kernel_rfl) (by kernel_rfl) (by kernel_rfl) 76 _ rfl (w.heap.size) (vls 21 (ilw x0)) 76 (by rfl) (by simp) _ Try.underlying76 rfl (by rw [vls_size]; exact info_lbox) (by rfl) (by rfl) (kd) ?_
  refine take_load 2 { tmps := (.agg (vls 21 (ilw x0)) :: .agg (vls 2 (ilw x1)) :: .pointer (some ⟨w.heap.size, 0, none⟩) :: .pointer (some ⟨w.heap.size + 1, 0, none⟩) :: .bool false :: undef :: undef :: undef :: undef :: undef :: .agg (vls 21 (ilw x0)) :: undef :: .agg (vls 2 (ilw x1)) :: undef :: undef :: undef :: undef :: undef :: undef :: undef :: undef :: undef :: undef :: undef :: undef :: undef :: undef :: undef :: undef :: undef :: undef :: undef :: undef :: undef :: []).toArray, defers := [] } #[true, false, true, false, false, false, false, false, false, false, false] rfl (by rfl) (by kernel_rfl) (by kernel_rfl) (by kernel_rfl) 86 _ rfl (w.heap.size + 1) (vls 2 (ilw x1)) 86 (by rfl) (by simp) _ Try.underlying86 rfl (by rw [vls_size]; exact info_lpair) (by rfl) (by rfl) (kd) ?_
  refine wpAnyH_ready (rs := [1, 8]) (by kernel_rfl) (by simp) ?_
  refine callK 1 { tmps := (.agg (vls 21 (ilw x0)) :: .agg (vls 2 (ilw x1)) :: .pointer (some ⟨w.heap.size, 0, none⟩) :: .pointer (some ⟨w.heap.size + 1, 0, none⟩) :: .bool false :: undef :: undef :: undef :: undef :: undef :: .agg (vls 21 (ilw x0)) :: .agg (vls 21 (ilw x0)) :: .agg (vls 2 (ilw x1)) :: undef :: undef :: undef :: undef :: undef :: undef :: undef :: undef :: undef :: undef :: undef :: undef :: undef :: undef :: undef :: undef :: undef :: undef :: undef :: undef :: undef :: []).toArray, defers := [] } #[true, true, true, false, false, false, false, false, false, false, false] (.agg (vls 21 (ilw x0))) kd rfl (by rfl) 83 #[.agg (vls 21 (ilw x0))] (run_toBox1 _ _ _ rfl _ _ _ _ _ _) (by rfl) (by rfl) (toBox _ _) (fun w1 k1 => ?_) ?_
  · refine ⟨k1, ?_⟩
    refine wpAnyH_ready (rs := [3, 8]) (by kernel_rfl) (by simp) ?_
    refine callK 3 { tmps := (.agg (vls 21 (ilw x0)) :: .agg (vls 2 (ilw x1)) :: .pointer (some ⟨w.heap.size, 0, none⟩) :: .pointer (some ⟨w.heap.size + 1, 0, none⟩) :: .bool false :: undef :: undef :: undef :: undef :: undef :: .agg (vls 21 (ilw x0)) :: .agg (vls 21 (ilw x0)) :: .agg (vls 2 (ilw x1)) :: .agg (vls 2 (ilw x1)) :: undef :: undef :: undef :: undef :: undef :: undef :: undef :: undef :: undef :: undef :: undef :: undef :: undef :: undef :: undef :: undef :: undef :: undef :: undef :: undef :: []).toArray, defers := [] } #[true, true, true, true, false, false, false, false, false, false, false] (.agg (vls 2 (ilw x1))) k1 rfl (by rfl) 90 #[.agg (vls 2 (ilw x1))] (run_toPair1 _ _ _ rfl _ _ _ _ _ _) (by rfl) (by rfl) (toPair _ _) (fun w2 k2 => ?_) ?_
    · refine ⟨k2, ?_⟩
      refine wpAnyH_ready (rs := [4, 8]) (by kernel_rfl) (by simp) ?_
      refine callK 4 { tmps := (.agg (vls 21 (ilw x0)) :: .agg (vls 2 (ilw x1)) :: .pointer (some ⟨w.heap.size, 0, none⟩) :: .pointer (some ⟨w.heap.size + 1, 0, none⟩) :: .bool false :: undef :: undef :: undef :: undef :: undef :: .agg (vls 21 (ilw x0)) :: .agg (vls 21 (ilw x0)) :: .agg (vls 2 (ilw x1)) :: .agg (vls 2 (ilw x1)) :: .tuple #[.agg (vls 21 (ilw r0)), .int .i64 r1] :: undef :: undef :: undef :: undef :: undef :: undef :: undef :: undef :: undef :: undef :: undef :: undef :: undef :: undef :: undef :: undef :: undef :: undef :: undef :: []).toArray, defers := [] } #[true, true, true, true, true, false, false, false, false, false, false] (.tuple #[.agg (vls 21 (ilw r0)), .int .i64 r1]) k2 rfl (by rfl) 89 #[.agg (vls 21 (ilw x0)), .agg (vls 2 (ilw x1))] (run_sCollidePair2 _ _ _ rfl _ _ rfl _ _ _ _ _ _) (by rfl) (by rfl) (HS.out _) (fun w3 k3 => ?_) ?_
      · refine ⟨k3, ?_⟩
        refine take_val 5 { tmps := (.agg (vls 21 (ilw x0)) :: .agg (vls 2 (ilw x1)) :: .pointer (some ⟨w.heap.size, 0, none⟩) :: .pointer (some ⟨w.heap.size + 1, 0, none⟩) :: .bool false :: undef :: undef :: undef :: undef :: .tuple #[.agg (vls 21 (ilw r0)), .int .i64 r1] :: .agg (vls 21 (ilw x0)) :: .agg (vls 21 (ilw x0)) :: .agg (vls 2 (ilw x1)) :: .agg (vls 2 (ilw x1)) :: .tuple #[.agg (vls 21 (ilw r0)), .int .i64 r1] :: undef :: undef :: undef :: undef :: undef :: undef :: undef :: undef :: undef :: undef :: undef :: undef :: undef :: undef :: undef :: undef :: undef :: undef :: undef :: []).toArray, defers := [] } #[true, true, true, true, true, true, false, false, false, false, false] (.tuple #[.agg (vls 21 (ilw r0)), .int .i64 r1]) rfl (by rfl) (by kernel_rfl) (by kernel_rfl) (by kernel_rfl) (fun w => by rfl) (by rfl) (by rfl) (k3) ?_
        refine take_val 6 { tmps := (.agg (vls 21 (ilw x0)) :: .agg (vls 2 (ilw x1)) :: .pointer (some ⟨w.heap.size, 0, none⟩) :: .pointer (some ⟨w.heap.size + 1, 0, none⟩) :: .bool false :: undef :: undef :: undef :: undef :: .tuple #[.agg (vls 21 (ilw r0)), .int .i64 r1] :: .agg (vls 21 (ilw x0)) :: .agg (vls 21 (ilw x0)) :: .agg (vls 2 (ilw x1)) :: .agg (vls 2 (ilw x1)) :: .tuple #[.agg (vls 21 (ilw r0)), .int .i64 r1] :: .agg (vls 21 (ilw r0)) :: undef :: undef :: undef :: undef :: undef :: undef :: undef :: undef :: undef :: undef :: undef :: undef :: undef :: undef :: undef :: undef :: undef :: undef :: []).toArray, defers := [] } #[true, true, true, true, true, true, true, false, false, false, false] (.agg (vls 21 (ilw r0))) rfl (by rfl) (by kernel_rfl) (by kernel_rfl) (by kernel_rfl) (fun w => by rfl) (by rfl) (by rfl) (k3) ?_
        refine take_val 7 { tmps := (.agg (vls 21 (ilw x0)) :: .agg (vls 2 (ilw x1)) :: .pointer (some ⟨w.heap.size, 0, none⟩) :: .pointer (some ⟨w.heap.size + 1, 0, none⟩) :: .bool false :: undef :: undef :: undef :: undef :: .tuple #[.agg (vls 21 (ilw r0)), .int .i64 r1] :: .agg (vls 21 (ilw x0)) :: .agg (vls 21 (ilw x0)) :: .agg (vls 2 (ilw x1)) :: .agg (vls 2 (ilw x1)) :: .tuple #[.agg (vls 21 (ilw r0)), .int .i64 r1] :: .agg (vls 21 (ilw r0)) :: .int .i64 r1 :: undef :: undef :: undef :: undef :: undef :: undef :: undef :: undef :: undef :: undef :: undef :: undef :: undef :: undef :: undef :: undef :: undef :: []).toArray, defers := [] } #[true, true, true, true, true, true, true, true, false, false, false] (.int .i64 r1) rfl (by rfl) (by kernel_rfl) (by kernel_rfl) (by kernel_rfl) (fun w => by rfl) (by rfl) (by rfl) (k3) ?_
        refine wpAnyH_ready (rs := [8]) (by kernel_rfl) (by simp) ?_
        refine allocK 8 (fun g4 => { tmps := (.agg (vls 21 (ilw x0)) :: .agg (vls 2 (ilw x1)) :: .pointer (some ⟨w.heap.size, 0, none⟩) :: .pointer (some ⟨w.heap.size + 1, 0, none⟩) :: .bool false :: .pointer (some ⟨g4, 0, none⟩) :: undef :: undef :: undef :: .tuple #[.agg (vls 21 (ilw r0)), .int .i64 r1] :: .agg (vls 21 (ilw x0)) :: .agg (vls 21 (ilw x0)) :: .agg (vls 2 (ilw x1)) :: .agg (vls 2 (ilw x1)) :: .tuple #[.agg (vls 21 (ilw r0)), .int .i64 r1] :: .agg (vls 21 (ilw r0)) :: .int .i64 r1 :: undef :: undef :: undef :: undef :: undef :: undef :: undef :: undef :: undef :: undef :: undef :: undef :: undef :: undef :: undef :: undef :: undef :: []).toArray, defers := [] }) #[true, true, true, true, true, true, true, true, true, false, false] k3 rfl (by rfl) (vls 21 (ilw fun _ => 0)) 80 (alloc_box _ _ _ _ _ _ _) (fun g => by rfl) (by rfl) (fun w4 g4 k4 hB4 hn4 => ?_) AllReadyH.nil
        refine ⟨k4.tail, ?_⟩
        refine wpAnyH_ready (rs := [9]) (by kernel_rfl) (by simp) ?_
        refine storeK 9 { tmps := (.agg (vls 21 (ilw x0)) :: .agg (vls 2 (ilw x1)) :: .pointer (some ⟨w.heap.size, 0, none⟩) :: .pointer (some ⟨w.heap.size + 1, 0, none⟩) :: .bool false :: .pointer (some ⟨g4, 0, none⟩) :: undef :: undef :: undef :: .tuple #[.agg (vls 21 (ilw r0)), .int .i64 r1] :: .agg (vls 21 (ilw x0)) :: .agg (vls 21 (ilw x0)) :: .agg (vls 2 (ilw x1)) :: .agg (vls 2 (ilw x1)) :: .tuple #[.agg (vls 21 (ilw r0)), .int .i64 r1] :: .agg (vls 21 (ilw r0)) :: .int .i64 r1 :: undef :: undef :: undef :: undef :: undef :: undef :: undef :: undef :: undef :: undef :: undef :: undef :: undef :: undef :: undef :: undef :: undef :: []).toArray, defers := [] } #[true, true, true, true, true, true, true, true, true, true, false] k4 hB4 hn4 rfl (by rfl) 80 _ _ rfl (vls 21 (ilw r0)) (by rfl) (by rfl) (by rw [vls_size]; exact info_box) (by simp) (vls_one (ilw_one _)) (by rfl) (by rfl) (fun w5 k5 => ?_) AllReadyH.nil
        refine ⟨k5.tail, ?_⟩
        refine take_val 10 { tmps := (.agg (vls 21 (ilw x0)) :: .agg (vls 2 (ilw x1)) :: .pointer (some ⟨w.heap.size, 0, none⟩) :: .pointer (some ⟨w.heap.size + 1, 0, none⟩) :: .bool false :: .pointer (some ⟨g4, 0, none⟩) :: .int .i64 r1 :: undef :: undef :: .tuple #[.agg (vls 21 (ilw r0)), .int .i64 r1] :: .agg (vls 21 (ilw x0)) :: .agg (vls 21 (ilw x0)) :: .agg (vls 2 (ilw x1)) :: .agg (vls 2 (ilw x1)) :: .tuple #[.agg (vls 21 (ilw r0)), .int .i64 r1] :: .agg (vls 21 (ilw r0)) :: .int .i64 r1 :: undef :: undef :: undef :: undef :: undef :: undef :: undef :: undef :: undef :: undef :: undef :: undef :: undef :: undef :: undef :: undef :: undef :: []).toArray, defers := [] } #[true, true, true, true, true, true, true, true, true, true, true] (.int .i64 r1) rfl (by rfl) (by kernel_rfl) (by kernel_rfl) (by kernel_rfl) (fun w => by rfl) (by rfl) (by rfl) (k5.tail) ?_
        exact wpAnyH_done (by kernel_rfl) (NoPanic.normal (key1 g4 _ (hid k5))) _
      refine allocK 8 (fun g6 => { tmps := (.agg (vls 21 (ilw x0)) :: .agg (vls 2 (ilw x1)) :: .pointer (some ⟨w.heap.size, 0, none⟩) :: .pointer (some ⟨w.heap.size + 1, 0, none⟩) :: .bool false :: .pointer (some ⟨g6, 0, none⟩) :: undef :: undef :: undef :: undef :: .agg (vls 21 (ilw x0)) :: .agg (vls 21 (ilw x0)) :: .agg (vls 2 (ilw x1)) :: .agg (vls 2 (ilw x1)) :: undef :: undef :: undef :: undef :: undef :: undef :: undef :: undef :: undef :: undef :: undef :: undef :: undef :: undef :: undef :: undef :: undef :: undef :: undef :: undef :: []).toArray, defers := [] }) #[true, true, true, true, false, false, false, false, true, false, false] k2 rfl (by rfl) (vls 21 (ilw fun _ => 0)) 80 (alloc_box _ _ _ _ _ _ _) (fun g => by rfl) (by rfl) (fun w6 g6 k6 hB6 hn6 => ?_) AllReadyH.nil
      refine ⟨k6.tail, ?_⟩
      refine wpAnyH_ready (rs := [4]) (by kernel_rfl) (by simp) ?_
      refine callK 4 { tmps := (.agg (vls 21 (ilw x0)) :: .agg (vls 2 (ilw x1)) :: .pointer (some ⟨w.heap.size, 0, none⟩) :: .pointer (some ⟨w.heap.size + 1, 0, none⟩) :: .bool false :: .pointer (some ⟨g6, 0, none⟩) :: undef :: undef :: undef :: undef :: .agg (vls 21 (ilw x0)) :: .agg (vls 21 (ilw x0)) :: .agg (vls 2 (ilw x1)) :: .agg (vls 2 (ilw x1)) :: .tuple #[.agg (vls 21 (ilw r0)), .int .i64 r1] :: undef :: undef :: undef :: undef :: undef :: undef :: undef :: undef :: undef :: undef :: undef :: undef :: undef :: undef :: undef :: undef :: undef :: undef :: undef :: []).toArray, defers := [] } #[true, true, true, true, true, false, false, false, true, false, false] (.tuple #[.agg (vls 21 (ilw r0)), .int .i64 r1]) k6 rfl (by rfl) 89 #[.agg (vls 21 (ilw x0)), .agg (vls 2 (ilw x1))] (run_sCollidePair2 _ _ _ rfl _ _ rfl _ _ _ _ _ _) (by rfl) (by rfl) (HS.out _) (fun w7 k7 => ?_) AllReadyH.nil
      refine ⟨k7.tail, ?_⟩
      refine take_val 5 { tmps := (.agg (vls 21 (ilw x0)) :: .agg (vls 2 (ilw x1)) :: .pointer (some ⟨w.heap.size, 0, none⟩) :: .pointer (some ⟨w.heap.size + 1, 0, none⟩) :: .bool false :: .pointer (some ⟨g6, 0, none⟩) :: undef :: undef :: undef :: .tuple #[.agg (vls 21 (ilw r0)), .int .i64 r1] :: .agg (vls 21 (ilw x0)) :: .agg (vls 21 (ilw x0)) :: .agg (vls 2 (ilw x1)) :: .agg (vls 2 (ilw x1)) :: .tuple #[.agg (vls 21 (ilw r0)), .int .i64 r1] :: undef :: undef :: undef :: undef :: undef :: undef :: undef :: undef :: undef :: undef :: undef :: undef :: undef :: undef :: undef :: undef :: undef :: undef :: undef :: []).toArray, defers := [] } #[true, true, true, true, true, true, false, false, true, false, false] (.tuple #[.agg (vls 21 (ilw r0)), .int .i64 r1]) rfl (by rfl) (by kernel_rfl) (by kernel_rfl) (by kernel_rfl) (fun w => by rfl) (by rfl) (by rfl) (k7.tail) ?_
      refine take_val 6 { tmps := (.agg (vls 21 (ilw x0)) :: .agg (vls 2 (ilw x1)) :: .pointer (some ⟨w.heap.size, 0, none⟩) :: .pointer (some ⟨w.heap.size + 1, 0, none⟩) :: .bool false :: .pointer (some ⟨g6, 0, none⟩) :: undef :: undef :: undef :: .tuple #[.agg (vls 21 (ilw r0)), .int .i64 r1] :: .agg (vls 21 (ilw x0)) :: .agg (vls 21 (ilw x0)) :: .agg (vls 2 (ilw x1)) :: .agg (vls 2 (ilw x1)) :: .tuple #[.agg (vls 21 (ilw r0)), .int .i64 r1] :: .agg (vls 21 (ilw r0)) :: undef :: undef :: undef :: undef :: undef :: undef :: undef :: undef :: undef :: undef :: undef :: undef :: undef :: undef :: undef :: undef :: undef :: undef :: []).toArray, defers := [] } #[true, true, true, true, true, true, true, false, true, false, false] (.agg (vls 21 (ilw r0))) rfl (by rfl) (by kernel_rfl) (by kernel_rfl) (by kernel_rfl) (fun w => by rfl) (by rfl) (by rfl) (k7.tail) ?_
      refine take_val 7 { tmps := (.agg (vls 21 (ilw x0)) :: .agg (vls 2 (ilw x1)) :: .pointer (some ⟨w.heap.size, 0, none⟩) :: .pointer (some ⟨w.heap.size + 1, 0, none⟩) :: .bool false :: .pointer (some ⟨g6, 0, none⟩) :: undef :: undef :: undef :: .tuple #[.agg (vls 21 (ilw r0)), .int .i64 r1] :: .agg (vls 21 (ilw x0)) :: .agg (vls 21 (ilw x0)) :: .agg (vls 2 (ilw x1)) :: .agg (vls 2 (ilw x1)) :: .tuple #[.agg (vls 21 (ilw r0)), .int .i64 r1] :: .agg (vls 21 (ilw r0)) :: .int .i64 r1 :: undef :: undef :: undef :: undef :: undef :: undef :: undef :: undef :: undef :: undef :: undef :: undef :: undef :: undef :: undef :: undef :: undef :: []).toArray, defers := [] } #[true, true, true, true, true, true, true, true, true, false, false] (.int .i64 r1) rfl (by rfl) (by kernel_rfl) (by kernel_rfl) (by kernel_rfl) (fun w => by rfl) (by rfl) (by rfl) (k7.tail) ?_
      refine wpAnyH_ready (rs := [9]) (by kernel_rfl) (by simp) ?_
      refine storeK 9 { tmps := (.agg (vls 21 (ilw x0)) :: .agg (vls 2 (ilw x1)) :: .pointer (some ⟨w.heap.size, 0, none⟩) :: .pointer (some ⟨w.heap.size + 1, 0, none⟩) :: .bool false :: .pointer (some ⟨g6, 0, none⟩) :: undef :: undef :: undef :: .tuple #[.agg (vls 21 (ilw r0)), .int .i64 r1] :: .agg (vls 21 (ilw x0)) :: .agg (vls 21 (ilw x0)) :: .agg (vls 2 (ilw x1)) :: .agg (vls 2 (ilw x1)) :: .tuple #[.agg (vls 21 (ilw r0)), .int .i64 r1] :: .agg (vls 21 (ilw r0)) :: .int .i64 r1 :: undef :: undef :: undef :: undef :: undef :: undef :: undef :: undef :: undef :: undef :: undef :: undef :: undef :: undef :: undef :: undef :: undef :: []).toArray, defers := [] } #[true, true, true, true, true, true, true, true, true, true, false] k7 hB6 hn6 rfl (by rfl) 80 _ _ rfl (vls 21 (ilw r0)) (by rfl) (by rfl) (by rw [vls_size]; exact info_box) (by simp) (vls_one (ilw_one _)) (by rfl) (by rfl) (fun w8 k8 => ?_) AllReadyH.nil
      refine ⟨k8.tail, ?_⟩
      refine take_val 10 { tmps := (.agg (vls 21 (ilw x0)) :: .agg (vls 2 (ilw x1)) :: .pointer (some ⟨w.heap.size, 0, none⟩) :: .pointer (some ⟨w.heap.size + 1, 0, none⟩) :: .bool false :: .pointer (some ⟨g6, 0, none⟩) :: .int .i64 r1 :: undef :: undef :: .tuple #[.agg (vls 21 (ilw r0)), .int .i64 r1] :: .agg (vls 21 (ilw x0)) :: .agg (vls 21 (ilw x0)) :: .agg (vls 2 (ilw x1)) :: .agg (vls 2 (ilw x1)) :: .tuple #[.agg (vls 21 (ilw r0)), .int .i64 r1] :: .agg (vls 21 (ilw r0)) :: .int .i64 r1 :: undef :: undef :: undef :: undef :: undef :: undef :: undef :: undef :: undef :: undef :: undef :: undef :: undef :: undef :: undef :: undef :: undef :: []).toArray, defers := [] } #[true, true, true, true, true, true, true, true, true, true, true] (.int .i64 r1) rfl (by rfl) (by kernel_rfl) (by kernel_rfl) (by kernel_rfl) (fun w => by rfl) (by rfl) (by rfl) (k8.tail) ?_
      exact wpAnyH_done (by kernel_rfl) (NoPanic.normal (key1 g6 _ (hid k8))) _
    refine allocK 8 (fun g9 => { tmps := (.agg (vls 21 (ilw x0)) :: .agg (vls 2 (ilw x1)) :: .pointer (some ⟨w.heap.size, 0, none⟩) :: .pointer (some ⟨w.heap.size + 1, 0, none⟩) :: .bool false :: .pointer (some ⟨g9, 0, none⟩) :: undef :: undef :: undef :: undef :: .agg (vls 21 (ilw x0)) :: .agg (vls 21 (ilw x0)) :: .agg (vls 2 (ilw x1)) :: undef :: undef :: undef :: undef :: undef :: undef :: undef :: undef :: undef :: undef :: undef :: undef :: undef :: undef :: undef :: undef :: undef :: undef :: undef :: undef :: undef :: []).toArray, defers := [] }) #[true, true, true, false, false, false, false, false, true, false, false] k1 rfl (by rfl) (vls 21 (ilw fun _ => 0)) 80 (alloc_box _ _ _ _ _ _ _) (fun g => by rfl) (by rfl) (fun w9 g9 k9 hB9 hn9 => ?_) AllReadyH.nil
    refine ⟨k9.tail, ?_⟩
    refine wpAnyH_ready (rs := [3]) (by kernel_rfl) (by simp) ?_
    refine callK 3 { tmps := (.agg (vls 21 (ilw x0)) :: .agg (vls 2 (ilw x1)) :: .pointer (some ⟨w.heap.size, 0, none⟩) :: .pointer (some ⟨w.heap.size + 1, 0, none⟩) :: .bool false :: .pointer (some ⟨g9, 0, none⟩) :: undef :: undef :: undef :: undef :: .agg (vls 21 (ilw x0)) :: .agg (vls 21 (ilw x0)) :: .agg (vls 2 (ilw x1)) :: .agg (vls 2 (ilw x1)) :: undef :: undef :: undef :: undef :: undef :: undef :: undef :: undef :: undef :: undef :: undef :: undef :: undef :: undef :: undef :: undef :: undef :: undef :: undef :: undef :: []).toArray, defers := [] } #[true, true, true, true, false, false, false, false, true, false, false] (.agg (vls 2 (ilw x1))) k9 rfl (by rfl) 90 #[.agg (vls 2 (ilw x1))] (run_toPair1 _ _ _ rfl _ _ _ _ _ _) (by rfl) (by rfl) (toPair _ _) (fun w10 k10 => ?_) AllReadyH.nil
    refine ⟨k10.tail, ?_⟩
    refine wpAnyH_ready (rs := [4]) (by kernel_rfl) (by simp) ?_
    refine callK 4 { tmps := (.agg (vls 21 (ilw x0)) :: .agg (vls 2 (ilw x1)) :: .pointer (some ⟨w.heap.size, 0, none⟩) :: .pointer (some ⟨w.heap.size + 1, 0, none⟩) :: .bool false :: .pointer (some ⟨g9, 0, none⟩) :: undef :: undef :: undef :: undef :: .agg (vls 21 (ilw x0)) :: .agg (vls 21 (ilw x0)) :: .agg (vls 2 (ilw x1)) :: .agg (vls 2 (ilw x1)) :: .tuple #[.agg (vls 21 (ilw r0)), .int .i64 r1] :: undef :: undef :: undef :: undef :: undef :: undef :: undef :: undef :: undef :: undef :: undef :: undef :: undef :: undef :: undef :: undef :: undef :: undef :: undef :: []).toArray, defers := [] } #[true, true, true, true, true, false, false, false, true, false, false] (.tuple #[.agg (vls 21 (ilw r0)), .int .i64 r1]) k10 rfl (by rfl) 89 #[.agg (vls 21 (ilw x0)), .agg (vls 2 (ilw x1))] (run_sCollidePair2 _ _ _ rfl _ _ rfl _ _ _ _ _ _) (by rfl) (by rfl) (HS.out _) (fun w11 k11 => ?_) AllReadyH.nil
    refine ⟨k11.tail, ?_⟩
    refine take_val 5 { tmps := (.agg (vls 21 (ilw x0)) :: .agg (vls 2 (ilw x1)) :: .pointer (some ⟨w.heap.size, 0, none⟩) :: .pointer (some ⟨w.heap.size + 1, 0, none⟩) :: .bool false :: .pointer (some ⟨g9, 0, none⟩) :: undef :: undef :: undef :: .tuple #[.agg (vls 21 (ilw r0)), .int .i64 r1] :: .agg (vls 21 (ilw x0)) :: .agg (vls 21 (ilw x0)) :: .agg (vls 2 (ilw x1)) :: .agg (vls 2 (ilw x1)) :: .tuple #[.agg (vls 21 (ilw r0)), .int .i64 r1] :: undef :: undef :: undef :: undef :: undef :: undef :: undef :: undef :: undef :: undef :: undef :: undef :: undef :: undef :: undef :: undef :: undef :: undef :: undef :: []).toArray, defers := [] } #[true, true, true, true, true, true, false, false, true, false, false] (.tuple #[.agg (vls 21 (ilw r0)), .int .i64 r1]) rfl (by rfl) (by kernel_rfl) (by kernel_rfl) (by kernel_rfl) (fun w => by rfl) (by rfl) (by rfl) (k11.tail) ?_
    refine take_val 6 { tmps := (.agg (vls 21 (ilw x0)) :: .agg (vls 2 (ilw x1)) :: .pointer (some ⟨w.heap.size, 0, none⟩) :: .pointer (some ⟨w.heap.size + 1, 0, none⟩) :: .bool false :: .pointer (some ⟨g9, 0, none⟩) :: undef :: undef :: undef :: .tuple #[.agg (vls 21 (ilw r0)), .int .i64 r1] :: .agg (vls 21 (ilw x0)) :: .agg (vls 21 (ilw x0)) :: .agg (vls 2 (ilw x1)) :: .agg (vls 2 (ilw x1)) :: .tuple #[.agg (vls 21 (ilw r0)), .int .i64 r1] :: .agg (vls 21 (ilw r0)) :: undef :: undef :: undef :: undef :: undef :: undef :: undef :: undef :: undef :: undef :: undef :: undef :: undef :: undef :: undef :: undef :: undef :: undef :: []).toArray, defers := [] } #[true, true, true, true, true, true, true, false, true, false, false] (.agg (vls 21 (ilw r0))) rfl (by rfl) (by kernel_rfl) (by kernel_rfl) (by kernel_rfl) (fun w => by rfl) (by rfl) (by rfl) (k11.tail) ?_
    refine take_val 7 { tmps := (.agg (vls 21 (ilw x0)) :: .agg (vls 2 (ilw x1)) :: .pointer (some ⟨w.heap.size, 0, none⟩) :: .pointer (some ⟨w.heap.size + 1, 0, none⟩) :: .bool false :: .pointer (some ⟨g9, 0, none⟩) :: undef :: undef :: undef :: .tuple #[.agg (vls 21 (ilw r0)), .int .i64 r1] :: .agg (vls 21 (ilw x0)) :: .agg (vls 21 (ilw x0)) :: .agg (vls 2 (ilw x1)) :: .agg (vls 2 (ilw x1)) :: .tuple #[.agg (vls 21 (ilw r0)), .int .i64 r1] :: .agg (vls 21 (ilw r0)) :: .int .i64 r1 :: undef :: undef :: undef :: undef :: undef :: undef :: undef :: undef :: undef :: undef :: undef :: undef :: undef :: undef :: undef :: undef :: undef :: []).toArray, defers := [] } #[true, true, true, true, true, true, true, true, true, false, false] (.int .i64 r1) rfl (by rfl) (by kernel_rfl) (by kernel_rfl) (by kernel_rfl) (fun w => by rfl) (by rfl) (by rfl) (k11.tail) ?_
    refine wpAnyH_ready (rs := [9]) (by kernel_rfl) (by simp) ?_
    refine storeK 9 { tmps := (.agg (vls 21 (ilw x0)) :: .agg (vls 2 (ilw x1)) :: .pointer (some ⟨w.heap.size, 0, none⟩) :: .pointer (some ⟨w.heap.size + 1, 0, none⟩) :: .bool false :: .pointer (some ⟨g9, 0, none⟩) :: undef :: undef :: undef :: .tuple #[.agg (vls 21 (ilw r0)), .int .i64 r1] :: .agg (vls 21 (ilw x0)) :: .agg (vls 21 (ilw x0)) :: .agg (vls 2 (ilw x1)) :: .agg (vls 2 (ilw x1)) :: .tuple #[.agg (vls 21 (ilw r0)), .int .i64 r1] :: .agg (vls 21 (ilw r0)) :: .int .i64 r1 :: undef :: undef :: undef :: undef :: undef :: undef :: undef :: undef :: undef :: undef :: undef :: undef :: undef :: undef :: undef :: undef :: undef :: []).toArray, defers := [] } #[true, true, true, true, true, true, true, true, true, true, false] k11 hB9 hn9 rfl (by rfl) 80 _ _ rfl (vls 21 (ilw r0)) (by rfl) (by rfl) (by rw [vls_size]; exact info_box) (by simp) (vls_one (ilw_one _)) (by rfl) (by rfl) (fun w12 k12 => ?_) AllReadyH.nil
    refine ⟨k12.tail, ?_⟩
    refine take_val 10 { tmps := (.agg (vls 21 (ilw x0)) :: .agg (vls 2 (ilw x1)) :: .pointer (some ⟨w.heap.size, 0, none⟩) :: .pointer (some ⟨w.heap.size + 1, 0, none⟩) :: .bool false :: .pointer (some ⟨g9, 0, none⟩) :: .int .i64 r1 :: undef :: undef :: .tuple #[.agg (vls 21 (ilw r0)), .int .i64 r1] :: .agg (vls 21 (ilw x0)) :: .agg (vls 21 (ilw x0)) :: .agg (vls 2 (ilw x1)) :: .agg (vls 2 (ilw x1)) :: .tuple #[.agg (vls 21 (ilw r0)), .int .i64 r1] :: .agg (vls 21 (ilw r0)) :: .int .i64 r1 :: undef :: undef :: undef :: undef :: undef :: undef :: undef :: undef :: undef :: undef :: undef :: undef :: undef :: undef :: undef :: undef :: undef :: []).toArray, defers := [] } #[true, true, true, true, true, true, true, true, true, true, true] (.int .i64 r1) rfl (by rfl) (by kernel_rfl) (by kernel_rfl) (by kernel_rfl) (fun w => by rfl) (by rfl) (by rfl) (k12.tail) ?_
    exact wpAnyH_done (by kernel_rfl) (NoPanic.normal (key1 g9 _ (hid k12))) _
  refine allocK 8 (fun g13 => { tmps := (.agg (vls 21 (ilw x0)) :: .agg (vls 2 (ilw x1)) :: .pointer (some ⟨w.heap.size, 0, none⟩) :: .pointer (some ⟨w.heap.size + 1, 0, none⟩) :: .bool false :: .pointer (some ⟨g13, 0, none⟩) :: undef :: undef :: undef :: undef :: .agg (vls 21 (ilw x0)) :: undef :: .agg (vls 2 (ilw x1)) :: undef :: undef :: undef :: undef :: undef :: undef :: undef :: undef :: undef :: undef :: undef :: undef :: undef :: undef :: undef :: undef :: undef :: undef :: undef :: undef :: undef :: []).toArray, defers := [] }) #[true, false, true, false, false, false, false, false, true, false, false] kd rfl (by rfl) (vls 21 (ilw fun _ => 0)) 80 (alloc_box _ _ _ _ _ _ _) (fun g => by rfl) (by rfl) (fun w13 g13 k13 hB13 hn13 => ?_) AllReadyH.nil
  refine ⟨k13.tail, ?_⟩
  refine wpAnyH_ready (rs := [1]) (by kernel_rfl) (by simp) ?_
  refine callK 1 { tmps := (.agg (vls 21 (ilw x0)) :: .agg (vls 2 (ilw x1)) :: .pointer (some ⟨w.heap.size, 0, none⟩) :: .pointer (some ⟨w.heap.size + 1, 0, none⟩) :: .bool false :: .pointer (some ⟨g13, 0, none⟩) :: undef :: undef :: undef :: undef :: .agg (vls 21 (ilw x0)) :: .agg (vls 21 (ilw x0)) :: .agg (vls 2 (ilw x1)) :: undef :: undef :: undef :: undef :: undef :: undef :: undef :: undef :: undef :: undef :: undef :: undef :: undef :: undef :: undef :: undef :: undef :: undef :: undef :: undef :: undef :: []).toArray, defers := [] } #[true, true, true, false, false, false, false, false, true, false, false] (.agg (vls 21 (ilw x0))) k13 rfl (by rfl) 83 #[.agg (vls 21 (ilw x0))] (run_toBox1 _ _ _ rfl _ _ _ _ _ _) (by rfl) (by rfl) (toBox _ _) (fun w14 k14 => ?_) AllReadyH.nil
  refine ⟨k14.tail, ?_⟩
  refine wpAnyH_ready (rs := [3]) (by kernel_rfl) (by simp) ?_
  refine callK 3 { tmps := (.agg (vls 21 (ilw x0)) :: .agg (vls 2 (ilw x1)) :: .pointer (some ⟨w.heap.size, 0, none⟩) :: .pointer (some ⟨w.heap.size + 1, 0, none⟩) :: .bool false :: .pointer (some ⟨g13, 0, none⟩) :: undef :: undef :: undef :: undef :: .agg (vls 21 (ilw x0)) :: .agg (vls 21 (ilw x0)) :: .agg (vls 2 (ilw x1)) :: .agg (vls 2 (ilw x1)) :: undef :: undef :: undef :: undef :: undef :: undef :: undef :: undef :: undef :: undef :: undef :: undef :: undef :: undef :: undef :: undef :: undef :: undef :: undef :: undef :: []).toArray, defers := [] } #[true, true, true, true, false, false, false, false, true, false, false] (.agg (vls 2 (ilw x1))) k14 rfl (by rfl) 90 #[.agg (vls 2 (ilw x1))] (run_toPair1 _ _ _ rfl _ _ _ _ _ _) (by rfl) (by rfl) (toPair _ _) (fun w15 k15 => ?_) AllReadyH.nil
  refine ⟨k15.tail, ?_⟩
  refine wpAnyH_ready (rs := [4]) (by kernel_rfl) (by simp) ?_
  refine callK 4 { tmps := (.agg (vls 21 (ilw x0)) :: .agg (vls 2 (ilw x1)) :: .pointer (some ⟨w.heap.size, 0, none⟩) :: .pointer (some ⟨w.heap.size + 1, 0, none⟩) :: .bool false :: .pointer (some ⟨g13, 0, none⟩) :: undef :: undef :: undef :: undef :: .agg (vls 21 (ilw x0)) :: .agg (vls 21 (ilw x0)) :: .agg (vls 2 (ilw x1)) :: .agg (vls 2 (ilw x1)) :: .tuple #[.agg (vls 21 (ilw r0)), .int .i64 r1] :: undef :: undef :: undef :: undef :: undef :: undef :: undef :: undef :: undef :: undef :: undef :: undef :: undef :: undef :: undef :: undef :: undef :: undef :: undef :: []).toArray, defers := [] } #[true, true, true, true, true, false, false, false, true, false, false] (.tuple #[.agg (vls 21 (ilw r0)), .int .i64 r1]) k15 rfl (by rfl) 89 #[.agg (vls 21 (ilw x0)), .agg (vls 2 (ilw x1))] (run_sCollidePair2 _ _ _ rfl _ _ rfl _ _ _ _ _ _) (by rfl) (by rfl) (HS.out _) (fun w16 k16 => ?_) AllReadyH.nil
  refine ⟨k16.tail, ?_⟩
  refine take_val 5 { tmps := (.agg (vls 21 (ilw x0)) :: .agg (vls 2 (ilw x1)) :: .pointer (some ⟨w.heap.size, 0, none⟩) :: .pointer (some ⟨w.heap.size + 1, 0, none⟩) :: .bool false :: .pointer (some ⟨g13, 0, none⟩) :: undef :: undef :: undef :: .tuple #[.agg (vls 21 (ilw r0)), .int .i64 r1] :: .agg (vls 21 (ilw x0)) :: .agg (vls 21 (ilw x0)) :: .agg (vls 2 (ilw x1)) :: .agg (vls 2 (ilw x1)) :: .tuple #[.agg (vls 21 (ilw r0)), .int .i64 r1] :: undef :: undef :: undef :: undef :: undef :: undef :: undef :: undef :: undef :: undef :: undef :: undef :: undef :: undef :: undef :: undef :: undef :: undef :: undef :: []).toArray, defers := [] } #[true, true, true, true, true, true, false, false, true, false, false] (.tuple #[.agg (vls 21 (ilw r0)), .int .i64 r1]) rfl (by rfl) (by kernel_rfl) (by kernel_rfl) (by kernel_rfl) (fun w => by rfl) (by rfl) (by rfl) (k16.tail) ?_
  refine take_val 6 { tmps := (.agg (vls 21 (ilw x0)) :: .agg (vls 2 (ilw x1)) :: .pointer (some ⟨w.heap.size, 0, none⟩) :: .pointer (some ⟨w.heap.size + 1, 0, none⟩) :: .bool false :: .pointer (some ⟨g13, 0, none⟩) :: undef :: undef :: undef :: .tuple #[.agg (vls 21 (ilw r0)), .int .i64 r1] :: .agg (vls 21 (ilw x0)) :: .agg (vls 21 (ilw x0)) :: .agg (vls 2 (ilw x1)) :: .agg (vls 2 (ilw x1)) :: .tuple #[.agg (vls 21 (ilw r0)), .int .i64 r1] :: .agg (vls 21 (ilw r0)) :: undef :: undef :: undef :: undef :: undef :: undef :: undef :: undef :: undef :: undef :: undef :: undef :: undef :: undef :: undef :: undef :: undef :: undef :: []).toArray, defers := [] } #[true, true, true, true, true, true, true, false, true, false, false] (.agg (vls 21 (ilw r0))) rfl (by rfl) (by kernel_rfl) (by kernel_rfl) (by kernel_rfl) (fun w => by rfl) (by rfl) (by rfl) (k16.tail) ?_
  refine take_val 7 { tmps := (.agg (vls 21 (ilw x0)) :: .agg (vls 2 (ilw x1)) :: .pointer (some ⟨w.heap.size, 0, none⟩) :: .pointer (some ⟨w.heap.size + 1, 0, none⟩) :: .bool false :: .pointer (some ⟨g13, 0, none⟩) :: undef :: undef :: undef :: .tuple #[.agg (vls 21 (ilw r0)), .int .i64 r1] :: .agg (vls 21 (ilw x0)) :: .agg (vls 21 (ilw x0)) :: .agg (vls 2 (ilw x1)) :: .agg (vls 2 (ilw x1)) :: .tuple #[.agg (vls 21 (ilw r0)), .int .i64 r1] :: .agg (vls 21 (ilw r0)) :: .int .i64 r1 :: undef :: undef :: undef :: undef :: undef :: undef :: undef :: undef :: undef :: undef :: undef :: undef :: undef :: undef :: undef :: undef :: undef :: []).toArray, defers := [] } #[true, true, true, true, true, true, true, true, true, false, false] (.int .i64 r1) rfl (by rfl) (by kernel_rfl) (by kernel_rfl) (by kernel_rfl) (fun w => by rfl) (by rfl) (by rfl) (k16.tail) ?_
  refine wpAnyH_ready (rs := [9]) (by kernel_rfl) (by simp) ?_
  refine storeK 9 { tmps := (.agg (vls 21 (ilw x0)) :: .agg (vls 2 (ilw x1)) :: .pointer (some ⟨w.heap.size, 0, none⟩) :: .pointer (some ⟨w.heap.size + 1, 0, none⟩) :: .bool false :: .pointer (some ⟨g13, 0, none⟩) :: undef :: undef :: undef :: .tuple #[.agg (vls 21 (ilw r0)), .int .i64 r1] :: .agg (vls 21 (ilw x0)) :: .agg (vls 21 (ilw x0)) :: .agg (vls 2 (ilw x1)) :: .agg (vls 2 (ilw x1)) :: .tuple #[.agg (vls 21 (ilw r0)), .int .i64 r1] :: .agg (vls 21 (ilw r0)) :: .int .i64 r1 :: undef :: undef :: undef :: undef :: undef :: undef :: undef :: undef :: undef :: undef :: undef :: undef :: undef :: undef :: undef :: undef :: undef :: []).toArray, defers := [] } #[true, true, true, true, true, true, true, true, true, true, false] k16 hB13 hn13 rfl (by rfl) 80 _ _ rfl (vls 21 (ilw r0)) (by rfl) (by rfl) (by rw [vls_size]; exact info_box) (by simp) (vls_one (ilw_one _)) (by rfl) (by rfl) (fun w17 k17 => ?_) AllReadyH.nil
  refine ⟨k17.tail, ?_⟩
  refine take_val 10 { tmps := (.agg (vls 21 (ilw x0)) :: .agg (vls 2 (ilw x1)) :: .pointer (some ⟨w.heap.size, 0, none⟩) :: .pointer (some ⟨w.heap.size + 1, 0, none⟩) :: .bool false :: .pointer (some ⟨g13, 0, none⟩) :: .int .i64 r1 :: undef :: undef :: .tuple #[.agg (vls 21 (ilw r0)), .int .i64 r1] :: .agg (vls 21 (ilw x0)) :: .agg (vls 21 (ilw x0)) :: .agg (vls 2 (ilw x1)) :: .agg (vls 2 (ilw x1)) :: .tuple #[.agg (vls 21 (ilw r0)), .int .i64 r1] :: .agg (vls 21 (ilw r0)) :: .int .i64 r1 :: undef :: undef :: undef :: undef :: undef :: undef :: undef :: undef :: undef :: undef :: undef :: undef :: undef :: undef :: undef :: undef :: undef :: []).toArray, defers := [] } #[true, true, true, true, true, true, true, true, true, true, true] (.int .i64 r1) rfl (by rfl) (by kernel_rfl) (by kernel_rfl) (by kernel_rfl) (fun w => by rfl) (by rfl) (by rfl) (k17.tail) ?_
  exact wpAnyH_done (by kernel_rfl) (NoPanic.normal (key1 g13 _ (hid k17))) _

theorem lawCollidePair (b : Nat → Int) (_hb : ∀ i, i < 21 → inI64 (b i)) (p : Nat → Int) (_hp : ∀ i, i < 2 → inI64 (p i)) (w : World) :
    Calls Try.prog 27 #[.agg (vls 21 (ilw b)), .agg (vls 2 (ilw p))] w fun e w' => e = .returned (.bool true) ∧ Below w.heap.size w w' := by
  rcases Classical.em (Bx b) with h | h
  · by_cases c0 : 0 ≤ p 0 ∧ p 0 < 20
    · obtain ⟨i, hi⟩ := Int.eq_ofNat_of_zero_le c0.1
      have hi2 : i < 20 := by omega
      by_cases c1 : 0 ≤ p 1 ∧ p 1 < 20
      · obtain ⟨j, hj⟩ := Int.eq_ofNat_of_zero_le c1.1
        have hj2 : j < 20 := by omega
        by_cases n0 : tk2 b i j i < 0
        · exact coreCollidePair b p _ _ (sPair_good b p h _ _ (sP_n0 b p h i j hi2 hj2 hi hj n0)) (iPair_n0 b p h i j hi2 hj2 hi hj n0) w
        · by_cases n1 : tk2 b i j j < 0
          · exact coreCollidePair b p _ _ (sPair_good b p h _ _ (sP_n1 b p h i j hi2 hj2 hi hj n0 n1)) (iPair_n1 b p h i j hi2 hj2 hi hj n0 n1) w
          · rcases Classical.em (Bx (tk4 b i j)) with h4 | h4
            · exact coreCollidePair b p _ _ (sPair_good b p h _ _ (sP_ok b p h i j hi2 hj2 hi hj n0 n1 _ _ (.inl ⟨h4, rfl, rfl⟩))) (iPair_ok b p h i j hi2 hj2 hi hj n0 n1 _ _ (iWithin_t _ h4)) w
            · exact coreCollidePair b p _ _ (sPair_good b p h _ _ (sP_ok b p h i j hi2 hj2 hi hj n0 n1 _ _ (.inr ⟨h4, rfl, rfl⟩))) (iPair_ok b p h i j hi2 hj2 hi hj n0 n1 _ _ (iWithin_f _ h4)) w
      · exact coreCollidePair b p _ _ (sPair_good b p h _ _ (sP_c1 b p i hi2 hi c1)) (iPair_c1 b p h i hi2 hi c1) w
    · exact coreCollidePair b p _ _ (sPair_good b p h _ _ (sP_c0 b p c0)) (iPair_c0 b p h c0) w
  · exact coreCollidePair b p _ _ (sPair_bad b p h) (iPair_bad b p h) w

theorem words_cons : ∀ (v : List Char) (r : List Char), (∀ c ∈ v, c ≠ Char.ofNat 32) → wordsSigns (v ++ Char.ofNat 32 :: r) = v :: wordsSigns r
  | [], r, _ => rfl
  | c :: v, r, h => by
    have ih := words_cons v r (fun x hx => h x (by simp [hx]))
    have hc : c ≠ Char.ofNat 32 := h c (by simp)
    show wordsSigns (c :: (v ++ Char.ofNat 32 :: r)) = _
    rw [wordsSigns.eq_3 _ _ (fun e => hc e), ih]

def w0 : List Nat := [104, 97, 114, 110, 101, 115, 115]

def w1 : List Nat := [97, 97, 48, 52, 102, 49, 99, 51, 50, 54, 56, 53, 56, 53, 102, 57, 99, 56, 55, 101, 50, 56, 99, 101, 57, 99, 99, 99, 52, 98, 56, 57, 52, 51, 53, 102, 101, 102, 99, 51, 54, 98, 102, 57, 51, 50, 53, 51, 57, 101, 54, 98, 50, 101, 98, 55, 50, 53, 53, 97, 54, 51, 54, 55]

def w2 : List Nat := [99, 117, 116]

def w3 : List Nat := [97, 116, 32, 108, 111, 111, 112, 46, 101, 120, 97, 109, 112, 108, 101, 47, 103, 48, 49, 50, 50, 52, 47, 108, 97, 119, 115, 46, 70, 110, 69, 120, 97, 99, 116, 84, 104, 105, 114, 100, 82, 111, 111, 116, 32, 108, 111, 111, 112, 46, 101, 120, 97, 109, 112, 108, 101, 47, 103, 48, 49, 50, 50, 52, 47, 108, 97, 119, 115, 46, 70, 110, 69, 120, 97, 99, 116, 83, 104, 105, 102, 116, 77, 97, 115, 115, 101, 115, 32, 108, 111, 111, 112, 46, 101, 120, 97, 109, 112, 108, 101, 47, 103, 48, 49, 50, 50, 52, 47, 108, 97, 119, 115, 46, 70, 110, 69, 120, 97, 99, 116, 71, 97, 105, 110, 115, 65, 116, 32, 108, 111, 111, 112, 46, 101, 120, 97, 109, 112, 108, 101, 47, 103, 48, 49, 50, 50, 52, 47, 108, 97, 119, 115, 46, 70, 110, 69, 120, 97, 99, 116, 71, 114, 111, 119, 79, 110, 99, 101, 32, 108, 111, 111, 112, 46, 101, 120, 97, 109, 112, 108, 101, 47, 103, 48, 49, 50, 50, 52, 47, 108, 97, 119, 115, 46, 70, 110, 69, 120, 97, 99, 116, 71, 114, 111, 119, 83, 116, 101, 112, 115, 32, 108, 111, 111, 112, 46, 101, 120, 97, 109, 112, 108, 101, 47, 103, 48, 49, 50, 50, 52, 47, 108, 97, 119, 115, 46, 70, 110, 69, 120, 97, 99, 116, 83, 116, 101, 112, 115, 84, 111, 68, 114, 121, 32, 108, 111, 111, 112, 46, 101, 120, 97, 109, 112, 108, 101, 47, 103, 48, 49, 50, 50, 52, 47, 108, 97, 119, 115, 46, 70, 110, 69, 120, 97, 99, 116, 86, 97, 108, 105, 100, 75, 101, 114, 110, 101, 108, 32, 108, 111, 111, 112, 46, 101, 120, 97, 109, 112, 108, 101, 47, 103, 48, 49, 50, 50, 52, 47, 108, 97, 119, 115, 46, 70, 110, 69, 120, 97, 99, 116, 83, 97, 109, 101, 75, 101, 114, 110, 101, 108, 32, 108, 111, 111, 112, 46, 101, 120, 97, 109, 112, 108, 101, 47, 103, 48, 49, 50, 50, 52, 47, 108, 97, 119, 115, 46, 70, 110, 69, 120, 97, 99, 116, 70, 97, 108, 108, 79, 102, 32, 108, 111, 111, 112, 46, 101, 120, 97, 109, 112, 108, 101, 47, 103, 48, 49, 50, 50, 52, 47, 108, 97, 119, 115, 46, 70, 110, 69, 120, 97, 99, 116, 70, 108, 97, 116, 75, 101, 114, 110, 101, 108, 32, 108, 111, 111, 112, 46, 101, 120, 97, 109, 112, 108, 101, 47, 103, 48, 49, 50, 50, 52, 47, 108, 97, 119, 115, 46, 70, 110, 69, 120, 97, 99, 116, 83, 117, 109, 75, 101, 114, 110, 101, 108, 32, 108, 111, 111, 112, 46, 101, 120, 97, 109, 112, 108, 101, 47, 103, 48, 49, 50, 50, 52, 47, 108, 97, 119, 115, 46, 70, 110, 69, 120, 97, 99, 116, 70, 97, 108, 108, 75, 101, 114, 110, 101, 108, 32, 108, 111, 111, 112, 46, 101, 120, 97, 109, 112, 108, 101, 47, 103, 48, 49, 50, 50, 52, 47, 108, 97, 119, 115, 46, 70, 110, 69, 120, 97, 99, 116, 65, 100, 100, 75, 101, 114, 110, 101, 108, 115, 32, 108, 111, 111, 112, 46, 101, 120, 97, 109, 112, 108, 101, 47, 103, 48, 49, 50, 50, 52, 47, 108, 97, 119, 115, 46, 70, 110, 69, 120, 97, 99, 116, 83, 99, 97, 108, 101, 75, 101, 114, 110, 101, 108, 32, 108, 111, 111, 112, 46, 101, 120, 97, 109, 112, 108, 101, 47, 103, 48, 49, 50, 50, 52, 47, 108, 97, 119, 115, 46, 70, 110, 69, 120, 97, 99, 116, 69, 118, 101, 110, 116, 115, 79, 102, 32, 108, 111, 111, 112, 46, 101, 120, 97, 109, 112, 108, 101, 47, 103, 48, 49, 50, 50, 52, 47, 108, 97, 119, 115, 46, 70, 110, 69, 120, 97, 99, 116, 76, 111, 115, 115, 101, 115, 79, 102, 32, 108, 111, 111, 112, 46, 101, 120, 97, 109, 112, 108, 101, 47, 103, 48, 49, 50, 50, 52, 47, 108, 97, 119, 115, 46, 70, 110, 69, 120, 97, 99, 116, 67, 111, 108, 108, 105, 100, 101, 32, 108, 111, 111, 112, 46, 101, 120, 97, 109, 112, 108, 101, 47, 103, 48, 49, 50, 50, 52, 47, 108, 97, 119, 115, 46, 70, 110, 69, 120, 97, 99, 116, 67, 111, 108, 108, 105, 100, 101, 83, 116, 101, 112, 115, 32, 108, 111, 111, 112, 46, 101, 120, 97, 109, 112, 108, 101, 47, 103, 48, 49, 50, 50, 52, 47, 108, 97, 119, 115, 46, 70, 110, 69, 120, 97, 99, 116, 82, 97, 105, 110, 77, 97, 100, 101, 32, 108, 111, 111, 112, 46, 101, 120, 97, 109, 112, 108, 101, 47, 103, 48, 49, 50, 50, 52, 47, 108, 97, 119, 115, 46, 70, 110, 69, 120, 97, 99, 116, 66, 114, 101, 97, 107, 67, 108, 97, 115, 115, 32, 108, 111, 111, 112, 46, 101, 120, 97, 109, 112, 108, 101, 47, 103, 48, 49, 50, 50, 52, 47, 108, 97, 119, 115, 46, 70, 110, 69, 120, 97, 99, 116, 66, 114, 101, 97, 107, 76, 97, 114, 103, 101, 32, 108, 111, 111, 112, 46, 101, 120, 97, 109, 112, 108, 101, 47, 103, 48, 49, 50, 50, 52, 47, 108, 97, 119, 115, 46, 70, 110, 69, 120, 97, 99, 116, 86, 97, 108, 105, 100, 66, 111, 120, 32, 108, 111, 111, 112, 46, 101, 120, 97, 109, 112, 108, 101, 47, 103, 48, 49, 50, 50, 52, 47, 108, 97, 119, 115, 46, 70, 110, 69, 120, 97, 99, 116, 77, 97, 115, 115, 79, 102, 66, 111, 120, 32, 108, 111, 111, 112, 46, 101, 120, 97, 109, 112, 108, 101, 47, 103, 48, 49, 50, 50, 52, 47, 108, 97, 119, 115, 46, 70, 110, 69, 120, 97, 99, 116, 83, 105, 122, 101, 115, 79, 102, 66, 111, 120, 32, 108, 111, 111, 112, 46, 101, 120, 97, 109, 112, 108, 101, 47, 103, 48, 49, 50, 50, 52, 47, 108, 97, 119, 115, 46, 70, 110, 69, 120, 97, 99, 116, 67, 111, 108, 108, 105, 100, 101, 80, 97, 105, 114, 32, 108, 111, 111, 112, 46, 101, 120, 97, 109, 112, 108, 101, 47, 103, 48, 49, 50, 50, 52, 47, 108, 97, 119, 115, 46, 70, 110, 69, 120, 97, 99, 116, 67, 111, 108, 108, 105, 100, 101, 80, 97, 105, 114, 115, 32, 108, 111, 111, 112, 46, 101, 120, 97, 109, 112, 108, 101, 47, 103, 48, 49, 50, 50, 52, 47, 108, 97, 119, 115, 46, 70, 110, 69, 120, 97, 99, 116, 68, 114, 97, 119, 80, 97, 105, 114, 115, 32, 108, 111, 111, 112, 46, 101, 120, 97, 109, 112, 108, 101, 47, 103, 48, 49, 50, 50, 52, 47, 108, 97, 119, 115, 46, 70, 110, 69, 120, 97, 99, 116, 71, 97, 116, 104, 101, 114, 68, 117, 115, 116]

def letters (l : List Nat) : List Char := l.map Char.ofNat

theorem head_reads : Try.prog.initOrder = String.ofList (letters w0 ++ Char.ofNat 32 :: (letters w1 ++ Char.ofNat 32 :: (letters w2 ++ Char.ofNat 32 :: letters w3))) := by kernel_rfl

theorem no_blank {l : List Nat} (h : l.all (fun n => Char.ofNat n != Char.ofNat 32) = true) : ∀ c ∈ letters l, c ≠ Char.ofNat 32 := by
  intro c hc
  obtain ⟨n, hn, rfl⟩ := List.mem_map.1 hc
  have := List.all_eq_true.1 h n hn
  simpa using this

theorem h0 : letters w0 = "harness".toList := by kernel_rfl

theorem h2 : letters w2 = "cut".toList := by kernel_rfl

theorem sums : isSumSigns (letters w1) = true := by kernel_rfl

theorem words : wordsSigns Try.prog.initOrder.toList = "harness".toList :: letters w1 :: "cut".toList :: wordsSigns (letters w3) := by
  rw [head_reads, String.toList_ofList, words_cons _ _ (no_blank (by decide +kernel)), words_cons _ _ (no_blank (by decide +kernel)), words_cons _ _ (no_blank (by decide +kernel)), h0, h2]

theorem behind : ∃ r, behindMainWord (wordsSigns Try.prog.initOrder.toList) = "cut".toList :: r := by
  refine ⟨wordsSigns (letters w3), ?_⟩
  rw [words]
  generalize wordsSigns (letters w3) = r
  have hs := sums
  generalize letters w1 = v at hs
  unfold behindMainWord
  simp [hs]

theorem not_later : Try.prog.laysLater = false := by kernel_rfl

theorem no_reflect : Try.prog.bearsReflect = false := by kernel_rfl

theorem no_doors : Try.prog.doorFits [] = true := by kernel_rfl

theorem strips (r : List (List Char)) : stripLifts liftWords ("cut".toList :: r) = ([], "cut".toList :: r) := by kernel_rfl

theorem may_enter_of (P : Program) (r : List (List Char)) (h : behindMainWord (wordsSigns P.initOrder.toList) = "cut".toList :: r) (h1 : P.laysLater = false) (h2 : P.bearsReflect = false) (h3 : P.doorFits [] = true) : P.mayEnter = true := by
  unfold Program.mayEnter
  rw [h]
  dsimp only
  rw [strips, h1, h2, h3]
  kernel_rfl

theorem lifts_final_of (P : Program) (r : List (List Char)) (h : behindMainWord (wordsSigns P.initOrder.toList) = "cut".toList :: r) : P.liftsFinal = false := by
  unfold Program.liftsFinal Program.headLifts
  rw [h]
  dsimp only
  rw [strips]
  kernel_rfl

theorem made_of (P : Program) (r : List (List Char)) (h : behindMainWord (wordsSigns P.initOrder.toList) = "cut".toList :: r) : P.make = some .cut := by
  unfold Program.make
  rw [h]
  kernel_rfl

theorem may_enter : Try.prog.mayEnter = true := let ⟨r, h⟩ := behind; may_enter_of _ r h not_later no_reflect no_doors

theorem lifts_final : Try.prog.liftsFinal = false := let ⟨r, h⟩ := behind; lifts_final_of _ r h

theorem made : Try.prog.make = some .cut := let ⟨r, h⟩ := behind; made_of _ r h

theorem laid : laidOutB Try.prog = true := by kernel_rfl

theorem rowed : mapsRowed Try.prog = true := by kernel_rfl

theorem no_stops : Try.prog.stops = [] := by kernel_rfl

theorem no_knobs : Try.prog.stopKnobs = [] := by kernel_rfl

theorem plain_keys : Try.prog.plainKeys = false := by kernel_rfl

theorem stops_heard : Try.prog.stopsHeard = true := by kernel_rfl

theorem arr2 {α : Type} {cs : Array α} (h : cs.size = 2) : ∃ c0 c1, cs = #[c0, c1] := by
  obtain ⟨l⟩ := cs
  match l, h with
  | [a, b], _ => exact ⟨a, b, rfl⟩

theorem own : ownKnob Try.prog.godebug = none := by kernel_rfl

theorem rda : Try.prog.readableRec 28 = true ∧ 28 < Try.prog.types.size := ⟨by kernel_rfl, of_decide_eq_true (by kernel_rfl)⟩

theorem rdf : Try.prog.readableRec 22 = true ∧ 22 < Try.prog.types.size := ⟨by kernel_rfl, of_decide_eq_true (by kernel_rfl)⟩

theorem rdA : Try.prog.readableRec 40 = true ∧ 40 < Try.prog.types.size := ⟨by kernel_rfl, of_decide_eq_true (by kernel_rfl)⟩

theorem rdi : Try.prog.readableRec 2 = true ∧ 2 < Try.prog.types.size := ⟨by kernel_rfl, of_decide_eq_true (by kernel_rfl)⟩

theorem cells21 : Try.prog.cellsOf 76 = 21 := by kernel_rfl

theorem types21 : Try.prog.cellTypes Try.prog.depth 76 = some (List.replicate 21 2) := by kernel_rfl

theorem rdb : Try.prog.readableRec 76 = true ∧ 76 < Try.prog.types.size := ⟨by kernel_rfl, of_decide_eq_true (by kernel_rfl)⟩

theorem cellsP : Try.prog.cellsOf 86 = 2 := by kernel_rfl

theorem typesP : Try.prog.cellTypes Try.prog.depth 86 = some (List.replicate 2 2) := by kernel_rfl

theorem rdp : Try.prog.readableRec 86 = true ∧ 86 < Try.prog.types.size := ⟨by kernel_rfl, of_decide_eq_true (by kernel_rfl)⟩

theorem rdk : Try.prog.readableRec 51 = true ∧ 51 < Try.prog.types.size := ⟨by kernel_rfl, of_decide_eq_true (by kernel_rfl)⟩
end Go.Proofs.Ytnnhoololemaaaa

namespace Go.Proofs.Ytnnhoololemaaaa.fnExactCollidePair
open Go.RowKit Go.Fl Go.ChangeShapes Go.WideShapes Go.ChangeAt

theorem closed : joinedFacts Try.prog 27 Try.f27 Rows.fnExactCollidePairSpec Rows.fnExactCollidePairRow = true := by
  unfold joinedFacts
  simp only [Bool.and_eq_true]
  exact ⟨⟨⟨⟨⟨⟨⟨⟨⟨⟨⟨⟨⟨⟨⟨⟨⟨⟨⟨⟨⟨⟨⟨⟨⟨⟨⟨⟨⟨⟨⟨(by as_aux_lemma => kernel_rfl),
    laid⟩,
    rowed⟩,
    (by as_aux_lemma => kernel_rfl)⟩,
    (by as_aux_lemma => kernel_rfl)⟩,
    (by as_aux_lemma => kernel_rfl)⟩,
    (by rw [no_stops]; rfl)⟩,
    (by as_aux_lemma => kernel_rfl)⟩,
    (by rw [no_knobs]; rfl)⟩,
    (by as_aux_lemma => kernel_rfl)⟩,
    (by as_aux_lemma => kernel_rfl)⟩,
    (by as_aux_lemma => kernel_rfl)⟩,
    (by as_aux_lemma => kernel_rfl)⟩,
    (by as_aux_lemma => kernel_rfl)⟩,
    (by as_aux_lemma => kernel_rfl)⟩,
    (by as_aux_lemma => kernel_rfl)⟩,
    (by as_aux_lemma => kernel_rfl)⟩,
    (by as_aux_lemma => kernel_rfl)⟩,
    (by as_aux_lemma => kernel_rfl)⟩,
    (by as_aux_lemma => kernel_rfl)⟩,
    (by as_aux_lemma => kernel_rfl)⟩,
    (by as_aux_lemma => kernel_rfl)⟩,
    (show (Rows.fnExactCollidePairRow.plainKeys == Try.prog.plainKeys) = true by rw [plain_keys]; rfl)⟩,
    (by as_aux_lemma => kernel_rfl)⟩,
    stops_heard⟩,
    may_enter⟩,
    (show (Rows.fnExactCollidePairRow.lifted == Try.prog.liftsFinal) = true by rw [lifts_final]; rfl)⟩,
    (show (Try.prog.make == some Rows.fnExactCollidePairRow.make) = true by rw [made]; rfl)⟩,
    (by as_aux_lemma => kernel_rfl)⟩,
    (by as_aux_lemma => kernel_rfl)⟩,
    (by as_aux_lemma => kernel_rfl)⟩,
    (by as_aux_lemma => kernel_rfl)⟩

set_option maxRecDepth 100000 in
theorem lifted (os : Os) (started : os.Started) (H : Type) (enc : TypeId × Value → H) :
    ReturnsInHanded {} Try.checked os 27 .any (Rows.fnExactCollidePairSpec.pre6 enc Try.prog Try.f27 Rows.fnExactCollidePairRow.domain false) (Rows.fnExactCollidePairSpec.post enc Try.prog Try.f27 false true false false) := by
  refine LawFrame.lifted (C := Try.checked) (fn := Try.f27) (n := 2) (tb := 4) started own (by kernel_rfl) Try.func27 laid ?_ rfl rfl ?_ rfl Try.underlying4
    (ChangeSpec.witness6 (enc := enc) (C := Try.checked) false ⟨#[], #[.agg (Array.replicate 21 (.int .i64 0)), .agg (Array.replicate 2 (.int .i64 0))], []⟩ 8 (by kernel_rfl) (by kernel_rfl) (by kernel_rfl) (by kernel_rfl)) ?_
  · intro t ht
    simp only [Try.params27, List.mem_cons, List.not_mem_nil, or_false] at ht
    rcases ht with rfl | rfl <;> first | exact rda | exact rdf | exact rdi | exact rdA | exact rdb | exact rdp | exact rdk
  · intro ds hd
    match ds, hd with
    | [_, _], _ => rfl
  · intro W base args ds ps hval hn _
    obtain ⟨v0, v1, rfl⟩ : ∃ v0 v1, args = #[v0, v1] := arr2 hn
    obtain ⟨c0, rfl, hb0⟩ := open_ints Try.underlying76 rfl Try.underlying2 cells21 types21 (hval 0 76 v0 rfl rfl)
    obtain ⟨c1, rfl, hb1⟩ := open_ints Try.underlying86 rfl Try.underlying2 cellsP typesP (hval 1 86 v1 rfl rfl)
    exact lawCollidePair c0 hb0 c1 hb1 W

theorem over : Rows.fnExactCollidePairRow.holds Try.pinned (OpenSpec.ofChange Rows.fnExactCollidePairSpec) :=
  OpenClaim.holds_of_wide 27 Try.f27 rfl rfl rfl rfl rfl rfl rfl ⟨rfl, rfl, rfl, rfl, rfl⟩ rfl rfl rfl rfl rfl (by kernel_rfl) Try.func27 closed
    (of_decide_eq_true (by kernel_rfl)) (by unfold Func.isWrapper; rw [if_neg (by decide +kernel)]; exact ⟨rfl, rfl⟩)
    (fun os started H enc _ => lifted os started H enc)

theorem proved : Rows.FnExactCollidePairSaid := over
#print axioms proved
end Go.Proofs.Ytnnhoololemaaaa.fnExactCollidePair
