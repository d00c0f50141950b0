import Derived.Test.YtnnhoololemaaaaBFallOf
import Derived.Test.YtnnhoololemaaaaChecked
import Derived.Test.YtnnhoololemaaaaRows
import Derived.Laws.FloatArith
import Derived.ProofKit
import Derived.WalkKit
import Derived.WalkLawsBesides
import Derived.WalkSpells
import Derived.Deep.QuietTactic
import Derived.BigQuiet
import Derived.Deep.RegionHeld3
import Derived.ChangeKeysEq
import Derived.Laws.BitsAllLaws
import Derived.Deep.MidRow
import Derived.OpenShut
/- The law FnExactFallOf of chapter 1: at every argument the call returns true, and what was there before it is as it was. -/
namespace Go.Proofs.Ytnnhoololemaaaa
open Go.RowKit Go.Fl

@[go_sem] theorem ext_f64bits (y : Nat) (w : World) : (callFunc 203 #[.float .f64 y]).run Try.prog w = .ok (.value (.int .u64 y)) w := by
  rw [run_callFunc_extern Try.func203 (by kernel_rfl) (by kernel_rfl) (by kernel_rfl) (e := Extern.MathFloatBits.float64bits) (by kernel_rfl)]
  rfl

@[go_sem] theorem ext_f64from (n : Int) (w : World) : (callFunc 202 #[.int .u64 n]).run Try.prog w = .ok (.value (.float .f64 n.toNat)) w := by
  rw [run_callFunc_extern Try.func202 (by kernel_rfl) (by kernel_rfl) (by kernel_rfl) (e := Extern.MathFloatBits.float64frombits) (by kernel_rfl)]
  rfl

theorem hid {p : Prop} (h : p) : Hid p := h

theorem clear_sign (y : Nat) (h : y < 18446744073709551616) : (bits BinOp.andNot IntKind.u64 (y : Int) 9223372036854775808).toNat = y % 9223372036854775808 := by
  rw [u64_andNot _ _ (by omega) (by omega) (by omega) (by omega)]
  rw [Int.toNat_natCast, Int.toNat_natCast]
  exact Nat.and_two_pow_sub_one_eq_mod y 63

theorem abs_f64 (y : Nat) (h : y < 18446744073709551616) (w : World) :
    Calls Try.prog 145 #[.float .f64 y] w fun e w' => e = .returned (.float .f64 (y % 9223372036854775808)) ∧ w = w' := by
  have hc := hid (clear_sign y h)
  clear h
  go_enter Try.func145, Try.ntmps145
  go_wp2
  go_ret
  exact ⟨by simp [hc.out], rfl⟩

theorem isNaN_f64 (y : Nat) (w : World) :
    Calls Try.prog 187 #[.float .f64 y] w fun e w' => e = .returned (.bool (FloatKind.f64.format.order y y != some .eq)) ∧ w = w' := by
  go_enter Try.func187, Try.ntmps187
  go_wp2
  go_ret
  exact ⟨rfl, rfl⟩

theorem isInf_f64 (y : Nat) (h : y < 18446744073709551616) (w : World) :
    Calls Try.prog 188 #[.float .f64 y, .int .i64 0] w fun e w' => e = .returned (.bool (FloatKind.f64.format.order (y % 9223372036854775808) 9218868437227405311 == some .gt)) ∧ w = w' := by
  have hc := hid h
  clear h
  go_enter Try.func188, Try.ntmps188
  go_wp2_with (go_at_call 145; refine (abs_f64 y hc.out _).mono ?_; rintro e w' ⟨rfl, rfl⟩)
  go_ret
  exact ⟨rfl, rfl⟩

theorem isFinite_t (x : Nat) (hx : x < 4294967296) (h : finB x = true) (w : World) :
    Calls Try.prog 112 #[.float .f32 x] w fun e w' => e = .returned (.bool true) ∧ w = w' := by
  rw [finB_iff] at h
  have hc := fun w => run_conv_wid (P := Try.prog) w 22 26 x hx Try.underlying22 Try.underlying26 h
  obtain ⟨a, b, m, e, hr⟩ := read_wid_fin hx h
  have hn : (FloatKind.f64.format.order (wid x) (wid x) != some .eq) = false := by
    show (D.order (wid x) (wid x) != some .eq) = false
    rw [order_self hr]; rfl
  have hi : (FloatKind.f64.format.order (wid x % 9223372036854775808) 9218868437227405311 == some .gt) = false := by
    show (D.order (wid x % 9223372036854775808) 9218868437227405311 == some .gt) = false
    rw [b, order_ltD a (by decide)]
    rw [DINF_val] at a
    have hle : wid (mg x) ≤ 9218868437227405311 := by omega
    rcases Nat.lt_or_eq_of_le hle with h' | h'
    · rw [Nat.compare_eq_lt.2 h']; rfl
    · rw [Nat.compare_eq_eq.2 h']; rfl
  have hw : wid x < 18446744073709551616 := D.write_lt _
  have Hn := hid hn
  have Hi := hid hi
  have Hw := hid hw
  clear hn hi hw hr a b h hx
  go_enter Try.func112, Try.ntmps112
  go_wp2_with (first | (go_at_call 187; refine (isNaN_f64 (wid x) _).mono ?_; rintro e w' ⟨rfl, rfl⟩; rw [Hn.out]) | (go_at_call 188; refine (isInf_f64 (wid x) Hw.out _).mono ?_; rintro e w' ⟨rfl, rfl⟩; rw [Hi.out]))
  go_ret
  exact ⟨rfl, rfl⟩

theorem signbit_f64 (y : Nat) (w : World) :
    Calls Try.prog 184 #[.float .f64 y] w fun e w' => e = .returned (.bool (decide (wrap64 (y : Int) < 0))) ∧ w = w' := by
  go_enter Try.func184, Try.ntmps184
  go_wp2
  go_ret
  exact ⟨rfl, rfl⟩

theorem and_sign (y : Nat) (h : y < 18446744073709551616) : (decide (wrap64 (y : Int) < 0)) = decide (9223372036854775808 ≤ y) := by
  unfold wrap64
  by_cases h' : 9223372036854775808 ≤ y
  · rw [decide_eq_true h']; simp; omega
  · rw [decide_eq_false h']; simp; omega

theorem isAmount_t (x : Nat) (h : amtB x = true) (w : World) :
    Calls Try.prog 106 #[.float .f32 x] w fun e w' => e = .returned (.bool true) ∧ w = w' := by
  have hf := amt_fin h
  rw [amtB_iff, INF_val] at h
  have hx : x < 4294967296 := by omega
  have hc := fun w => run_conv_wid (P := Try.prog) w 22 26 x hx Try.underlying22 Try.underlying26 (finB_iff.1 hf)
  have hw : wid x < 18446744073709551616 := D.write_lt _
  have Hs := hid (show (decide (wrap64 (wid x : Int) < 0)) = false by
    rw [and_sign _ hw]
    have := (wid_val (x := x) (by rw [INF_val]; omega)).1
    rw [DINF_val] at this
    simp; omega)
  have Hx := hid hx
  have Hf := hid hf
  clear h hf hx hw
  go_enter Try.func106, Try.ntmps106
  go_wp2_with (first | (go_at_call 112; refine (isFinite_t x Hx.out Hf.out _).mono ?_; rintro e w' ⟨rfl, rfl⟩) | (go_at_call 184; refine (signbit_f64 (wid x) _).mono ?_; rintro e w' ⟨rfl, rfl⟩; rw [Hs.out]))
  go_ret
  exact ⟨rfl, rfl⟩

@[go_sem] theorem ext_f32bits (y : Nat) (w : World) : (callFunc 183 #[.float .f32 y]).run Try.prog w = .ok (.value (.int .u32 y)) w := by
  rw [run_callFunc_extern Try.func183 (by kernel_rfl) (by kernel_rfl) (by kernel_rfl) (e := Extern.MathFloatBits.float32bits) (by kernel_rfl)]
  rfl

theorem div_one_some {y m : Nat} {s : Bool} {e : Int} (h : D.read y = .number s m e) : ∃ q, floatBits .quo .f64 4607182418800017408 y = some q := by
  have h1 : D.read 4607182418800017408 = .number false 4503599627370496 (-52) := by decide
  show ∃ q, D.div 4607182418800017408 y = some q
  unfold Ieee.Format.div
  rw [h, h1]
  simp only [Ieee.Datum.quotient]
  by_cases hm : m = 0
  · rw [if_pos hm]; exact ⟨_, rfl⟩
  · rw [if_neg hm]; exact ⟨_, rfl⟩

set_option maxRecDepth 100000 in
theorem sameFloat (x : Nat) (hx : x < 4294967296) (h : finB x = true) (w : World) :
    Calls Try.prog 33 #[.float .f64 (wid x), .float .f64 (wid x)] w fun e w' => e = .returned (.bool true) ∧ w = w' := by
  obtain ⟨a, b, m, e, hr⟩ := read_wid_fin hx (finB_iff.1 h)
  have hn : (FloatKind.f64.format.order (wid x) (wid x) != some .eq) = false := by
    show (D.order (wid x) (wid x) != some .eq) = false
    rw [order_self hr]; rfl
  have hq : (FloatKind.f64.format.order (wid x) (wid x) == some .eq) = true := by
    show (D.order (wid x) (wid x) == some .eq) = true
    rw [order_self hr]; rfl
  obtain ⟨q, hd⟩ := div_one_some hr
  have hdiv := fun w => run_float_arith (P := Try.prog) w .quo 26 .f64 4607182418800017408 (wid x) q hd
  clear hd hr a b h hx
  rcases hz : (FloatKind.f64.format.order (wid x) 0 == some .eq) with _ | _
  · go_enter Try.func33, Try.ntmps33
    go_wp2
    go_ret
    exact ⟨by simp, rfl⟩
  · go_enter Try.func33, Try.ntmps33
    go_wp2
    go_ret
    exact ⟨by simp, rfl⟩

/-- The mass of a class, as a word. -/
theorem iMass (k : Nat) (hk : k < 20) (w : World) :
    Calls Try.prog 117 #[.int .i64 (k : Int)] w fun e w' => e = .returned (.float .f32 (mass k)) ∧ w = w' := by
  have H : k = 0 ∨ k = 1 ∨ k = 2 ∨ k = 3 ∨ k = 4 ∨ k = 5 ∨ k = 6 ∨ k = 7 ∨ k = 8 ∨ k = 9 ∨ k = 10 ∨ k = 11 ∨ k = 12 ∨ k = 13 ∨ k = 14 ∨ k = 15 ∨ k = 16 ∨ k = 17 ∨ k = 18 ∨ k = 19 := by omega
  rcases H with rfl | rfl | rfl | rfl | rfl | rfl | rfl | rfl | rfl | rfl | rfl | rfl | rfl | rfl | rfl | rfl | rfl | rfl | rfl | rfl
  all_goals
    go_enter Try.func117, Try.ntmps117
    go_wp2
    go_ret
    exact ⟨rfl, rfl⟩

theorem sMass (k : Nat) (hk : k < 20) (w : World) :
    Calls Try.prog 139 #[.int .i64 (k : Int)] w fun e w' => e = .returned (.float .f32 (mass k)) ∧ w = w' := by
  have H : k = 0 ∨ k = 1 ∨ k = 2 ∨ k = 3 ∨ k = 4 ∨ k = 5 ∨ k = 6 ∨ k = 7 ∨ k = 8 ∨ k = 9 ∨ k = 10 ∨ k = 11 ∨ k = 12 ∨ k = 13 ∨ k = 14 ∨ k = 15 ∨ k = 16 ∨ k = 17 ∨ k = 18 ∨ k = 19 := by omega
  rcases H with rfl | rfl | rfl | rfl | rfl | rfl | rfl | rfl | rfl | rfl | rfl | rfl | rfl | rfl | rfl | rfl | rfl | rfl | rfl | rfl
  all_goals
    go_enter Try.func139, Try.ntmps139
    go_wp2
    go_ret
    exact ⟨rfl, rfl⟩

theorem isClass_t (k : Nat) (hk : k < 20) (w : World) :
    Calls Try.prog 172 #[.int .i64 (k : Int)] w fun e w' => e = .returned (.bool true) ∧ w = w' := by
  have h1 : decide ((0 : Int) ≤ (k : Int)) = true := by simp
  go_enter Try.func172, Try.ntmps172
  go_wp2
  go_ret
  exact ⟨by first | rfl | (simp; done) | (simp; omega), rfl⟩

theorem isClass_f (n : Int) (hn : ¬ (0 ≤ n ∧ n < 20)) (w : World) :
    Calls Try.prog 172 #[.int .i64 n] w fun e w' => e = .returned (.bool false) ∧ w = w' := by
  by_cases h0 : 0 ≤ n
  · have h2 : ¬ n < 20 := by omega
    have h3 : 20 ≤ n := by omega
    clear hn h2
    go_enter Try.func172, Try.ntmps172
    go_wp2
    go_ret
    exact ⟨by first | rfl | (simp; done) | (simp; omega), rfl⟩
  · have h3 : n < 0 := by omega
    have h4 : decide (0 ≤ n) = false := by simp; omega
    clear hn h0
    go_enter Try.func172, Try.ntmps172
    go_wp2
    go_ret
    exact ⟨by simp, rfl⟩

theorem l00In_t (n a b : Int) (h1 : a ≤ n) (h2 : n ≤ b) (w : World) :
    Calls Try.prog 121 #[.int .i64 n, .int .i64 a, .int .i64 b] w fun e w' => e = .returned (.bool true) ∧ w = w' := by
  go_enter Try.func121, Try.ntmps121
  go_wp2
  go_ret
  exact ⟨by first | rfl | (simp; done) | (simp; omega), rfl⟩

theorem l00In_f (n a b : Int) (hn : ¬ (a ≤ n ∧ n ≤ b)) (w : World) :
    Calls Try.prog 121 #[.int .i64 n, .int .i64 a, .int .i64 b] w fun e w' => e = .returned (.bool false) ∧ w = w' := by
  by_cases h0 : a ≤ n
  · have h3 : b < n := by omega
    clear hn
    go_enter Try.func121, Try.ntmps121
    go_wp2
    go_ret
    exact ⟨by first | rfl | (simp; done) | (simp; omega), rfl⟩
  · have h3 : n < a := by omega
    have h4 : decide (a ≤ n) = false := by simp; omega
    clear hn h0
    go_enter Try.func121, Try.ntmps121
    go_wp2
    go_ret
    exact ⟨by simp, rfl⟩

theorem sClass_t (k : Nat) (hk : k < 20) (w : World) :
    Calls Try.prog 134 #[.int .i64 (k : Int)] w fun e w' => e = .returned (.bool true) ∧ w = w' := by
  go_enter Try.func134, Try.ntmps134
  go_wp2_with fail
  refine (l00In_t k 0 19 (by omega) (by omega) _).mono ?_
  rintro e w1 ⟨rfl, rfl⟩
  go_wp2
  go_ret
  exact ⟨rfl, rfl⟩

theorem sClass_f (n : Int) (hn : ¬ (0 ≤ n ∧ n < 20)) (w : World) :
    Calls Try.prog 134 #[.int .i64 n] w fun e w' => e = .returned (.bool false) ∧ w = w' := by
  have H := hid hn
  clear hn
  go_enter Try.func134, Try.ntmps134
  go_wp2_with fail
  refine (l00In_f n 0 19 (by have := H.out; omega) _).mono ?_
  rintro e w1 ⟨rfl, rfl⟩
  go_wp2
  go_ret
  exact ⟨rfl, rfl⟩

theorem loose {P : Program} {f : FuncId} {args : Array Value} {w : World} {v : Value} (h : Calls P f args w fun e w' => e = .returned v ∧ w = w') : Calls P f args w fun e w' => e = .returned v ∧ Below w.heap.size w w' :=
  h.mono fun _ _ ⟨a, b⟩ => ⟨a, b ▸ Below.refl _ _⟩

def fltOf : Value → Nat
  | .float _ b => b
  | _ => 0

theorem nearer (b r : Nat) (h : okR b r) (w : World) :
    Calls Try.prog 107 #[.float .f64 r, .float .f64 b] w fun e w' => e = .returned (.float .f64 (rNext b r)) ∧ w = w' := by
  obtain ⟨h1, h2, h3, h4, h5, h6, h7⟩ := h
  have q1 := fun w => run_float_arith (P := Try.prog) w .mul 26 .f64 _ _ _ h1
  have q2 := fun w => run_float_arith (P := Try.prog) w .mul 26 .f64 _ _ _ h2
  have q3 := fun w => run_float_arith (P := Try.prog) w .sub 26 .f64 _ _ _ h3
  have q4 := fun w => run_float_arith (P := Try.prog) w .mul 26 .f64 _ _ _ h4
  have q5 := fun w => run_float_arith (P := Try.prog) w .mul 26 .f64 _ _ _ h5
  have q6 := fun w => run_float_arith (P := Try.prog) w .quo 26 .f64 _ _ _ h6
  have q7 := fun w => run_float_arith (P := Try.prog) w .sub 26 .f64 _ _ _ h7
  clear h1 h2 h3 h4 h5 h6 h7
  go_enter Try.func107, Try.ntmps107
  go_wp2
  go_ret
  exact ⟨rfl, rfl⟩

set_option maxRecDepth 100000 in
theorem iThird (a n m z root : Nat) (ha : amtB a = true) (h0 : a ≠ 0) (T : RootTr a n m z root) (w : World) :
    Calls Try.prog 32 #[.float .f32 a] w fun e w' => e = .returned (.tuple #[.float .f32 root, .int .i64 0]) ∧ w = w' := by
  have hc := fun w => run_conv_wid (P := Try.prog) w 22 26 a (amt_lt ha) Try.underlying22 Try.underlying26 (finB_iff.1 (amt_fin ha))
  have he : (FloatKind.f32.format.order a 0 == some .eq) = false := by
    show (S.order a 0 == some .eq) = false
    rw [order_zero_pos (amtB_iff.1 ha), Nat.compare_eq_gt.2 (by omega)]; rfl
  have hz := fun w => run_float_arith (P := Try.prog) w .mul 26 .f64 _ _ _ T.hz
  have ho := fun w => run_convert_float_float (P := Try.prog) w 26 22 .f64 .f32 z root (by rw [Try.underlying26]; rfl) Try.underlying22 T.out
  have HA := hid ha
  have HT := hid T
  clear ha h0 T
  go_enter Try.func32, Try.ntmps32
  go_wp2_with (go_at_call 106; refine (isAmount_t a HA.out _).mono ?_; rintro e w' ⟨rfl, rfl⟩)
  go_loop [4, 5] (fun b x => ∃ j : Nat, j ≤ n ∧ b = .float .f64 (bS (wid a) j) ∧ x = .float .f64 (xS 4607182418800017408 j)) (fun b _ => fltOf b)
  case atStart => exact ⟨0, Nat.zero_le _, rfl, rfl⟩
  case round =>
    obtain ⟨j, hj, rfl, rfl⟩ := hrel
    by_cases hlt : j < n
    · obtain ⟨g1, g2, g3, g4⟩ := HT.out.l1 j hlt
      have q0 : (FloatKind.f64.format.order (bS (wid a) j) 4620693217682128896 == some .gt || FloatKind.f64.format.order (bS (wid a) j) 4620693217682128896 == some .eq) = true := g1
      have q1 := fun w => run_float_arith (P := Try.prog) w .quo 26 .f64 _ _ _ g2
      have q2 := fun w => run_float_arith (P := Try.prog) w .mul 26 .f64 _ _ _ g3
      have G4 := hid g4
      clear g1 g2 g3 g4
      go_wp2
      go_round
      case rel => exact ⟨j + 1, by omega, rfl, rfl⟩
      case measure => exact G4.out
    · obtain rfl : j = n := by omega
      have q0 : (FloatKind.f64.format.order (bS (wid a) j) 4620693217682128896 == some .gt || FloatKind.f64.format.order (bS (wid a) j) 4620693217682128896 == some .eq) = false := HT.out.e1
      go_wp2
      clear q0
      go_loop [4, 5] (fun b x => ∃ i : Nat, i ≤ m ∧ b = .float .f64 (cS (bS (wid a) j) i) ∧ x = .float .f64 (yS (xS 4607182418800017408 j) i)) (fun b _ => 9218868437227405312 - fltOf b)
      case atStart => exact ⟨0, Nat.zero_le _, rfl, rfl⟩
      case round =>
        obtain ⟨i, hi, rfl, rfl⟩ := hrel
        by_cases hlt : i < m
        · obtain ⟨g1, g2, g3, g4, g5⟩ := HT.out.l2 i hlt
          have q0 : (FloatKind.f64.format.order (cS (bS (wid a) j) i) 4607182418800017408 == some .lt) = true := g1
          have q1 := fun w => run_float_arith (P := Try.prog) w .mul 26 .f64 _ _ _ g2
          have q2 := fun w => run_float_arith (P := Try.prog) w .quo 26 .f64 _ _ _ g3
          have G4 := hid g4
          have G5 := hid g5
          clear g1 g2 g3 g4 g5
          go_wp2
          go_round
          case rel => exact ⟨i + 1, by omega, rfl, rfl⟩
          case measure => have := G4.out; have := G5.out; simp only [fltOf]; omega
        · obtain rfl : i = m := by omega
          have q0 : (FloatKind.f64.format.order (cS (bS (wid a) j) i) 4607182418800017408 == some .lt) = false := HT.out.e2
          go_wp2
          clear q0
          go_loop [6, 26] (fun r k => ∃ q : Nat, q ≤ 6 ∧ k = .int .i64 q ∧ r = .float .f64 (rS (cS (bS (wid a) j) i) q)) (fun _ k => 6 - (intOf k).toNat)
          case atStart => exact ⟨0, by omega, rfl, rfl⟩
          case round =>
            obtain ⟨q, hq, rfl, rfl⟩ := hrel
            by_cases hlt : q < 6
            · have HN := hid (HT.out.l3 q hlt)
              go_wp2_with fail
              refine (nearer (cS (bS (wid a) j) i) (rS (cS (bS (wid a) j) i) q) HN.out _).mono ?_
              rintro e w' ⟨rfl, rfl⟩
              go_wp2
              go_round
              case rel => exact ⟨q + 1, by omega, by go_num, rfl⟩
              case measure => simp [intOf]; omega
            · obtain rfl : q = 6 := by omega
              go_wp2
              go_ret2
              exact ⟨rfl, rfl⟩

set_option maxRecDepth 100000 in
theorem sThird (a n m z root : Nat) (ha : amtB a = true) (h0 : a ≠ 0) (T : RootTr a n m z root) (w : World) :
    Calls Try.prog 105 #[.float .f32 a] w fun e w' => e = .returned (.float .f32 root) ∧ w = w' := by
  have hc := fun w => run_conv_wid (P := Try.prog) w 22 26 a (amt_lt ha) Try.underlying22 Try.underlying26 (finB_iff.1 (amt_fin ha))
  have he : (FloatKind.f32.format.order a 0 == some .eq) = false := by
    show (S.order a 0 == some .eq) = false
    rw [order_zero_pos (amtB_iff.1 ha), Nat.compare_eq_gt.2 (by omega)]; rfl
  have hz := fun w => run_float_arith (P := Try.prog) w .mul 26 .f64 _ _ _ T.hz
  have ho := fun w => run_convert_float_float (P := Try.prog) w 26 22 .f64 .f32 z root (by rw [Try.underlying26]; rfl) Try.underlying22 T.out
  have HT := hid T
  clear ha h0 T
  go_enter Try.func105, Try.ntmps105
  go_wp2
  go_loop [3, 4] (fun b x => ∃ j : Nat, j ≤ n ∧ b = .float .f64 (bS (wid a) j) ∧ x = .float .f64 (xS 4607182418800017408 j)) (fun b _ => fltOf b)
  case atStart => exact ⟨0, Nat.zero_le _, rfl, rfl⟩
  case round =>
    obtain ⟨j, hj, rfl, rfl⟩ := hrel
    by_cases hlt : j < n
    · obtain ⟨g1, g2, g3, g4⟩ := HT.out.l1 j hlt
      have q0 : (FloatKind.f64.format.order (bS (wid a) j) 4620693217682128896 == some .gt || FloatKind.f64.format.order (bS (wid a) j) 4620693217682128896 == some .eq) = true := g1
      have q1 := fun w => run_float_arith (P := Try.prog) w .quo 26 .f64 _ _ _ g2
      have q2 := fun w => run_float_arith (P := Try.prog) w .mul 26 .f64 _ _ _ g3
      have G4 := hid g4
      clear g1 g2 g3 g4
      go_wp2
      go_round
      case rel => exact ⟨j + 1, by omega, rfl, rfl⟩
      case measure => exact G4.out
    · obtain rfl : j = n := by omega
      have q0 : (FloatKind.f64.format.order (bS (wid a) j) 4620693217682128896 == some .gt || FloatKind.f64.format.order (bS (wid a) j) 4620693217682128896 == some .eq) = false := HT.out.e1
      go_wp2
      clear q0
      go_loop [3, 4] (fun b x => ∃ i : Nat, i ≤ m ∧ b = .float .f64 (cS (bS (wid a) j) i) ∧ x = .float .f64 (yS (xS 4607182418800017408 j) i)) (fun b _ => 9218868437227405312 - fltOf b)
      case atStart => exact ⟨0, Nat.zero_le _, rfl, rfl⟩
      case round =>
        obtain ⟨i, hi, rfl, rfl⟩ := hrel
        by_cases hlt : i < m
        · obtain ⟨g1, g2, g3, g4, g5⟩ := HT.out.l2 i hlt
          have q0 : (FloatKind.f64.format.order (cS (bS (wid a) j) i) 4607182418800017408 == some .lt) = true := g1
          have q1 := fun w => run_float_arith (P := Try.prog) w .mul 26 .f64 _ _ _ g2
          have q2 := fun w => run_float_arith (P := Try.prog) w .quo 26 .f64 _ _ _ g3
          have G4 := hid g4
          have G5 := hid g5
          clear g1 g2 g3 g4 g5
          go_wp2
          go_round
          case rel => exact ⟨i + 1, by omega, rfl, rfl⟩
          case measure => have := G4.out; have := G5.out; simp only [fltOf]; omega
        · obtain rfl : i = m := by omega
          have q0 : (FloatKind.f64.format.order (cS (bS (wid a) j) i) 4607182418800017408 == some .lt) = false := HT.out.e2
          go_wp2
          clear q0
          go_loop [5, 6] (fun r k => ∃ q : Nat, q ≤ 6 ∧ k = .int .i64 q ∧ r = .float .f64 (rS (cS (bS (wid a) j) i) q)) (fun _ k => 6 - (intOf k).toNat)
          case atStart => exact ⟨0, by omega, rfl, rfl⟩
          case round =>
            obtain ⟨q, hq, rfl, rfl⟩ := hrel
            by_cases hlt : q < 6
            · obtain ⟨h1, h2, h3, h4, h5, h6, h7⟩ := HT.out.l3 q hlt
              have q1 := fun w => run_float_arith (P := Try.prog) w .mul 26 .f64 _ _ _ h1
              have q2 := fun w => run_float_arith (P := Try.prog) w .mul 26 .f64 _ _ _ h2
              have q3 := fun w => run_float_arith (P := Try.prog) w .sub 26 .f64 _ _ _ h3
              have q4 := fun w => run_float_arith (P := Try.prog) w .mul 26 .f64 _ _ _ h4
              have q5 := fun w => run_float_arith (P := Try.prog) w .mul 26 .f64 _ _ _ h5
              have q6 := fun w => run_float_arith (P := Try.prog) w .quo 26 .f64 _ _ _ h6
              have q7 := fun w => run_float_arith (P := Try.prog) w .sub 26 .f64 _ _ _ h7
              clear h1 h2 h3 h4 h5 h6 h7
              go_wp2
              go_round
              case rel => exact ⟨q + 1, by omega, by go_num, rfl⟩
              case measure => simp [intOf]; omega
            · obtain rfl : q = 6 := by omega
              go_wp2
              go_ret
              exact ⟨rfl, rfl⟩

theorem mass_ne {k : Nat} : mass k ≠ 0 := by unfold mass; omega

theorem iThirdMass (k : Nat) (hk : k < 20) (w : World) :
    Calls Try.prog 32 #[.float .f32 (mass k)] w fun e w' => e = .returned (.tuple #[.float .f32 (rad k), .int .i64 0]) ∧ w = w' :=
  iThird (mass k) (k / 3) 0 (rz k) (rad k) (mass_amt hk) mass_ne (tr_one hk).1 w

theorem sThirdMass (k : Nat) (hk : k < 20) (w : World) :
    Calls Try.prog 105 #[.float .f32 (mass k)] w fun e w' => e = .returned (.float .f32 (rad k)) ∧ w = w' :=
  sThird (mass k) (k / 3) 0 (rz k) (rad k) (mass_amt hk) mass_ne (tr_one hk).1 w

theorem iRadius (k : Nat) (hk : k < 20) (w : World) :
    Calls Try.prog 116 #[.int .i64 (k : Int)] w fun e w' => e = .returned (.tuple #[.float .f32 (rad k), .int .i64 0]) ∧ w = w' := by
  have HK := hid hk
  clear hk
  go_enter Try.func116, Try.ntmps116
  go_wp2_with (first | (go_at_call 172; refine (isClass_t k HK.out _).mono ?_; rintro e w' ⟨rfl, rfl⟩) | (go_at_call 117; refine (iMass k HK.out _).mono ?_; rintro e w' ⟨rfl, rfl⟩) | (go_at_call 32; refine (iThirdMass k HK.out _).mono ?_; rintro e w' ⟨rfl, rfl⟩))
  go_ret2
  exact ⟨rfl, rfl⟩

theorem iRadius_f (n : Int) (hn : ¬ (0 ≤ n ∧ n < 20)) (w : World) :
    Calls Try.prog 116 #[.int .i64 n] w fun e w' => e = .returned (.tuple #[.float .f32 0, .int .i64 2]) ∧ w = w' := by
  have HN := hid hn
  clear hn
  go_enter Try.func116, Try.ntmps116
  go_wp2_with (go_at_call 172; refine (isClass_f n HN.out _).mono ?_; rintro e w' ⟨rfl, rfl⟩)
  go_ret2
  exact ⟨rfl, rfl⟩

theorem sRad (k : Nat) (hk : k < 20) (w : World) :
    Calls Try.prog 142 #[.int .i64 (k : Int)] w fun e w' => e = .returned (.float .f32 (rad k)) ∧ w = w' := by
  have HK := hid hk
  clear hk
  go_enter Try.func142, Try.ntmps142
  go_wp2_with (first | (go_at_call 139; refine (sMass k HK.out _).mono ?_; rintro e w' ⟨rfl, rfl⟩) | (go_at_call 105; refine (sThirdMass k HK.out _).mono ?_; rintro e w' ⟨rfl, rfl⟩))
  go_ret
  exact ⟨rfl, rfl⟩

theorem iFallAt (k : Nat) (hk : k < 20) (w : World) :
    Calls Try.prog 136 #[.float .f32 (rad k)] w fun e w' => e = .returned (.float .f32 (fall k)) ∧ w = w' := by
  obtain ⟨m1, m2, m3, m4, m5⟩ := fall_facts hk
  obtain ⟨_, mr, _⟩ := tr_one hk
  have r1 := fun w => run_mul (P := Try.prog) 22 mr mr w
  have r2 := fun w => run_mul (P := Try.prog) 22 (x := 1056964608) (y := rad k) (by decide) mr w
  have r3 := fun w => run_add (P := Try.prog) 22 (x := 1065353216) (y := fmul 1056964608 (rad k)) (by decide) (amt_nn m2) w
  have r4 := fun w => run_div (P := Try.prog) 22 (x := fmul (rad k) (rad k)) (y := fadd 1065353216 (fmul 1056964608 (rad k))) (amt_nn m1) m3 m4 w
  have HK := hid hk
  clear m1 m2 m3 m4 m5 mr hk
  go_enter Try.func136, Try.ntmps136
  go_wp2
  go_ret
  exact ⟨by rw [← fall_is k]; rfl, rfl⟩

theorem sFallK (k : Nat) (hk : k < 20) (w : World) :
    Calls Try.prog 135 #[.int .i64 (k : Int)] w fun e w' => e = .returned (.float .f32 (fall k)) ∧ w = w' := by
  obtain ⟨m1, m2, m3, m4, m5⟩ := fall_facts hk
  obtain ⟨_, mr, _⟩ := tr_one hk
  have r1 := fun w => run_mul (P := Try.prog) 22 mr mr w
  have r2 := fun w => run_mul (P := Try.prog) 22 (x := 1056964608) (y := rad k) (by decide) mr w
  have r3 := fun w => run_add (P := Try.prog) 22 (x := 1065353216) (y := fmul 1056964608 (rad k)) (by decide) (amt_nn m2) w
  have r4 := fun w => run_div (P := Try.prog) 22 (x := fmul (rad k) (rad k)) (y := fadd 1065353216 (fmul 1056964608 (rad k))) (amt_nn m1) m3 m4 w
  have HK := hid hk
  clear m1 m2 m3 m4 m5 mr hk
  go_enter Try.func135, Try.ntmps135
  go_wp2_with fail
  refine (sRad k HK.out _).mono ?_
  rintro e w1 ⟨rfl, rfl⟩
  go_wp2
  go_ret
  exact ⟨by rw [← fall_is k]; rfl, rfl⟩

theorem iFallOf (k : Nat) (hk : k < 20) (w : World) :
    Calls Try.prog 56 #[.int .i64 (k : Int)] w fun e w' => e = .returned (.tuple #[.float .f32 (fall k), .int .i64 0]) ∧ w = w' := by
  have HK := hid hk
  clear hk
  go_enter Try.func56, Try.ntmps56
  go_wp2_with fail
  refine (iRadius k HK.out _).mono ?_
  rintro e w1 ⟨rfl, rfl⟩
  go_wp2_with fail
  refine (iFallAt k HK.out _).mono ?_
  rintro e w2 ⟨rfl, rfl⟩
  go_wp2
  go_ret2
  exact ⟨rfl, rfl⟩

theorem iFallOf_f (n : Int) (hn : ¬ (0 ≤ n ∧ n < 20)) (w : World) :
    Calls Try.prog 56 #[.int .i64 n] w fun e w' => e = .returned (.tuple #[.float .f32 0, .int .i64 2]) ∧ w = w' := by
  have HN := hid hn
  clear hn
  go_enter Try.func56, Try.ntmps56
  go_wp2_with fail
  refine (iRadius_f n HN.out _).mono ?_
  rintro e w1 ⟨rfl, rfl⟩
  go_wp2
  go_ret2
  exact ⟨rfl, rfl⟩

theorem sFallOf (k : Nat) (hk : k < 20) (w : World) :
    Calls Try.prog 55 #[.int .i64 (k : Int)] w fun e w' => e = .returned (.tuple #[.float .f32 (fall k), .int .i64 0]) ∧ w = w' := by
  have HK := hid hk
  clear hk
  go_enter Try.func55, Try.ntmps55
  go_wp2_with fail
  refine (sClass_t k HK.out _).mono ?_
  rintro e w1 ⟨rfl, rfl⟩
  go_wp2_with fail
  refine (sFallK k HK.out _).mono ?_
  rintro e w2 ⟨rfl, rfl⟩
  go_wp2
  go_ret2
  exact ⟨rfl, rfl⟩

theorem sFallOf_f (n : Int) (hn : ¬ (0 ≤ n ∧ n < 20)) (w : World) :
    Calls Try.prog 55 #[.int .i64 n] w fun e w' => e = .returned (.tuple #[.float .f32 0, .int .i64 2]) ∧ w = w' := by
  have HN := hid hn
  clear hn
  go_enter Try.func55, Try.ntmps55
  go_wp2_with fail
  refine (sClass_f n HN.out _).mono ?_
  rintro e w1 ⟨rfl, rfl⟩
  go_wp2
  go_ret2
  exact ⟨rfl, rfl⟩

set_option maxRecDepth 100000 in
theorem coreFallOf (x0 : Int) (r0 : Nat) (hl0 : r0 < 4294967296) (hf0 : finB r0 = true) (r1 : Int)
    (hS : ∀ w, Calls Try.prog 55 #[.int .i64 x0] w fun e w' => e = .returned (.tuple #[.float .f32 r0, .int .i64 r1]) ∧ Below w.heap.size w w')
    (hI : ∀ w, Calls Try.prog 56 #[.int .i64 x0] w fun e w' => e = .returned (.tuple #[.float .f32 r0, .int .i64 r1]) ∧ Below w.heap.size w w') (w : World) :
    Calls Try.prog 11 #[.int .i64 x0] w fun e w' => e = .returned (.bool true) ∧ Below w.heap.size w w' := by
  have b0 := Below.refl w.heap.size w
  have HS := hid hS
  have HI := hid hI
  clear hS hI
  have hc0 := fun w => run_conv_wid (P := Try.prog) w 22 26 r0 hl0 Try.underlying22 Try.underlying26 (finB_iff.1 hf0)
  have Hl0 := hid hl0
  have Hf0 := hid hf0
  clear hl0 hf0
  go_enter Try.func11, Try.ntmps11
  go_wp2_with fail
  refine (HS.out _).mono ?_
  rintro e v0 ⟨rfl, hbv0⟩
  have bv0 := stp b0 (Nat.le_refl _) hbv0
  go_wp2_with fail
  refine (HI.out _).mono ?_
  rintro e v1 ⟨rfl, hbv1⟩
  have bv1 := stp bv0 (Nat.le_refl _) hbv1
  go_wp2_with fail
  refine (sameFloat r0 Hl0.out Hf0.out _).mono ?_
  rintro e z0 ⟨rfl, rfl⟩
  go_wp2
  go_ret
  exact ⟨rfl, bv1⟩

theorem lawFallOf (n : Int) (_h1 : -9223372036854775808 ≤ n) (_h2 : n ≤ 9223372036854775807) (w : World) :
    Calls Try.prog 11 #[.int .i64 n] w fun e w' => e = .returned (.bool true) ∧ Below w.heap.size w w' := by
  by_cases hn : 0 ≤ n ∧ n < 20
  · obtain ⟨k, rfl⟩ := Int.eq_ofNat_of_zero_le hn.1
    have hk : k < 20 := by omega
    have h1 := (fall_facts hk).2.2.2.2
    exact coreFallOf k (fall k) (amt_lt h1) (amt_fin h1) 0 (fun w => loose (sFallOf k hk w)) (fun w => loose (iFallOf k hk w)) w
  · exact coreFallOf n 0 (by decide) (by decide) 2 (fun w => loose (sFallOf_f n hn w)) (fun w => loose (iFallOf_f n hn w)) w

theorem words_cons : ∀ (v : List Char) (r : List Char), (∀ c ∈ v, c ≠ Char.ofNat 32) → wordsSigns (v ++ Char.ofNat 32 :: r) = v :: wordsSigns r
  | [], r, _ => rfl
  | c :: v, r, h => by
    have ih := words_cons v r (fun x hx => h x (by simp [hx]))
    have hc : c ≠ Char.ofNat 32 := h c (by simp)
    show wordsSigns (c :: (v ++ Char.ofNat 32 :: r)) = _
    rw [wordsSigns.eq_3 _ _ (fun e => hc e), ih]

def w0 : List Nat := [104, 97, 114, 110, 101, 115, 115]

def w1 : List Nat := [97, 97, 48, 52, 102, 49, 99, 51, 50, 54, 56, 53, 56, 53, 102, 57, 99, 56, 55, 101, 50, 56, 99, 101, 57, 99, 99, 99, 52, 98, 56, 57, 52, 51, 53, 102, 101, 102, 99, 51, 54, 98, 102, 57, 51, 50, 53, 51, 57, 101, 54, 98, 50, 101, 98, 55, 50, 53, 53, 97, 54, 51, 54, 55]

def w2 : List Nat := [99, 117, 116]

def w3 : List Nat := [97, 116, 32, 108, 111, 111, 112, 46, 101, 120, 97, 109, 112, 108, 101, 47, 103, 48, 49, 50, 50, 52, 47, 108, 97, 119, 115, 46, 70, 110, 69, 120, 97, 99, 116, 84, 104, 105, 114, 100, 82, 111, 111, 116, 32, 108, 111, 111, 112, 46, 101, 120, 97, 109, 112, 108, 101, 47, 103, 48, 49, 50, 50, 52, 47, 108, 97, 119, 115, 46, 70, 110, 69, 120, 97, 99, 116, 83, 104, 105, 102, 116, 77, 97, 115, 115, 101, 115, 32, 108, 111, 111, 112, 46, 101, 120, 97, 109, 112, 108, 101, 47, 103, 48, 49, 50, 50, 52, 47, 108, 97, 119, 115, 46, 70, 110, 69, 120, 97, 99, 116, 71, 97, 105, 110, 115, 65, 116, 32, 108, 111, 111, 112, 46, 101, 120, 97, 109, 112, 108, 101, 47, 103, 48, 49, 50, 50, 52, 47, 108, 97, 119, 115, 46, 70, 110, 69, 120, 97, 99, 116, 71, 114, 111, 119, 79, 110, 99, 101, 32, 108, 111, 111, 112, 46, 101, 120, 97, 109, 112, 108, 101, 47, 103, 48, 49, 50, 50, 52, 47, 108, 97, 119, 115, 46, 70, 110, 69, 120, 97, 99, 116, 71, 114, 111, 119, 83, 116, 101, 112, 115, 32, 108, 111, 111, 112, 46, 101, 120, 97, 109, 112, 108, 101, 47, 103, 48, 49, 50, 50, 52, 47, 108, 97, 119, 115, 46, 70, 110, 69, 120, 97, 99, 116, 83, 116, 101, 112, 115, 84, 111, 68, 114, 121, 32, 108, 111, 111, 112, 46, 101, 120, 97, 109, 112, 108, 101, 47, 103, 48, 49, 50, 50, 52, 47, 108, 97, 119, 115, 46, 70, 110, 69, 120, 97, 99, 116, 86, 97, 108, 105, 100, 75, 101, 114, 110, 101, 108, 32, 108, 111, 111, 112, 46, 101, 120, 97, 109, 112, 108, 101, 47, 103, 48, 49, 50, 50, 52, 47, 108, 97, 119, 115, 46, 70, 110, 69, 120, 97, 99, 116, 83, 97, 109, 101, 75, 101, 114, 110, 101, 108, 32, 108, 111, 111, 112, 46, 101, 120, 97, 109, 112, 108, 101, 47, 103, 48, 49, 50, 50, 52, 47, 108, 97, 119, 115, 46, 70, 110, 69, 120, 97, 99, 116, 70, 97, 108, 108, 79, 102, 32, 108, 111, 111, 112, 46, 101, 120, 97, 109, 112, 108, 101, 47, 103, 48, 49, 50, 50, 52, 47, 108, 97, 119, 115, 46, 70, 110, 69, 120, 97, 99, 116, 70, 108, 97, 116, 75, 101, 114, 110, 101, 108, 32, 108, 111, 111, 112, 46, 101, 120, 97, 109, 112, 108, 101, 47, 103, 48, 49, 50, 50, 52, 47, 108, 97, 119, 115, 46, 70, 110, 69, 120, 97, 99, 116, 83, 117, 109, 75, 101, 114, 110, 101, 108, 32, 108, 111, 111, 112, 46, 101, 120, 97, 109, 112, 108, 101, 47, 103, 48, 49, 50, 50, 52, 47, 108, 97, 119, 115, 46, 70, 110, 69, 120, 97, 99, 116, 70, 97, 108, 108, 75, 101, 114, 110, 101, 108, 32, 108, 111, 111, 112, 46, 101, 120, 97, 109, 112, 108, 101, 47, 103, 48, 49, 50, 50, 52, 47, 108, 97, 119, 115, 46, 70, 110, 69, 120, 97, 99, 116, 65, 100, 100, 75, 101, 114, 110, 101, 108, 115, 32, 108, 111, 111, 112, 46, 101, 120, 97, 109, 112, 108, 101, 47, 103, 48, 49, 50, 50, 52, 47, 108, 97, 119, 115, 46, 70, 110, 69, 120, 97, 99, 116, 83, 99, 97, 108, 101, 75, 101, 114, 110, 101, 108, 32, 108, 111, 111, 112, 46, 101, 120, 97, 109, 112, 108, 101, 47, 103, 48, 49, 50, 50, 52, 47, 108, 97, 119, 115, 46, 70, 110, 69, 120, 97, 99, 116, 69, 118, 101, 110, 116, 115, 79, 102, 32, 108, 111, 111, 112, 46, 101, 120, 97, 109, 112, 108, 101, 47, 103, 48, 49, 50, 50, 52, 47, 108, 97, 119, 115, 46, 70, 110, 69, 120, 97, 99, 116, 76, 111, 115, 115, 101, 115, 79, 102, 32, 108, 111, 111, 112, 46, 101, 120, 97, 109, 112, 108, 101, 47, 103, 48, 49, 50, 50, 52, 47, 108, 97, 119, 115, 46, 70, 110, 69, 120, 97, 99, 116, 67, 111, 108, 108, 105, 100, 101, 32, 108, 111, 111, 112, 46, 101, 120, 97, 109, 112, 108, 101, 47, 103, 48, 49, 50, 50, 52, 47, 108, 97, 119, 115, 46, 70, 110, 69, 120, 97, 99, 116, 67, 111, 108, 108, 105, 100, 101, 83, 116, 101, 112, 115, 32, 108, 111, 111, 112, 46, 101, 120, 97, 109, 112, 108, 101, 47, 103, 48, 49, 50, 50, 52, 47, 108, 97, 119, 115, 46, 70, 110, 69, 120, 97, 99, 116, 82, 97, 105, 110, 77, 97, 100, 101, 32, 108, 111, 111, 112, 46, 101, 120, 97, 109, 112, 108, 101, 47, 103, 48, 49, 50, 50, 52, 47, 108, 97, 119, 115, 46, 70, 110, 69, 120, 97, 99, 116, 66, 114, 101, 97, 107, 67, 108, 97, 115, 115, 32, 108, 111, 111, 112, 46, 101, 120, 97, 109, 112, 108, 101, 47, 103, 48, 49, 50, 50, 52, 47, 108, 97, 119, 115, 46, 70, 110, 69, 120, 97, 99, 116, 66, 114, 101, 97, 107, 76, 97, 114, 103, 101, 32, 108, 111, 111, 112, 46, 101, 120, 97, 109, 112, 108, 101, 47, 103, 48, 49, 50, 50, 52, 47, 108, 97, 119, 115, 46, 70, 110, 69, 120, 97, 99, 116, 86, 97, 108, 105, 100, 66, 111, 120, 32, 108, 111, 111, 112, 46, 101, 120, 97, 109, 112, 108, 101, 47, 103, 48, 49, 50, 50, 52, 47, 108, 97, 119, 115, 46, 70, 110, 69, 120, 97, 99, 116, 77, 97, 115, 115, 79, 102, 66, 111, 120, 32, 108, 111, 111, 112, 46, 101, 120, 97, 109, 112, 108, 101, 47, 103, 48, 49, 50, 50, 52, 47, 108, 97, 119, 115, 46, 70, 110, 69, 120, 97, 99, 116, 83, 105, 122, 101, 115, 79, 102, 66, 111, 120, 32, 108, 111, 111, 112, 46, 101, 120, 97, 109, 112, 108, 101, 47, 103, 48, 49, 50, 50, 52, 47, 108, 97, 119, 115, 46, 70, 110, 69, 120, 97, 99, 116, 67, 111, 108, 108, 105, 100, 101, 80, 97, 105, 114, 32, 108, 111, 111, 112, 46, 101, 120, 97, 109, 112, 108, 101, 47, 103, 48, 49, 50, 50, 52, 47, 108, 97, 119, 115, 46, 70, 110, 69, 120, 97, 99, 116, 67, 111, 108, 108, 105, 100, 101, 80, 97, 105, 114, 115, 32, 108, 111, 111, 112, 46, 101, 120, 97, 109, 112, 108, 101, 47, 103, 48, 49, 50, 50, 52, 47, 108, 97, 119, 115, 46, 70, 110, 69, 120, 97, 99, 116, 68, 114, 97, 119, 80, 97, 105, 114, 115, 32, 108, 111, 111, 112, 46, 101, 120, 97, 109, 112, 108, 101, 47, 103, 48, 49, 50, 50, 52, 47, 108, 97, 119, 115, 46, 70, 110, 69, 120, 97, 99, 116, 71, 97, 116, 104, 101, 114, 68, 117, 115, 116]

def letters (l : List Nat) : List Char := l.map Char.ofNat

theorem head_reads : Try.prog.initOrder = String.ofList (letters w0 ++ Char.ofNat 32 :: (letters w1 ++ Char.ofNat 32 :: (letters w2 ++ Char.ofNat 32 :: letters w3))) := by kernel_rfl

theorem no_blank {l : List Nat} (h : l.all (fun n => Char.ofNat n != Char.ofNat 32) = true) : ∀ c ∈ letters l, c ≠ Char.ofNat 32 := by
  intro c hc
  obtain ⟨n, hn, rfl⟩ := List.mem_map.1 hc
  have := List.all_eq_true.1 h n hn
  simpa using this

theorem h0 : letters w0 = "harness".toList := by kernel_rfl

theorem h2 : letters w2 = "cut".toList := by kernel_rfl

theorem sums : isSumSigns (letters w1) = true := by kernel_rfl

theorem words : wordsSigns Try.prog.initOrder.toList = "harness".toList :: letters w1 :: "cut".toList :: wordsSigns (letters w3) := by
  rw [head_reads, String.toList_ofList, words_cons _ _ (no_blank (by decide +kernel)), words_cons _ _ (no_blank (by decide +kernel)), words_cons _ _ (no_blank (by decide +kernel)), h0, h2]

theorem behind : ∃ r, behindMainWord (wordsSigns Try.prog.initOrder.toList) = "cut".toList :: r := by
  refine ⟨wordsSigns (letters w3), ?_⟩
  rw [words]
  generalize wordsSigns (letters w3) = r
  have hs := sums
  generalize letters w1 = v at hs
  unfold behindMainWord
  simp [hs]

theorem not_later : Try.prog.laysLater = false := by kernel_rfl

theorem no_reflect : Try.prog.bearsReflect = false := by kernel_rfl

theorem no_doors : Try.prog.doorFits [] = true := by kernel_rfl

theorem strips (r : List (List Char)) : stripLifts liftWords ("cut".toList :: r) = ([], "cut".toList :: r) := by kernel_rfl

theorem may_enter_of (P : Program) (r : List (List Char)) (h : behindMainWord (wordsSigns P.initOrder.toList) = "cut".toList :: r) (h1 : P.laysLater = false) (h2 : P.bearsReflect = false) (h3 : P.doorFits [] = true) : P.mayEnter = true := by
  unfold Program.mayEnter
  rw [h]
  dsimp only
  rw [strips, h1, h2, h3]
  kernel_rfl

theorem lifts_final_of (P : Program) (r : List (List Char)) (h : behindMainWord (wordsSigns P.initOrder.toList) = "cut".toList :: r) : P.liftsFinal = false := by
  unfold Program.liftsFinal Program.headLifts
  rw [h]
  dsimp only
  rw [strips]
  kernel_rfl

theorem made_of (P : Program) (r : List (List Char)) (h : behindMainWord (wordsSigns P.initOrder.toList) = "cut".toList :: r) : P.make = some .cut := by
  unfold Program.make
  rw [h]
  kernel_rfl

theorem may_enter : Try.prog.mayEnter = true := let ⟨r, h⟩ := behind; may_enter_of _ r h not_later no_reflect no_doors

theorem lifts_final : Try.prog.liftsFinal = false := let ⟨r, h⟩ := behind; lifts_final_of _ r h

theorem made : Try.prog.make = some .cut := let ⟨r, h⟩ := behind; made_of _ r h

theorem laid : laidOutB Try.prog = true := by kernel_rfl

theorem rowed : mapsRowed Try.prog = true := by kernel_rfl

theorem no_stops : Try.prog.stops = [] := by kernel_rfl

theorem no_knobs : Try.prog.stopKnobs = [] := by kernel_rfl

theorem plain_keys : Try.prog.plainKeys = false := by kernel_rfl

theorem stops_heard : Try.prog.stopsHeard = true := by kernel_rfl

theorem arr1 {α : Type} {cs : Array α} (h : cs.size = 1) : ∃ c0, cs = #[c0] := by
  obtain ⟨l⟩ := cs
  match l, h with
  | [a], _ => exact ⟨a, rfl⟩

theorem own : ownKnob Try.prog.godebug = none := by kernel_rfl

theorem rdi : Try.prog.readableRec 2 = true ∧ 2 < Try.prog.types.size := ⟨by kernel_rfl, of_decide_eq_true (by kernel_rfl)⟩
end Go.Proofs.Ytnnhoololemaaaa

namespace Go.Proofs.Ytnnhoololemaaaa.fnExactFallOf
open Go.RowKit Go.Fl Go.ChangeShapes Go.WideShapes Go.ChangeAt

theorem closed : joinedFacts Try.prog 11 Try.f11 Rows.fnExactFallOfSpec Rows.fnExactFallOfRow = true := by
  unfold joinedFacts
  simp only [Bool.and_eq_true]
  exact ⟨⟨⟨⟨⟨⟨⟨⟨⟨⟨⟨⟨⟨⟨⟨⟨⟨⟨⟨⟨⟨⟨⟨⟨⟨⟨⟨⟨⟨⟨⟨(by as_aux_lemma => kernel_rfl),
    laid⟩,
    rowed⟩,
    (by as_aux_lemma => kernel_rfl)⟩,
    (by as_aux_lemma => kernel_rfl)⟩,
    (by as_aux_lemma => kernel_rfl)⟩,
    (by rw [no_stops]; rfl)⟩,
    (by as_aux_lemma => kernel_rfl)⟩,
    (by rw [no_knobs]; rfl)⟩,
    (by as_aux_lemma => kernel_rfl)⟩,
    (by as_aux_lemma => kernel_rfl)⟩,
    (by as_aux_lemma => kernel_rfl)⟩,
    (by as_aux_lemma => kernel_rfl)⟩,
    (by as_aux_lemma => kernel_rfl)⟩,
    (by as_aux_lemma => kernel_rfl)⟩,
    (by as_aux_lemma => kernel_rfl)⟩,
    (by as_aux_lemma => kernel_rfl)⟩,
    (by as_aux_lemma => kernel_rfl)⟩,
    (by as_aux_lemma => kernel_rfl)⟩,
    (by as_aux_lemma => kernel_rfl)⟩,
    (by as_aux_lemma => kernel_rfl)⟩,
    (by as_aux_lemma => kernel_rfl)⟩,
    (show (Rows.fnExactFallOfRow.plainKeys == Try.prog.plainKeys) = true by rw [plain_keys]; rfl)⟩,
    (by as_aux_lemma => kernel_rfl)⟩,
    stops_heard⟩,
    may_enter⟩,
    (show (Rows.fnExactFallOfRow.lifted == Try.prog.liftsFinal) = true by rw [lifts_final]; rfl)⟩,
    (show (Try.prog.make == some Rows.fnExactFallOfRow.make) = true by rw [made]; rfl)⟩,
    (by as_aux_lemma => kernel_rfl)⟩,
    (by as_aux_lemma => kernel_rfl)⟩,
    (by as_aux_lemma => kernel_rfl)⟩,
    (by as_aux_lemma => kernel_rfl)⟩

set_option maxRecDepth 100000 in
theorem lifted (os : Os) (started : os.Started) (H : Type) (enc : TypeId × Value → H) :
    ReturnsInHanded {} Try.checked os 11 .any (Rows.fnExactFallOfSpec.pre6 enc Try.prog Try.f11 Rows.fnExactFallOfRow.domain false) (Rows.fnExactFallOfSpec.post enc Try.prog Try.f11 false true false false) := by
  refine LawFrame.lifted (C := Try.checked) (fn := Try.f11) (n := 1) (tb := 4) started own (by kernel_rfl) Try.func11 laid ?_ rfl rfl ?_ rfl Try.underlying4
    (ChangeSpec.witness6 (enc := enc) (C := Try.checked) false ⟨#[], #[.int .i64 0], []⟩ 8 (by kernel_rfl) (by kernel_rfl) (by kernel_rfl) (by kernel_rfl)) ?_
  · intro t ht
    simp only [Try.params11, List.mem_cons, List.not_mem_nil, or_false] at ht
    subst ht; exact rdi
  · intro ds hd
    match ds, hd with
    | [_], _ => rfl
  · intro W base args ds ps hval hn _
    obtain ⟨v0, rfl⟩ : ∃ v0, args = #[v0] := arr1 hn
    obtain ⟨c0, rfl, hb0, hc0⟩ := open_i64 Try.underlying2 (hval 0 2 v0 rfl rfl)
    exact lawFallOf c0 hb0 hc0 W

theorem over : Rows.fnExactFallOfRow.holds Try.pinned (OpenSpec.ofChange Rows.fnExactFallOfSpec) :=
  OpenClaim.holds_of_wide 11 Try.f11 rfl rfl rfl rfl rfl rfl rfl ⟨rfl, rfl, rfl, rfl, rfl⟩ rfl rfl rfl rfl rfl (by kernel_rfl) Try.func11 closed
    (of_decide_eq_true (by kernel_rfl)) (by unfold Func.isWrapper; rw [if_neg (by decide +kernel)]; exact ⟨rfl, rfl⟩)
    (fun os started H enc _ => lifted os started H enc)

theorem proved : Rows.FnExactFallOfSaid := over
#print axioms proved
end Go.Proofs.Ytnnhoololemaaaa.fnExactFallOf
