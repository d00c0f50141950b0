import Derived.Test.YtbbdnmhoagojdaaDoorEClasses
import Derived.Test.YtbbdnmhoagojdaaDoorChecked
import Derived.Test.YtbbdnmhoagojdaaDoorRows
import Derived.Test.YtbbdnmhoagojdaaDoorCards
import Derived.Test.YtbbdnmhoagojdaaDoorTie
import Derived.Laws.FloatArith
import Derived.ProofKit
import Derived.WalkKit
import Derived.Deep.RegionHeld3
import Derived.ChangeKeysEq
import Derived.Laws.BitsAllLaws
import Derived.Deep.MidRow
import Derived.Deep.WholeRow
import Derived.StillTailTactics
import Derived.Deep.Slices
import Derived.ChangeSame
import Derived.OrdersIn
import Derived.ControlIn
import Derived.RangeFuncSeq
import Derived.RangeFuncNested
import Derived.ArgAppend
import Derived.OwnWalkIn
import Derived.TacticsInMore
import Derived.Below
import Derived.Laws.AppendOwn
import Derived.Laws.ComplexArith
import Derived.Deep.Strs
import Derived.WalkLawsBesides
import Derived.WalkSpells
import Derived.Deep.QuietTactic
import Derived.BigQuiet
import Derived.OpenShut
import Derived.Stop.LaidErr
import Derived.LaidMore
import Derived.Handed
import Derived.LaidHandle
import Derived.Stop.Joined
import Derived.StillTail
import Derived.RangeFuncLeaves
import Derived.RangeFuncBox
import Derived.MapKept
import Derived.ScopeJumps
import Derived.Laws.Bits64b
import Derived.Laws.IdiomStrings
import Derived.MakeChecks
import Derived.Lib.LaidTab
import Derived.Shelf.Strings.OnBuilder
import Derived.Lib.Join
import Derived.Shelf.Strings.BuilderK
import Derived.LoopNIn
import Derived.LoopIn
import Derived.Shelf.Abstract
import Derived.Lib.SplitLaws
import Derived.Lib.IndexLaws
import Derived.Lib.ConvBytes
import Derived.Shelf.Strconv.SyntaxError
import Derived.Lib.IfaceEq
import Derived.Shelf.Strings.Split
import Derived.HandedShaped
import Derived.Shelf.Vars
import Derived.Lay
import Derived.SevenTiedAt
/- The tied card of FnClasses. -/
namespace Go.Proofs.YtbbdnmhoagojdaaDoor
open Go.RowKit Go.Fl

@[go_sem] theorem ext_f64bits (y : Nat) (w : World) : (callFunc 138 #[.float .f64 y]).run Tryd.prog w = .ok (.value (.int .u64 y)) w := by
  rw [run_callFunc_extern Tryd.func138 (by kernel_rfl) (by kernel_rfl) (by kernel_rfl) (e := Extern.MathFloatBits.float64bits) (by kernel_rfl)]
  rfl

@[go_sem] theorem ext_f64from (n : Int) (w : World) : (callFunc 144 #[.int .u64 n]).run Tryd.prog w = .ok (.value (.float .f64 n.toNat)) w := by
  rw [run_callFunc_extern Tryd.func144 (by kernel_rfl) (by kernel_rfl) (by kernel_rfl) (e := Extern.MathFloatBits.float64frombits) (by kernel_rfl)]
  rfl

theorem hid {p : Prop} (h : p) : Hid p := h

theorem clear_sign (y : Nat) (h : y < 18446744073709551616) : (bits BinOp.andNot IntKind.u64 (y : Int) 9223372036854775808).toNat = y % 9223372036854775808 := by
  rw [u64_andNot _ _ (by omega) (by omega) (by omega) (by omega)]
  rw [Int.toNat_natCast, Int.toNat_natCast]
  exact Nat.and_two_pow_sub_one_eq_mod y 63

theorem abs_f64 (y : Nat) (h : y < 18446744073709551616) (w : World) :
    Calls Tryd.prog 142 #[.float .f64 y] w fun e w' => e = .returned (.float .f64 (y % 9223372036854775808)) ∧ w = w' := by
  have hc := hid (clear_sign y h)
  clear h
  go_enter Tryd.func142, Tryd.ntmps142
  go_wp2
  go_ret
  exact ⟨by simp [hc.out], rfl⟩

theorem isNaN_f64 (y : Nat) (w : World) :
    Calls Tryd.prog 107 #[.float .f64 y] w fun e w' => e = .returned (.bool (FloatKind.f64.format.order y y != some .eq)) ∧ w = w' := by
  go_enter Tryd.func107, Tryd.ntmps107
  go_wp2
  go_ret
  exact ⟨rfl, rfl⟩

theorem isInf_f64 (y : Nat) (h : y < 18446744073709551616) (w : World) :
    Calls Tryd.prog 108 #[.float .f64 y, .int .i64 0] w fun e w' => e = .returned (.bool (FloatKind.f64.format.order (y % 9223372036854775808) 9218868437227405311 == some .gt)) ∧ w = w' := by
  have hc := hid h
  clear h
  go_enter Tryd.func108, Tryd.ntmps108
  go_wp2_with (go_at_call 142; refine (abs_f64 y hc.out _).mono ?_; rintro e w' ⟨rfl, rfl⟩)
  go_ret
  exact ⟨rfl, rfl⟩

theorem isFinite_t (x : Nat) (hx : x < 4294967296) (h : finB x = true) (w : World) :
    Calls Tryd.prog 61 #[.float .f32 x] w fun e w' => e = .returned (.bool true) ∧ w = w' := by
  rw [finB_iff] at h
  have hc := fun w => run_conv_wid (P := Tryd.prog) w 22 86 x hx Tryd.underlying22 Tryd.underlying86 h
  obtain ⟨a, b, m, e, hr⟩ := read_wid_fin hx h
  have hn : (FloatKind.f64.format.order (wid x) (wid x) != some .eq) = false := by
    show (D.order (wid x) (wid x) != some .eq) = false
    rw [order_self hr]; rfl
  have hi : (FloatKind.f64.format.order (wid x % 9223372036854775808) 9218868437227405311 == some .gt) = false := by
    show (D.order (wid x % 9223372036854775808) 9218868437227405311 == some .gt) = false
    rw [b, order_ltD a (by decide)]
    rw [DINF_val] at a
    have hle : wid (mg x) ≤ 9218868437227405311 := by omega
    rcases Nat.lt_or_eq_of_le hle with h' | h'
    · rw [Nat.compare_eq_lt.2 h']; rfl
    · rw [Nat.compare_eq_eq.2 h']; rfl
  have hw : wid x < 18446744073709551616 := D.write_lt _
  have Hn := hid hn
  have Hi := hid hi
  have Hw := hid hw
  clear hn hi hw hr a b h hx
  go_enter Tryd.func61, Tryd.ntmps61
  go_wp2_with (first | (go_at_call 107; refine (isNaN_f64 (wid x) _).mono ?_; rintro e w' ⟨rfl, rfl⟩; rw [Hn.out]) | (go_at_call 108; refine (isInf_f64 (wid x) Hw.out _).mono ?_; rintro e w' ⟨rfl, rfl⟩; rw [Hi.out]))
  go_ret
  exact ⟨rfl, rfl⟩

theorem signbit_f64 (y : Nat) (w : World) :
    Calls Tryd.prog 97 #[.float .f64 y] w fun e w' => e = .returned (.bool (decide (wrap64 (y : Int) < 0))) ∧ w = w' := by
  go_enter Tryd.func97, Tryd.ntmps97
  go_wp2
  go_ret
  exact ⟨rfl, rfl⟩

theorem and_sign (y : Nat) (h : y < 18446744073709551616) : (decide (wrap64 (y : Int) < 0)) = decide (9223372036854775808 ≤ y) := by
  unfold wrap64
  by_cases h' : 9223372036854775808 ≤ y
  · rw [decide_eq_true h']; simp; omega
  · rw [decide_eq_false h']; simp; omega

theorem isAmount_t (x : Nat) (h : amtB x = true) (w : World) :
    Calls Tryd.prog 48 #[.float .f32 x] w fun e w' => e = .returned (.bool true) ∧ w = w' := by
  have hf := amt_fin h
  rw [amtB_iff, INF_val] at h
  have hx : x < 4294967296 := by omega
  have hc := fun w => run_conv_wid (P := Tryd.prog) w 22 86 x hx Tryd.underlying22 Tryd.underlying86 (finB_iff.1 hf)
  have hw : wid x < 18446744073709551616 := D.write_lt _
  have Hs := hid (show (decide (wrap64 (wid x : Int) < 0)) = false by
    rw [and_sign _ hw]
    have := (wid_val (x := x) (by rw [INF_val]; omega)).1
    rw [DINF_val] at this
    simp; omega)
  have Hx := hid hx
  have Hf := hid hf
  clear h hf hx hw
  go_enter Tryd.func48, Tryd.ntmps48
  go_wp2_with (first | (go_at_call 61; refine (isFinite_t x Hx.out Hf.out _).mono ?_; rintro e w' ⟨rfl, rfl⟩) | (go_at_call 97; refine (signbit_f64 (wid x) _).mono ?_; rintro e w' ⟨rfl, rfl⟩; rw [Hs.out]))
  go_ret
  exact ⟨rfl, rfl⟩

@[go_sem] theorem ext_f32bits (y : Nat) (w : World) : (callFunc 116 #[.float .f32 y]).run Tryd.prog w = .ok (.value (.int .u32 y)) w := by
  rw [run_callFunc_extern Tryd.func116 (by kernel_rfl) (by kernel_rfl) (by kernel_rfl) (e := Extern.MathFloatBits.float32bits) (by kernel_rfl)]
  rfl

/-- The mass of a class, as a word. -/
theorem iMass (k : Nat) (hk : k < 20) (w : World) :
    Calls Tryd.prog 58 #[.int .i64 (k : Int)] w fun e w' => e = .returned (.float .f32 (mass k)) ∧ w = w' := by
  have H : k = 0 ∨ k = 1 ∨ k = 2 ∨ k = 3 ∨ k = 4 ∨ k = 5 ∨ k = 6 ∨ k = 7 ∨ k = 8 ∨ k = 9 ∨ k = 10 ∨ k = 11 ∨ k = 12 ∨ k = 13 ∨ k = 14 ∨ k = 15 ∨ k = 16 ∨ k = 17 ∨ k = 18 ∨ k = 19 := by omega
  rcases H with rfl | rfl | rfl | rfl | rfl | rfl | rfl | rfl | rfl | rfl | rfl | rfl | rfl | rfl | rfl | rfl | rfl | rfl | rfl | rfl
  all_goals
    go_enter Tryd.func58, Tryd.ntmps58
    go_wp2
    go_ret
    exact ⟨rfl, rfl⟩

theorem sMass (k : Nat) (hk : k < 20) (w : World) :
    Calls Tryd.prog 106 #[.int .i64 (k : Int)] w fun e w' => e = .returned (.float .f32 (mass k)) ∧ w = w' := by
  have H : k = 0 ∨ k = 1 ∨ k = 2 ∨ k = 3 ∨ k = 4 ∨ k = 5 ∨ k = 6 ∨ k = 7 ∨ k = 8 ∨ k = 9 ∨ k = 10 ∨ k = 11 ∨ k = 12 ∨ k = 13 ∨ k = 14 ∨ k = 15 ∨ k = 16 ∨ k = 17 ∨ k = 18 ∨ k = 19 := by omega
  rcases H with rfl | rfl | rfl | rfl | rfl | rfl | rfl | rfl | rfl | rfl | rfl | rfl | rfl | rfl | rfl | rfl | rfl | rfl | rfl | rfl
  all_goals
    go_enter Tryd.func106, Tryd.ntmps106
    go_wp2
    go_ret
    exact ⟨rfl, rfl⟩

theorem isClass_t (k : Nat) (hk : k < 20) (w : World) :
    Calls Tryd.prog 57 #[.int .i64 (k : Int)] w fun e w' => e = .returned (.bool true) ∧ w = w' := by
  have h1 : decide ((0 : Int) ≤ (k : Int)) = true := by simp
  go_enter Tryd.func57, Tryd.ntmps57
  go_wp2
  go_ret
  exact ⟨by first | rfl | (simp; done) | (simp; omega), rfl⟩

theorem isClass_f (n : Int) (hn : ¬ (0 ≤ n ∧ n < 20)) (w : World) :
    Calls Tryd.prog 57 #[.int .i64 n] w fun e w' => e = .returned (.bool false) ∧ w = w' := by
  by_cases h0 : 0 ≤ n
  · have h2 : ¬ n < 20 := by omega
    have h3 : 20 ≤ n := by omega
    clear hn h2
    go_enter Tryd.func57, Tryd.ntmps57
    go_wp2
    go_ret
    exact ⟨by first | rfl | (simp; done) | (simp; omega), rfl⟩
  · have h3 : n < 0 := by omega
    have h4 : decide (0 ≤ n) = false := by simp; omega
    clear hn h0
    go_enter Tryd.func57, Tryd.ntmps57
    go_wp2
    go_ret
    exact ⟨by simp, rfl⟩

theorem l00In_t (n a b : Int) (h1 : a ≤ n) (h2 : n ≤ b) (w : World) :
    Calls Tryd.prog 104 #[.int .i64 n, .int .i64 a, .int .i64 b] w fun e w' => e = .returned (.bool true) ∧ w = w' := by
  go_enter Tryd.func104, Tryd.ntmps104
  go_wp2
  go_ret
  exact ⟨by first | rfl | (simp; done) | (simp; omega), rfl⟩

theorem sClass_t (k : Nat) (hk : k < 20) (w : World) :
    Calls Tryd.prog 59 #[.int .i64 (k : Int)] w fun e w' => e = .returned (.bool true) ∧ w = w' := by
  go_enter Tryd.func59, Tryd.ntmps59
  go_wp2_with fail
  refine (l00In_t k 0 19 (by omega) (by omega) _).mono ?_
  rintro e w1 ⟨rfl, rfl⟩
  go_wp2
  go_ret
  exact ⟨rfl, rfl⟩

theorem iMassOf_ok (k : Nat) (hk : k < 20) (w : World) :
    Calls Tryd.prog 22 #[.int .i64 (k : Int)] w fun e w' => e = .returned (.tuple #[.float .f32 (mass k), .int .i64 0]) ∧ Below w.heap.size w w' := by
  go_enter Tryd.func22, Tryd.ntmps22
  go_wp2_with fail
  refine (isClass_t k hk _).mono ?_
  rintro e w1 ⟨rfl, rfl⟩
  go_wp2_with fail
  refine (iMass k hk _).mono ?_
  rintro e w1 ⟨rfl, rfl⟩
  go_wp2
  go_ret2
  exact ⟨rfl, Below.refl _ _⟩

theorem iMassOf_bad (n : Int) (hn : ¬ (0 ≤ n ∧ n < 20)) (w : World) :
    Calls Tryd.prog 22 #[.int .i64 n] w fun e w' => e = .returned (.tuple #[.float .f32 0, .int .i64 2]) ∧ Below w.heap.size w w' := by
  have H := hid hn
  clear hn
  go_enter Tryd.func22, Tryd.ntmps22
  go_wp2_with fail
  refine (isClass_f n H.out _).mono ?_
  rintro e w1 ⟨rfl, rfl⟩
  go_wp2
  go_ret2
  exact ⟨rfl, Below.refl _ _⟩

theorem iEdgeOf_ok (k : Nat) (hk : k < 20) (w : World) :
    Calls Tryd.prog 23 #[.int .i64 (k : Int)] w fun e w' => e = .returned (.tuple #[.float .f32 (fmul 1069547520 (mass k)), .int .i64 0]) ∧ Below w.heap.size w w' := by
  have hm := fun w => run_mul (P := Tryd.prog) 22 (x := 1069547520) (by decide) (mass_amt hk) w
  go_enter Tryd.func23, Tryd.ntmps23
  go_wp2_with fail
  refine (isClass_t k hk _).mono ?_
  rintro e w1 ⟨rfl, rfl⟩
  go_wp2_with fail
  refine (iMass k hk _).mono ?_
  rintro e w1 ⟨rfl, rfl⟩
  go_wp2
  go_ret2
  exact ⟨rfl, Below.refl _ _⟩

theorem info_u8a : (Tryd.prog.info? 5).map (·.size) = some 1 := by kernel_rfl

set_option maxRecDepth 100000 in
set_option maxHeartbeats 1000000 in
theorem lA2Long (s t : Value) (n m : Nat) (x y : Nat → Int) (w : World) (hs : RdV w s n (byV x)) (ht : RdV w t m (byV y)) (b : Bool) (hb : b = true ↔ (3000 < n ∨ 3000 < m)) :
    Calls Tryd.prog 20 #[s, t] w fun e w' => e = .returned (.bool b) ∧ Below w.heap.size w w' := by
  obtain ⟨p, cap, rfl, _⟩ := hs
  obtain ⟨p2, cap2, rfl, _⟩ := ht
  by_cases h1 : 3000 < n
  · have h1' : (3000 : Int) < (n : Int) := by omega
    obtain rfl : b = true := hb.2 (.inl h1)
    clear hb
    go_enter Tryd.func20, Tryd.ntmps20
    go_wp2
    go_ret
    exact ⟨rfl, Below.refl _ _⟩
  · have h1' : ¬ (3000 : Int) < (n : Int) := by omega
    by_cases h2 : 3000 < m
    · have h2' : (3000 : Int) < (m : Int) := by omega
      obtain rfl : b = true := hb.2 (.inr h2)
      clear hb
      go_enter Tryd.func20, Tryd.ntmps20
      go_wp2
      go_ret
      exact ⟨rfl, Below.refl _ _⟩
    · have h2' : ¬ (3000 : Int) < (m : Int) := by omega
      obtain rfl : b = false := by rw [← Bool.not_eq_true]; intro h; rcases hb.1 h with h | h <;> omega
      clear hb
      go_enter Tryd.func20, Tryd.ntmps20
      go_wp2
      go_ret
      exact ⟨rfl, Below.refl _ _⟩

set_option maxRecDepth 100000 in
set_option maxHeartbeats 1000000 in
theorem lA2At (s : Value) (n : Nat) (x : Nat → Int) (w : World) (hs : RdV w s n (byV x)) (hx : Bytes8 n x) (k : Nat) (m : Nat) (h1 : 1 ≤ m) (hm : m ≤ 1000) :
    Calls Tryd.prog 21 #[s, .int .i64 (k : Int), .int .i64 (m : Int)] w fun e w' => (∃ r : Nat, r < m ∧ e = .returned (.int .i64 (r : Int))) ∧ Below w.heap.size w w' := by
  obtain ⟨p, cap, rfl, hc⟩ := hs
  have HM := hid h1
  have HM2 := hid hm
  by_cases hk : k < n
  · obtain ⟨b, o, rfl, hcell⟩ := hc (by omega)
    have c0 : w.cell? ⟨b, o + k, none⟩ = some (.int .u8 (x k)) := hcell k hk
    have i1 := fun w => run_indexAt (P := Tryd.prog) (t := 39) (e := 5) Tryd.underlying39 info_u8a (b := b) (o := o) (n := n) (cap := cap) (k := k) hk w
    simp only [Nat.mul_one] at i1
    have hk' : ¬ ((n : Int) ≤ (k : Int)) := by omega
    have hm' : ¬ ((m : Int) < 1) := by omega
    have hm0 : ¬ ((m : Int) = 0) := by omega
    obtain ⟨hx0, hx1⟩ := hx k hk
    obtain ⟨z, hz⟩ : ∃ z : Nat, x k = (z : Int) := ⟨(x k).toNat, by omega⟩
    rw [hz] at c0 hx1
    have HZ := hid hx1
    clear hx hc hcell hz hx0 hx1
    have hr : wrap64 (Int.tmod (z : Int) (m : Int)) = ((z % m : Nat) : Int) := by
      have : Int.tmod (z : Int) (m : Int) = ((z % m : Nat) : Int) := by rw [Int.tmod_eq_emod_of_nonneg (by omega)]; rfl
      rw [this]
      have := Nat.mod_lt z (show m > 0 by omega)
      unfold wrap64; omega
    have hw : wrap64 (z : Int) = (z : Int) := by have := HZ.out; unfold wrap64; omega
    clear h1 hm hk
    go_enter Tryd.func21, Tryd.ntmps21
    go_wp2
    go_ret
    exact ⟨⟨z % m, Nat.mod_lt z HM.out, rfl⟩, Below.refl _ _⟩
  · have hk' : (n : Int) ≤ (k : Int) := by omega
    clear hc hx h1 hm hk
    go_enter Tryd.func21, Tryd.ntmps21
    go_wp2
    go_ret
    exact ⟨⟨0, HM.out, rfl⟩, Below.refl _ _⟩

theorem info_int1 : (Tryd.prog.info? 3).map (·.size) = some 1 := by kernel_rfl

theorem info_u641 : (Tryd.prog.info? 104).map (·.size) = some 1 := by kernel_rfl

theorem wrapB (z : Int) : ∃ r, IntKind.u64.wrap z = r ∧ 0 ≤ r ∧ r < 18446744073709551616 := ⟨_, rfl, by rw [IntKind.wrap_u64]; omega⟩

theorem u64_and (a : Int) (h : 0 ≤ a ∧ a < 18446744073709551616) : ∃ r : Nat, bits BinOp.and IntKind.u64 (a / 1099511627776) 255 = (r : Int) ∧ r < 256 := by
  obtain ⟨n, hn⟩ : ∃ n : Nat, a / 1099511627776 = (n : Int) := ⟨(a / 1099511627776).toNat, by omega⟩
  refine ⟨n % 256, ?_, Nat.mod_lt _ (by decide)⟩
  rw [hn, show (255 : Int) = ((255 : Nat) : Int) from rfl, bits_and_u64_nat n 255 (by omega) (by decide), Nat.and_two_pow_sub_one_eq_mod n 8]

theorem wr_kB {a : Nat} (h : a < 4611686018427387904) : wrap64 ((a : Int) + 1) = ((a + 1 : Nat) : Int) := by unfold wrap64; omega

theorem cv_iu (y : Int) (h : 0 ≤ y ∧ y < 256) (w : World) : (convert 3 104 (.int .i64 y)).run Tryd.prog w = .ok (.int .u64 y) w := by
  have := (show IntKind.u64.wrap y = y by rw [IntKind.wrap_u64]; omega)
  go_simp

theorem cv_ui (y : Int) (h : 0 ≤ y ∧ y < 256) (w : World) : (convert 104 2 (.int .u64 y)).run Tryd.prog w = .ok (.int .i64 y) w := by
  have := (show IntKind.i64.wrap y = y by rw [IntKind.wrap_i64]; omega)
  go_simp

theorem w8_i64 {y : Nat} (h : y < 256) : IntKind.i64.wrap (y : Int) = (y : Int) := by rw [IntKind.wrap_i64]; omega

set_option maxRecDepth 100000 in
set_option maxHeartbeats 1000000 in
theorem lNextIn (w0 : World) (l : List (Nat × Array Value × TypeId)) (S n cap a : Nat) (p : Option Addr) (x : Nat → Int) (sd : Int) (hby : RdV w0 (.slice p n cap) n (byV x)) (hx : Bytes8 n x) (hat : a < 4611686018427387904) (hsd : 0 ≤ sd ∧ sd < 18446744073709551616) (w : World) (hk : Kept w0 ((S, #[.slice p n cap, .int .i64 (a : Int), .int .u64 (sd)], 169) :: l) w) (hB : w0.heap.size ≤ S) (hne : ∀ x ∈ l, x.1 ≠ S) (hlt : a < n) :
    Calls Tryd.prog 143 #[.pointer (some ⟨S, 0, none⟩)] w fun e w' => (∃ r : Nat, r < 256 ∧ e = .returned (.int .i64 (r : Int))) ∧ ∃ sd' : Int, (0 ≤ sd' ∧ sd' < 18446744073709551616) ∧ Kept w0 ((S, #[.slice p n cap, .int .i64 ((a + 1 : Nat) : Int), .int .u64 (sd')], 169) :: l) w' := by
  have HB := hid hB
  have HNE := hid hne
  have k0 := hid hk
  obtain ⟨r1, m1, hr1⟩ := wrapB (sd * 6364136223846793005)
  obtain ⟨b, o, rfl, hcell⟩ := (show ∃ b o, p = some ⟨b, o, none⟩ ∧ ∀ k, k < n → w0.cell? ⟨b, o + k, none⟩ = some (byV x k) by
    obtain ⟨p', cap', e, hc⟩ := hby
    injection e with e1 e2 e3
    subst e1
    exact hc (by omega))
  have hc0 := hid (hcell a hlt)
  obtain ⟨y, hy, hy2⟩ : ∃ y : Nat, x a = (y : Int) ∧ y < 256 := ⟨(x a).toNat, by have := hx a hlt; omega, by have := hx a hlt; omega⟩
  have hyv : byV x a = .int .u8 (y : Int) := by show Value.int .u8 (x a) = _; rw [hy]
  rw [hyv] at hc0
  have i1 := fun w => run_indexAt (P := Tryd.prog) (t := 39) (e := 5) Tryd.underlying39 info_u8a (b := b) (o := o) (n := n) (cap := cap) (k := a) hlt w
  simp only [Nat.mul_one] at i1
  have HY := hid hy2
  obtain ⟨r2, m2, hr2⟩ := wrapB (r1 + (y : Int))
  obtain ⟨r3, m3, hr3⟩ := wrapB (r2 + 1442695040888963407)
  obtain ⟨r5, m5, hr5⟩ := u64_and r3 hr3
  have HR := hid hr3
  have HR5 := hid hr5
  have hlt3 : (a : Int) < (n : Int) := Int.ofNat_lt.2 hlt
  have HLT3 := hid hlt3
  have hw1 := wr_kB hat
  have hle : ((a + 1 : Nat) : Int) ≤ (n : Int) := Int.ofNat_le.2 hlt
  have hl8 : (a : Int) + 1 ≤ (n : Int) := Int.ofNat_le.2 hlt
  have HLE3 := hid hle
  have HL8 := hid hl8
  have hcy := fun w => cv_iu (y : Int) ⟨Int.natCast_nonneg _, Int.ofNat_lt.2 hy2⟩ w
  have hc5 := fun w => cv_ui (r5 : Int) ⟨Int.natCast_nonneg _, Int.ofNat_lt.2 hr5⟩ w
  clear hB hne hk hby hx hlt hat hsd hr1 hr2 hr3 hr5 hlt3 hle hl8 hcell hy hy2 hyv
  go_enter Tryd.func143, Tryd.ntmps143
  go_wp2_with fail
  refine region_act (w0 := w0) (lk := ((S, #[.slice (some ⟨b, o, none⟩) n cap, .int .i64 (a), .int .u64 (sd)], 169) :: l)) (fun a0 a1 wq => a1 = ((((((((((a0.put (some 4) (.pointer (some ⟨S, 0, none⟩))).put (some 5) (.pointer (some ⟨S, 0, none⟩))).put (some 6) (.pointer (some ⟨S, 1, none⟩))).put (some 7) (.int .i64 (a))).put (some 8) (.pointer (some ⟨S, 0, none⟩))).put (some 9) (.pointer (some ⟨S, 0, none⟩))).put (some 10) (.pointer (some ⟨S, 0, none⟩))).put (some 11) (.slice (some ⟨b, o, none⟩) n cap)).put (some 12) (.int .i64 (n : Int))).put (some 13) (.bool true)) ∧ Kept w0 ((S, #[.slice (some ⟨b, o, none⟩) n cap, .int .i64 (a), .int .u64 (sd)], 169) :: l) wq) 10 #[false, false, false, false, false, false, false, false, false, false] (by kernel_rfl) rfl rfl ?_ ?_
  · have kd := k0.out.drew
    clear k0
    generalize World.drew _ = wd at kd ⊢
    refine take_val 0 _ _ (.pointer (some ⟨S, 0, none⟩)) rfl (by rfl) (by kernel_rfl) (by kernel_rfl) (by kernel_rfl) (fun w => by unfold execOp; go_simp) rfl rfl kd ?_
    simp only [Act.put, List.setIfInBounds_toArray, List.set_cons_zero, List.set_cons_succ]
    refine take_val 1 _ _ (.pointer (some ⟨S, 0, none⟩)) rfl (by rfl) (by kernel_rfl) (by kernel_rfl) (by kernel_rfl) (fun w => by unfold execOp; go_simp) rfl rfl kd ?_
    simp only [Act.put, List.setIfInBounds_toArray, List.set_cons_zero, List.set_cons_succ]
    refine take_val 2 _ _ (.pointer (some ⟨S, 1, none⟩)) rfl (by rfl) (by kernel_rfl) (by kernel_rfl) (by kernel_rfl) (fun w => by unfold execOp; go_simp) rfl rfl kd ?_
    simp only [Act.put, List.setIfInBounds_toArray, List.set_cons_zero, List.set_cons_succ]
    refine take_cell 3 _ _ (.int .i64 (a)) rfl (by rfl) (by kernel_rfl) (by kernel_rfl) (by kernel_rfl) (fun wq hS => by have hcell : wq.cell? ⟨S, 1, none⟩ = some (.int .i64 (a)) := (cell_of_row _ S 1 _ _ _ (hS.at (x := (S, #[.slice (some ⟨b, o, none⟩) n cap, .int .i64 (a), .int .u64 (sd)], 169)) in0)).trans rfl; clear hS; unfold execOp; go_simp) rfl rfl kd ?_
    simp only [Act.put, List.setIfInBounds_toArray, List.set_cons_zero, List.set_cons_succ]
    refine take_val 4 _ _ (.pointer (some ⟨S, 0, none⟩)) rfl (by rfl) (by kernel_rfl) (by kernel_rfl) (by kernel_rfl) (fun w => by unfold execOp; go_simp) rfl rfl kd ?_
    simp only [Act.put, List.setIfInBounds_toArray, List.set_cons_zero, List.set_cons_succ]
    refine take_val 5 _ _ (.pointer (some ⟨S, 0, none⟩)) rfl (by rfl) (by kernel_rfl) (by kernel_rfl) (by kernel_rfl) (fun w => by unfold execOp; go_simp) rfl rfl kd ?_
    simp only [Act.put, List.setIfInBounds_toArray, List.set_cons_zero, List.set_cons_succ]
    refine take_val 6 _ _ (.pointer (some ⟨S, 0, none⟩)) rfl (by rfl) (by kernel_rfl) (by kernel_rfl) (by kernel_rfl) (fun w => by unfold execOp; go_simp) rfl rfl kd ?_
    simp only [Act.put, List.setIfInBounds_toArray, List.set_cons_zero, List.set_cons_succ]
    refine take_cell 7 _ _ (.slice (some ⟨b, o, none⟩) n cap) rfl (by rfl) (by kernel_rfl) (by kernel_rfl) (by kernel_rfl) (fun wq hS => by have hcell : wq.cell? ⟨S, 0, none⟩ = some (.slice (some ⟨b, o, none⟩) n cap) := (cell_of_row _ S 0 _ _ _ (hS.at (x := (S, #[.slice (some ⟨b, o, none⟩) n cap, .int .i64 (a), .int .u64 (sd)], 169)) in0)).trans rfl; clear hS; unfold execOp; go_simp) rfl rfl kd ?_
    simp only [Act.put, List.setIfInBounds_toArray, List.set_cons_zero, List.set_cons_succ]
    refine take_val 8 _ _ (.int .i64 (n : Int)) rfl (by rfl) (by kernel_rfl) (by kernel_rfl) (by kernel_rfl) (fun w => by unfold execOp; go_simp) rfl rfl kd ?_
    simp only [Act.put, List.setIfInBounds_toArray, List.set_cons_zero, List.set_cons_succ]
    refine take_val 9 _ _ (.bool true) rfl (by rfl) (by kernel_rfl) (by kernel_rfl) (by kernel_rfl) (fun w => by have h9 := HLT3.out; have h8 := trivial; unfold execOp; go_simp) rfl rfl kd ?_
    simp only [Act.put, List.setIfInBounds_toArray, List.set_cons_zero, List.set_cons_succ]
    refine wpAnyH_done (by kernel_rfl) ?_ _
    exact ⟨rfl, rfl, kd⟩
  rintro a1 wz ⟨rfl, kz⟩
  have k1 := hid kz
  clear kz
  simp only [Act.put, List.setIfInBounds_toArray, List.set_cons_zero, List.set_cons_succ]
  go_wp2_with fail
  have c9 : Hid (∀ wq : World, Kept w0 ((S, #[.slice (some ⟨b, o, none⟩) n cap, .int .i64 (a), .int .u64 (sd)], 169) :: l) wq → wq.cell? ⟨b, o + a, none⟩ = some (.int .u8 (y : Int))) := hid (fun wq hq => by rw [hq.1.cell (block_lt_of_cell hc0.out)]; exact hc0.out)
  refine region_act (w0 := w0) (lk := ((S, #[.slice (some ⟨b, o, none⟩) n cap, .int .i64 (a), .int .u64 (sd)], 169) :: l)) (fun a0 a1 wq => a1 = ((((((((((((a0.put (some 14) (.pointer (some ⟨S, 0, none⟩))).put (some 15) (.pointer (some ⟨S, 0, none⟩))).put (some 16) (.pointer (some ⟨S, 0, none⟩))).put (some 17) (.slice (some ⟨b, o, none⟩) n cap)).put (some 18) (.pointer (some ⟨S, 0, none⟩))).put (some 19) (.pointer (some ⟨S, 0, none⟩))).put (some 20) (.pointer (some ⟨S, 1, none⟩))).put (some 21) (.int .i64 (a))).put (some 22) (.pointer (some ⟨b, o + a, none⟩))).put (some 23) (.int .u8 (y : Int))).put (some 24) (.int .i64 (y : Int))).put (some 3) (.int .i64 (y : Int))) ∧ Kept w0 ((S, #[.slice (some ⟨b, o, none⟩) n cap, .int .i64 (a), .int .u64 (sd)], 169) :: l) wq) 12 #[false, false, false, false, false, false, false, false, false, false, false, false] (by kernel_rfl) rfl rfl ?_ ?_
  · have kd := k1.out.drew
    clear k1
    generalize World.drew _ = wd at kd ⊢
    refine take_val 0 _ _ (.pointer (some ⟨S, 0, none⟩)) rfl (by rfl) (by kernel_rfl) (by kernel_rfl) (by kernel_rfl) (fun w => by unfold execOp; go_simp) rfl rfl kd ?_
    simp only [Act.put, List.setIfInBounds_toArray, List.set_cons_zero, List.set_cons_succ]
    refine take_val 1 _ _ (.pointer (some ⟨S, 0, none⟩)) rfl (by rfl) (by kernel_rfl) (by kernel_rfl) (by kernel_rfl) (fun w => by unfold execOp; go_simp) rfl rfl kd ?_
    simp only [Act.put, List.setIfInBounds_toArray, List.set_cons_zero, List.set_cons_succ]
    refine take_val 2 _ _ (.pointer (some ⟨S, 0, none⟩)) rfl (by rfl) (by kernel_rfl) (by kernel_rfl) (by kernel_rfl) (fun w => by unfold execOp; go_simp) rfl rfl kd ?_
    simp only [Act.put, List.setIfInBounds_toArray, List.set_cons_zero, List.set_cons_succ]
    refine take_cell 3 _ _ (.slice (some ⟨b, o, none⟩) n cap) rfl (by rfl) (by kernel_rfl) (by kernel_rfl) (by kernel_rfl) (fun wq hS => by have hcell : wq.cell? ⟨S, 0, none⟩ = some (.slice (some ⟨b, o, none⟩) n cap) := (cell_of_row _ S 0 _ _ _ (hS.at (x := (S, #[.slice (some ⟨b, o, none⟩) n cap, .int .i64 (a), .int .u64 (sd)], 169)) in0)).trans rfl; clear hS; unfold execOp; go_simp) rfl rfl kd ?_
    simp only [Act.put, List.setIfInBounds_toArray, List.set_cons_zero, List.set_cons_succ]
    refine take_val 4 _ _ (.pointer (some ⟨S, 0, none⟩)) rfl (by rfl) (by kernel_rfl) (by kernel_rfl) (by kernel_rfl) (fun w => by unfold execOp; go_simp) rfl rfl kd ?_
    simp only [Act.put, List.setIfInBounds_toArray, List.set_cons_zero, List.set_cons_succ]
    refine take_val 5 _ _ (.pointer (some ⟨S, 0, none⟩)) rfl (by rfl) (by kernel_rfl) (by kernel_rfl) (by kernel_rfl) (fun w => by unfold execOp; go_simp) rfl rfl kd ?_
    simp only [Act.put, List.setIfInBounds_toArray, List.set_cons_zero, List.set_cons_succ]
    refine take_val 6 _ _ (.pointer (some ⟨S, 1, none⟩)) rfl (by rfl) (by kernel_rfl) (by kernel_rfl) (by kernel_rfl) (fun w => by unfold execOp; go_simp) rfl rfl kd ?_
    simp only [Act.put, List.setIfInBounds_toArray, List.set_cons_zero, List.set_cons_succ]
    refine take_cell 7 _ _ (.int .i64 (a)) rfl (by rfl) (by kernel_rfl) (by kernel_rfl) (by kernel_rfl) (fun wq hS => by have hcell : wq.cell? ⟨S, 1, none⟩ = some (.int .i64 (a)) := (cell_of_row _ S 1 _ _ _ (hS.at (x := (S, #[.slice (some ⟨b, o, none⟩) n cap, .int .i64 (a), .int .u64 (sd)], 169)) in0)).trans rfl; clear hS; unfold execOp; go_simp) rfl rfl kd ?_
    simp only [Act.put, List.setIfInBounds_toArray, List.set_cons_zero, List.set_cons_succ]
    refine take_val 8 _ _ (.pointer (some ⟨b, o + a, none⟩)) rfl (by rfl) (by kernel_rfl) (by kernel_rfl) (by kernel_rfl) (fun w => by have h9 := i1; unfold execOp; go_simp) rfl rfl kd ?_
    simp only [Act.put, List.setIfInBounds_toArray, List.set_cons_zero, List.set_cons_succ]
    refine take_cell 9 _ _ (.int .u8 (y : Int)) rfl (by rfl) (by kernel_rfl) (by kernel_rfl) (by kernel_rfl) (fun wq hS => by have hcell : wq.cell? ⟨b, o + a, none⟩ = some (.int .u8 (y : Int)) := c9.out _ hS; clear hS; unfold execOp; go_simp) rfl rfl kd ?_
    simp only [Act.put, List.setIfInBounds_toArray, List.set_cons_zero, List.set_cons_succ]
    refine take_val 10 _ _ (.int .i64 (y : Int)) rfl (by rfl) (by kernel_rfl) (by kernel_rfl) (by kernel_rfl) (fun w => by have := w8_i64 HY.out; unfold execOp; go_simp) rfl rfl kd ?_
    simp only [Act.put, List.setIfInBounds_toArray, List.set_cons_zero, List.set_cons_succ]
    refine take_val 11 _ _ (.int .i64 (y : Int)) rfl (by rfl) (by kernel_rfl) (by kernel_rfl) (by kernel_rfl) (fun w => by unfold execOp; go_simp) rfl rfl kd ?_
    simp only [Act.put, List.setIfInBounds_toArray, List.set_cons_zero, List.set_cons_succ]
    refine wpAnyH_done (by kernel_rfl) ?_ _
    exact ⟨rfl, rfl, kd⟩
  rintro a1 wz ⟨rfl, kz⟩
  have k2 := hid kz
  clear kz
  simp only [Act.put, List.setIfInBounds_toArray, List.set_cons_zero, List.set_cons_succ]
  have c1 : Hid (∀ wq : World, Kept w0 ((S, #[.slice (some ⟨b, o, none⟩) n cap, .int .i64 (a), .int .u64 (sd)], 169) :: l) wq → wq.cell? ⟨S, 1, none⟩ = some (.int .i64 (a : Int))) := hid (fun wq hq => (cell_of_row _ S 1 _ _ _ (hq.at (x := (S, #[.slice (some ⟨b, o, none⟩) n cap, .int .i64 (a), .int .u64 (sd)], 169)) in0)).trans rfl)
  have c8 := c1.out _ k2.out
  have tok1 : True := trivial
  go_wp2_with (first | (have _t := tok1; clear tok1; refine store_at rfl 3 _ _ rfl info_int1 S 1 (.int .i64 ((a + 1 : Nat) : Int)) (.int .i64 (a : Int)) #[.slice (some ⟨b, o, none⟩) n cap, .int .i64 (a : Int), .int .u64 (sd)] #[.slice (some ⟨b, o, none⟩) n cap, .int .i64 ((a + 1 : Nat) : Int), .int .u64 (sd)] (by rfl) (by first | rfl | (simp [Act.eval]; omega)) rfl rfl k2.out rfl rfl HB.out HNE.out (fun w3 k3 => ?_); have c2 : w3.cell? ⟨S, 2, none⟩ = some (.int .u64 sd) := (cell_of_row _ S 2 _ _ _ (k3.at (x := (S, #[.slice (some ⟨b, o, none⟩) n cap, .int .i64 ((a + 1 : Nat) : Int), .int .u64 (sd)], 169)) in0)).trans rfl; replace k3 := hid k3; clear k2 c8; have tok2 : True := trivial) | (have _t := tok2; clear tok2; refine store_at rfl 104 _ _ rfl info_u641 S 2 (.int .u64 r3) (.int .u64 sd) #[.slice (some ⟨b, o, none⟩) n cap, .int .i64 ((a + 1 : Nat) : Int), .int .u64 (sd)] #[.slice (some ⟨b, o, none⟩) n cap, .int .i64 ((a + 1 : Nat) : Int), .int .u64 (r3)] (by rfl) (by rfl) rfl rfl k3.out rfl rfl HB.out HNE.out (fun w4 k4 => ?_); replace k4 := hid k4; clear k3 c2))
  refine region_act (w0 := w0) (lk := ((S, #[.slice (some ⟨b, o, none⟩) n cap, .int .i64 (((a + 1 : Nat) : Int)), .int .u64 (r3)], 169) :: l)) (fun a0 a1 wq => a1 = ((((((((((a0.put (some 44) (.pointer (some ⟨S, 0, none⟩))).put (some 45) (.pointer (some ⟨S, 0, none⟩))).put (some 46) (.pointer (some ⟨S, 1, none⟩))).put (some 47) (.int .i64 (((a + 1 : Nat) : Int)))).put (some 48) (.pointer (some ⟨S, 0, none⟩))).put (some 49) (.pointer (some ⟨S, 0, none⟩))).put (some 50) (.pointer (some ⟨S, 0, none⟩))).put (some 51) (.slice (some ⟨b, o, none⟩) n cap)).put (some 52) (.int .i64 (n : Int))).put (some 53) (.bool true)) ∧ Kept w0 ((S, #[.slice (some ⟨b, o, none⟩) n cap, .int .i64 (((a + 1 : Nat) : Int)), .int .u64 (r3)], 169) :: l) wq) 10 #[false, false, false, false, false, false, false, false, false, false] (by kernel_rfl) rfl rfl ?_ ?_
  · have kd := k4.out.drew
    clear k4
    generalize World.drew _ = wd at kd ⊢
    refine take_val 0 _ _ (.pointer (some ⟨S, 0, none⟩)) rfl (by rfl) (by kernel_rfl) (by kernel_rfl) (by kernel_rfl) (fun w => by unfold execOp; go_simp) rfl rfl kd ?_
    simp only [Act.put, List.setIfInBounds_toArray, List.set_cons_zero, List.set_cons_succ]
    refine take_val 1 _ _ (.pointer (some ⟨S, 0, none⟩)) rfl (by rfl) (by kernel_rfl) (by kernel_rfl) (by kernel_rfl) (fun w => by unfold execOp; go_simp) rfl rfl kd ?_
    simp only [Act.put, List.setIfInBounds_toArray, List.set_cons_zero, List.set_cons_succ]
    refine take_val 2 _ _ (.pointer (some ⟨S, 1, none⟩)) rfl (by rfl) (by kernel_rfl) (by kernel_rfl) (by kernel_rfl) (fun w => by unfold execOp; go_simp) rfl rfl kd ?_
    simp only [Act.put, List.setIfInBounds_toArray, List.set_cons_zero, List.set_cons_succ]
    refine take_cell 3 _ _ (.int .i64 (((a + 1 : Nat) : Int))) rfl (by rfl) (by kernel_rfl) (by kernel_rfl) (by kernel_rfl) (fun wq hS => by have hcell : wq.cell? ⟨S, 1, none⟩ = some (.int .i64 (((a + 1 : Nat) : Int))) := (cell_of_row _ S 1 _ _ _ (hS.at (x := (S, #[.slice (some ⟨b, o, none⟩) n cap, .int .i64 (((a + 1 : Nat) : Int)), .int .u64 (r3)], 169)) in0)).trans rfl; clear hS; unfold execOp; go_simp) rfl rfl kd ?_
    simp only [Act.put, List.setIfInBounds_toArray, List.set_cons_zero, List.set_cons_succ]
    refine take_val 4 _ _ (.pointer (some ⟨S, 0, none⟩)) rfl (by rfl) (by kernel_rfl) (by kernel_rfl) (by kernel_rfl) (fun w => by unfold execOp; go_simp) rfl rfl kd ?_
    simp only [Act.put, List.setIfInBounds_toArray, List.set_cons_zero, List.set_cons_succ]
    refine take_val 5 _ _ (.pointer (some ⟨S, 0, none⟩)) rfl (by rfl) (by kernel_rfl) (by kernel_rfl) (by kernel_rfl) (fun w => by unfold execOp; go_simp) rfl rfl kd ?_
    simp only [Act.put, List.setIfInBounds_toArray, List.set_cons_zero, List.set_cons_succ]
    refine take_val 6 _ _ (.pointer (some ⟨S, 0, none⟩)) rfl (by rfl) (by kernel_rfl) (by kernel_rfl) (by kernel_rfl) (fun w => by unfold execOp; go_simp) rfl rfl kd ?_
    simp only [Act.put, List.setIfInBounds_toArray, List.set_cons_zero, List.set_cons_succ]
    refine take_cell 7 _ _ (.slice (some ⟨b, o, none⟩) n cap) rfl (by rfl) (by kernel_rfl) (by kernel_rfl) (by kernel_rfl) (fun wq hS => by have hcell : wq.cell? ⟨S, 0, none⟩ = some (.slice (some ⟨b, o, none⟩) n cap) := (cell_of_row _ S 0 _ _ _ (hS.at (x := (S, #[.slice (some ⟨b, o, none⟩) n cap, .int .i64 (((a + 1 : Nat) : Int)), .int .u64 (r3)], 169)) in0)).trans rfl; clear hS; unfold execOp; go_simp) rfl rfl kd ?_
    simp only [Act.put, List.setIfInBounds_toArray, List.set_cons_zero, List.set_cons_succ]
    refine take_val 8 _ _ (.int .i64 (n : Int)) rfl (by rfl) (by kernel_rfl) (by kernel_rfl) (by kernel_rfl) (fun w => by unfold execOp; go_simp) rfl rfl kd ?_
    simp only [Act.put, List.setIfInBounds_toArray, List.set_cons_zero, List.set_cons_succ]
    refine take_val 9 _ _ (.bool true) rfl (by rfl) (by kernel_rfl) (by kernel_rfl) (by kernel_rfl) (fun w => by have h9 := HLE3.out; have h8 := HL8.out; unfold execOp; go_simp) rfl rfl kd ?_
    simp only [Act.put, List.setIfInBounds_toArray, List.set_cons_zero, List.set_cons_succ]
    refine wpAnyH_done (by kernel_rfl) ?_ _
    exact ⟨rfl, rfl, kd⟩
  rintro a1 wz ⟨rfl, kz⟩
  have k5 := hid kz
  clear kz
  simp only [Act.put, List.setIfInBounds_toArray, List.set_cons_zero, List.set_cons_succ]
  go_wp2_with fail
  go_ret
  exact ⟨⟨y, HY.out, rfl⟩, r3, HR.out, k5.out⟩

set_option maxRecDepth 100000 in
set_option maxHeartbeats 1000000 in
theorem lNextOut (w0 : World) (l : List (Nat × Array Value × TypeId)) (S n cap a : Nat) (p : Option Addr) (x : Nat → Int) (sd : Int) (hby : RdV w0 (.slice p n cap) n (byV x)) (hx : Bytes8 n x) (hat : a < 4611686018427387904) (hsd : 0 ≤ sd ∧ sd < 18446744073709551616) (w : World) (hk : Kept w0 ((S, #[.slice p n cap, .int .i64 (a : Int), .int .u64 (sd)], 169) :: l) w) (hB : w0.heap.size ≤ S) (hne : ∀ x ∈ l, x.1 ≠ S) (hlt : ¬ a < n) :
    Calls Tryd.prog 143 #[.pointer (some ⟨S, 0, none⟩)] w fun e w' => (∃ r : Nat, r < 256 ∧ e = .returned (.int .i64 (r : Int))) ∧ ∃ sd' : Int, (0 ≤ sd' ∧ sd' < 18446744073709551616) ∧ Kept w0 ((S, #[.slice p n cap, .int .i64 ((a + 1 : Nat) : Int), .int .u64 (sd')], 169) :: l) w' := by
  have HB := hid hB
  have HNE := hid hne
  have k0 := hid hk
  obtain ⟨r1, m1, hr1⟩ := wrapB (sd * 6364136223846793005)
  obtain ⟨y, hy⟩ : ∃ y : Nat, y = 0 := ⟨0, rfl⟩
  have m2 : IntKind.u64.wrap r1 = r1 := by rw [IntKind.wrap_u64, Int.emod_eq_of_lt hr1.1 hr1.2]
  obtain ⟨r3, m3, hr3⟩ := wrapB (r1 + 1442695040888963407)
  obtain ⟨r5, m5, hr5⟩ := u64_and r3 hr3
  have HR := hid hr3
  have HR5 := hid hr5
  have hlt3 : ¬ (a : Int) < (n : Int) := fun h => hlt (Int.ofNat_lt.1 h)
  have HLT3 := hid hlt3
  have hw1 := wr_kB hat
  have hle : ¬ ((a + 1 : Nat) : Int) ≤ (n : Int) := fun h => hlt (Int.ofNat_le.1 h)
  have hl8 : ¬ (a : Int) + 1 ≤ (n : Int) := fun h => hlt (Int.ofNat_le.1 h)
  have HLE3 := hid hle
  have HL8 := hid hl8
  have HL9 := hid (Nat.le_of_not_lt hlt)
  have HL10 := hid (Int.not_le.1 hl8)
  have hcy := fun w => cv_iu 0 (by decide) w
  have hc5 := fun w => cv_ui (r5 : Int) ⟨Int.natCast_nonneg _, Int.ofNat_lt.2 hr5⟩ w
  clear hB hne hk hby hx hlt hat hsd hr1  hr3 hr5 hlt3 hle hl8 hy
  go_enter Tryd.func143, Tryd.ntmps143
  go_wp2_with fail
  refine region_act (w0 := w0) (lk := ((S, #[.slice p n cap, .int .i64 (a), .int .u64 (sd)], 169) :: l)) (fun a0 a1 wq => a1 = ((((((((((a0.put (some 4) (.pointer (some ⟨S, 0, none⟩))).put (some 5) (.pointer (some ⟨S, 0, none⟩))).put (some 6) (.pointer (some ⟨S, 1, none⟩))).put (some 7) (.int .i64 (a))).put (some 8) (.pointer (some ⟨S, 0, none⟩))).put (some 9) (.pointer (some ⟨S, 0, none⟩))).put (some 10) (.pointer (some ⟨S, 0, none⟩))).put (some 11) (.slice p n cap)).put (some 12) (.int .i64 (n : Int))).put (some 13) (.bool false)) ∧ Kept w0 ((S, #[.slice p n cap, .int .i64 (a), .int .u64 (sd)], 169) :: l) wq) 10 #[false, false, false, false, false, false, false, false, false, false] (by kernel_rfl) rfl rfl ?_ ?_
  · have kd := k0.out.drew
    clear k0
    generalize World.drew _ = wd at kd ⊢
    refine take_val 0 _ _ (.pointer (some ⟨S, 0, none⟩)) rfl (by rfl) (by kernel_rfl) (by kernel_rfl) (by kernel_rfl) (fun w => by unfold execOp; go_simp) rfl rfl kd ?_
    simp only [Act.put, List.setIfInBounds_toArray, List.set_cons_zero, List.set_cons_succ]
    refine take_val 1 _ _ (.pointer (some ⟨S, 0, none⟩)) rfl (by rfl) (by kernel_rfl) (by kernel_rfl) (by kernel_rfl) (fun w => by unfold execOp; go_simp) rfl rfl kd ?_
    simp only [Act.put, List.setIfInBounds_toArray, List.set_cons_zero, List.set_cons_succ]
    refine take_val 2 _ _ (.pointer (some ⟨S, 1, none⟩)) rfl (by rfl) (by kernel_rfl) (by kernel_rfl) (by kernel_rfl) (fun w => by unfold execOp; go_simp) rfl rfl kd ?_
    simp only [Act.put, List.setIfInBounds_toArray, List.set_cons_zero, List.set_cons_succ]
    refine take_cell 3 _ _ (.int .i64 (a)) rfl (by rfl) (by kernel_rfl) (by kernel_rfl) (by kernel_rfl) (fun wq hS => by have hcell : wq.cell? ⟨S, 1, none⟩ = some (.int .i64 (a)) := (cell_of_row _ S 1 _ _ _ (hS.at (x := (S, #[.slice p n cap, .int .i64 (a), .int .u64 (sd)], 169)) in0)).trans rfl; clear hS; unfold execOp; go_simp) rfl rfl kd ?_
    simp only [Act.put, List.setIfInBounds_toArray, List.set_cons_zero, List.set_cons_succ]
    refine take_val 4 _ _ (.pointer (some ⟨S, 0, none⟩)) rfl (by rfl) (by kernel_rfl) (by kernel_rfl) (by kernel_rfl) (fun w => by unfold execOp; go_simp) rfl rfl kd ?_
    simp only [Act.put, List.setIfInBounds_toArray, List.set_cons_zero, List.set_cons_succ]
    refine take_val 5 _ _ (.pointer (some ⟨S, 0, none⟩)) rfl (by rfl) (by kernel_rfl) (by kernel_rfl) (by kernel_rfl) (fun w => by unfold execOp; go_simp) rfl rfl kd ?_
    simp only [Act.put, List.setIfInBounds_toArray, List.set_cons_zero, List.set_cons_succ]
    refine take_val 6 _ _ (.pointer (some ⟨S, 0, none⟩)) rfl (by rfl) (by kernel_rfl) (by kernel_rfl) (by kernel_rfl) (fun w => by unfold execOp; go_simp) rfl rfl kd ?_
    simp only [Act.put, List.setIfInBounds_toArray, List.set_cons_zero, List.set_cons_succ]
    refine take_cell 7 _ _ (.slice p n cap) rfl (by rfl) (by kernel_rfl) (by kernel_rfl) (by kernel_rfl) (fun wq hS => by have hcell : wq.cell? ⟨S, 0, none⟩ = some (.slice p n cap) := (cell_of_row _ S 0 _ _ _ (hS.at (x := (S, #[.slice p n cap, .int .i64 (a), .int .u64 (sd)], 169)) in0)).trans rfl; clear hS; unfold execOp; go_simp) rfl rfl kd ?_
    simp only [Act.put, List.setIfInBounds_toArray, List.set_cons_zero, List.set_cons_succ]
    refine take_val 8 _ _ (.int .i64 (n : Int)) rfl (by rfl) (by kernel_rfl) (by kernel_rfl) (by kernel_rfl) (fun w => by unfold execOp; go_simp) rfl rfl kd ?_
    simp only [Act.put, List.setIfInBounds_toArray, List.set_cons_zero, List.set_cons_succ]
    refine take_val 9 _ _ (.bool false) rfl (by rfl) (by kernel_rfl) (by kernel_rfl) (by kernel_rfl) (fun w => by have h9 := HLT3.out; have h8 := HL9.out; unfold execOp; go_simp) rfl rfl kd ?_
    simp only [Act.put, List.setIfInBounds_toArray, List.set_cons_zero, List.set_cons_succ]
    refine wpAnyH_done (by kernel_rfl) ?_ _
    exact ⟨rfl, rfl, kd⟩
  rintro a1 wz ⟨rfl, kz⟩
  have k1 := hid kz
  clear kz
  simp only [Act.put, List.setIfInBounds_toArray, List.set_cons_zero, List.set_cons_succ]
  have k2 := k1
  clear k1
  have c1 : Hid (∀ wq : World, Kept w0 ((S, #[.slice p n cap, .int .i64 (a), .int .u64 (sd)], 169) :: l) wq → wq.cell? ⟨S, 1, none⟩ = some (.int .i64 (a : Int))) := hid (fun wq hq => (cell_of_row _ S 1 _ _ _ (hq.at (x := (S, #[.slice p n cap, .int .i64 (a), .int .u64 (sd)], 169)) in0)).trans rfl)
  have c8 := c1.out _ k2.out
  have tok1 : True := trivial
  go_wp2_with (first | (have _t := tok1; clear tok1; refine store_at rfl 3 _ _ rfl info_int1 S 1 (.int .i64 ((a + 1 : Nat) : Int)) (.int .i64 (a : Int)) #[.slice p n cap, .int .i64 (a : Int), .int .u64 (sd)] #[.slice p n cap, .int .i64 ((a + 1 : Nat) : Int), .int .u64 (sd)] (by rfl) (by first | rfl | (simp [Act.eval]; omega)) rfl rfl k2.out rfl rfl HB.out HNE.out (fun w3 k3 => ?_); have c2 : w3.cell? ⟨S, 2, none⟩ = some (.int .u64 sd) := (cell_of_row _ S 2 _ _ _ (k3.at (x := (S, #[.slice p n cap, .int .i64 ((a + 1 : Nat) : Int), .int .u64 (sd)], 169)) in0)).trans rfl; replace k3 := hid k3; clear k2 c8; have tok2 : True := trivial) | (have _t := tok2; clear tok2; refine store_at rfl 104 _ _ rfl info_u641 S 2 (.int .u64 r3) (.int .u64 sd) #[.slice p n cap, .int .i64 ((a + 1 : Nat) : Int), .int .u64 (sd)] #[.slice p n cap, .int .i64 ((a + 1 : Nat) : Int), .int .u64 (r3)] (by rfl) (by rfl) rfl rfl k3.out rfl rfl HB.out HNE.out (fun w4 k4 => ?_); replace k4 := hid k4; clear k3 c2))
  refine region_act (w0 := w0) (lk := ((S, #[.slice p n cap, .int .i64 (((a + 1 : Nat) : Int)), .int .u64 (r3)], 169) :: l)) (fun a0 a1 wq => a1 = ((((((((((a0.put (some 44) (.pointer (some ⟨S, 0, none⟩))).put (some 45) (.pointer (some ⟨S, 0, none⟩))).put (some 46) (.pointer (some ⟨S, 1, none⟩))).put (some 47) (.int .i64 (((a + 1 : Nat) : Int)))).put (some 48) (.pointer (some ⟨S, 0, none⟩))).put (some 49) (.pointer (some ⟨S, 0, none⟩))).put (some 50) (.pointer (some ⟨S, 0, none⟩))).put (some 51) (.slice p n cap)).put (some 52) (.int .i64 (n : Int))).put (some 53) (.bool false)) ∧ Kept w0 ((S, #[.slice p n cap, .int .i64 (((a + 1 : Nat) : Int)), .int .u64 (r3)], 169) :: l) wq) 10 #[false, false, false, false, false, false, false, false, false, false] (by kernel_rfl) rfl rfl ?_ ?_
  · have kd := k4.out.drew
    clear k4
    generalize World.drew _ = wd at kd ⊢
    refine take_val 0 _ _ (.pointer (some ⟨S, 0, none⟩)) rfl (by rfl) (by kernel_rfl) (by kernel_rfl) (by kernel_rfl) (fun w => by unfold execOp; go_simp) rfl rfl kd ?_
    simp only [Act.put, List.setIfInBounds_toArray, List.set_cons_zero, List.set_cons_succ]
    refine take_val 1 _ _ (.pointer (some ⟨S, 0, none⟩)) rfl (by rfl) (by kernel_rfl) (by kernel_rfl) (by kernel_rfl) (fun w => by unfold execOp; go_simp) rfl rfl kd ?_
    simp only [Act.put, List.setIfInBounds_toArray, List.set_cons_zero, List.set_cons_succ]
    refine take_val 2 _ _ (.pointer (some ⟨S, 1, none⟩)) rfl (by rfl) (by kernel_rfl) (by kernel_rfl) (by kernel_rfl) (fun w => by unfold execOp; go_simp) rfl rfl kd ?_
    simp only [Act.put, List.setIfInBounds_toArray, List.set_cons_zero, List.set_cons_succ]
    refine take_cell 3 _ _ (.int .i64 (((a + 1 : Nat) : Int))) rfl (by rfl) (by kernel_rfl) (by kernel_rfl) (by kernel_rfl) (fun wq hS => by have hcell : wq.cell? ⟨S, 1, none⟩ = some (.int .i64 (((a + 1 : Nat) : Int))) := (cell_of_row _ S 1 _ _ _ (hS.at (x := (S, #[.slice p n cap, .int .i64 (((a + 1 : Nat) : Int)), .int .u64 (r3)], 169)) in0)).trans rfl; clear hS; unfold execOp; go_simp) rfl rfl kd ?_
    simp only [Act.put, List.setIfInBounds_toArray, List.set_cons_zero, List.set_cons_succ]
    refine take_val 4 _ _ (.pointer (some ⟨S, 0, none⟩)) rfl (by rfl) (by kernel_rfl) (by kernel_rfl) (by kernel_rfl) (fun w => by unfold execOp; go_simp) rfl rfl kd ?_
    simp only [Act.put, List.setIfInBounds_toArray, List.set_cons_zero, List.set_cons_succ]
    refine take_val 5 _ _ (.pointer (some ⟨S, 0, none⟩)) rfl (by rfl) (by kernel_rfl) (by kernel_rfl) (by kernel_rfl) (fun w => by unfold execOp; go_simp) rfl rfl kd ?_
    simp only [Act.put, List.setIfInBounds_toArray, List.set_cons_zero, List.set_cons_succ]
    refine take_val 6 _ _ (.pointer (some ⟨S, 0, none⟩)) rfl (by rfl) (by kernel_rfl) (by kernel_rfl) (by kernel_rfl) (fun w => by unfold execOp; go_simp) rfl rfl kd ?_
    simp only [Act.put, List.setIfInBounds_toArray, List.set_cons_zero, List.set_cons_succ]
    refine take_cell 7 _ _ (.slice p n cap) rfl (by rfl) (by kernel_rfl) (by kernel_rfl) (by kernel_rfl) (fun wq hS => by have hcell : wq.cell? ⟨S, 0, none⟩ = some (.slice p n cap) := (cell_of_row _ S 0 _ _ _ (hS.at (x := (S, #[.slice p n cap, .int .i64 (((a + 1 : Nat) : Int)), .int .u64 (r3)], 169)) in0)).trans rfl; clear hS; unfold execOp; go_simp) rfl rfl kd ?_
    simp only [Act.put, List.setIfInBounds_toArray, List.set_cons_zero, List.set_cons_succ]
    refine take_val 8 _ _ (.int .i64 (n : Int)) rfl (by rfl) (by kernel_rfl) (by kernel_rfl) (by kernel_rfl) (fun w => by unfold execOp; go_simp) rfl rfl kd ?_
    simp only [Act.put, List.setIfInBounds_toArray, List.set_cons_zero, List.set_cons_succ]
    refine take_val 9 _ _ (.bool false) rfl (by rfl) (by kernel_rfl) (by kernel_rfl) (by kernel_rfl) (fun w => by have h9 := HLE3.out; have h8 := HL10.out; unfold execOp; go_simp) rfl rfl kd ?_
    simp only [Act.put, List.setIfInBounds_toArray, List.set_cons_zero, List.set_cons_succ]
    refine wpAnyH_done (by kernel_rfl) ?_ _
    exact ⟨rfl, rfl, kd⟩
  rintro a1 wz ⟨rfl, kz⟩
  have k5 := hid kz
  clear kz
  simp only [Act.put, List.setIfInBounds_toArray, List.set_cons_zero, List.set_cons_succ]
  have c7 : Hid (∀ wq : World, Kept w0 ((S, #[.slice p n cap, .int .i64 (((a + 1 : Nat) : Int)), .int .u64 (r3)], 169) :: l) wq → wq.cell? ⟨S, 2, none⟩ = some (.int .u64 r3)) := hid (fun wq hq => (cell_of_row _ S 2 _ _ _ (hq.at (x := (S, #[.slice p n cap, .int .i64 (((a + 1 : Nat) : Int)), .int .u64 (r3)], 169)) in0)).trans rfl)
  have c6 := c7.out _ k5.out
  go_wp2
  go_ret
  exact ⟨⟨r5, HR5.out, rfl⟩, r3, HR.out, k5.out⟩

/-- The source of draws lies at S, and at most k numbers have been drawn. -/
def SrcAt (w0 : World) (l : List (Nat × Array Value × TypeId)) (S k : Nat) (w : World) : Prop :=
  ∃ (n cap a : Nat) (p : Option Addr) (x : Nat → Int) (sd : Int), RdV w0 (.slice p n cap) n (byV x) ∧ Bytes8 n x ∧ a ≤ k ∧ (0 ≤ sd ∧ sd < 18446744073709551616) ∧ Kept w0 ((S, #[.slice p n cap, .int .i64 (a : Int), .int .u64 sd], 169) :: l) w

theorem SrcAt.keeps {w0 : World} {l : List (Nat × Array Value × TypeId)} {S k : Nat} {w : World} (h : SrcAt w0 l S k w) : Kept w0 l w := by
  obtain ⟨n, cap, a, p, x, sd, -, -, -, -, hk⟩ := h
  exact hk.tail

theorem SrcAt.stay {w0 : World} {l : List (Nat × Array Value × TypeId)} {S k : Nat} {w w' : World} (h : SrcAt w0 l S k w) (hb : Below w.heap.size w w') : SrcAt w0 l S k w' := by
  obtain ⟨n, cap, a, p, x, sd, h1, h2, h3, h4, hk⟩ := h
  exact ⟨n, cap, a, p, x, sd, h1, h2, h3, h4, hk.stay hb⟩

theorem SrcAt.lt {w0 : World} {l : List (Nat × Array Value × TypeId)} {S k : Nat} {w : World} (h : SrcAt w0 l S k w) : S < w.heap.size := by
  obtain ⟨n, cap, a, p, x, sd, h1, h2, h3, h4, hk⟩ := h
  exact hk.lt in0

theorem SrcAt.more {w0 : World} {l : List (Nat × Array Value × TypeId)} {S k j : Nat} {w : World} (h : SrcAt w0 l S k w) (hj : k ≤ j) : SrcAt w0 l S j w := by
  obtain ⟨n, cap, a, p, x, sd, h1, h2, h3, h4, hk⟩ := h
  exact ⟨n, cap, a, p, x, sd, h1, h2, Nat.le_trans h3 hj, h4, hk⟩

theorem lNext (w0 : World) (l : List (Nat × Array Value × TypeId)) (S k : Nat) (w : World) (h : SrcAt w0 l S k w) (hk : k < 1000000) (hB : w0.heap.size ≤ S) (hne : ∀ x ∈ l, x.1 ≠ S) :
    Calls Tryd.prog 143 #[.pointer (some ⟨S, 0, none⟩)] w fun e w' => (∃ r : Nat, r < 256 ∧ e = .returned (.int .i64 (r : Int))) ∧ SrcAt w0 l S (k + 1) w' := by
  obtain ⟨n, cap, a, p, x, sd, h1, h2, h3, h4, hkk⟩ := h
  by_cases hlt : a < n
  · refine (lNextIn w0 l S n cap a p x sd h1 h2 (by omega) h4 w hkk hB hne hlt).mono ?_
    rintro e w' ⟨hr, sd', hs, hk'⟩
    exact ⟨hr, n, cap, a + 1, p, x, sd', h1, h2, by omega, hs, hk'⟩
  · refine (lNextOut w0 l S n cap a p x sd h1 h2 (by omega) h4 w hkk hB hne hlt).mono ?_
    rintro e w' ⟨hr, sd', hs, hk'⟩
    exact ⟨hr, n, cap, a + 1, p, x, sd', h1, h2, by omega, hs, hk'⟩

set_option maxRecDepth 100000 in
set_option maxHeartbeats 1000000 in
theorem lPick (m : Nat) (hm : 1 ≤ m) (hm2 : m ≤ 4294967296) (w0 : World) (l : List (Nat × Array Value × TypeId)) (S k : Nat) (w : World) (h : SrcAt w0 l S k w) (hk : k < 900000) (hB : w0.heap.size ≤ S) (hne : ∀ x ∈ l, x.1 ≠ S) :
    Calls Tryd.prog 109 #[.pointer (some ⟨S, 0, none⟩), .int .i64 (m : Int)] w fun e w' => (∃ r : Nat, r < m ∧ e = .returned (.int .i64 (r : Int))) ∧ SrcAt w0 l S (k + 2) w' := by
  by_cases h1 : m ≤ 1
  · have h13 : (m : Int) ≤ 1 := by omega
    have HS := hid (h.more (Nat.le_add_right k 2))
    have HM := hid hm
    clear h hk hB hne hm hm2 h1
    go_enter Tryd.func109, Tryd.ntmps109
    go_wp2
    go_ret
    exact ⟨⟨0, HM.out, rfl⟩, HS.out⟩
  · have h13 : ¬ (m : Int) ≤ 1 := by omega
    have hm0 : ¬ ((m : Int) = 0) := by omega
    have HM := hid hm
    have HM1 := hid (Nat.lt_of_not_le h1)
    have HM2 := hid hm2
    have N1 := hid (lNext w0 l S k w h (by omega) hB hne)
    have N2 := hid (fun w1 (h1 : SrcAt w0 l S (k + 1) w1) => lNext w0 l S (k + 1) w1 h1 (by omega) hB hne)
    by_cases h2 : m ≤ 200
    · have h23 : ¬ (200 : Int) < (m : Int) := by omega
      clear h hk hB hne hm hm2 h1 h2
      go_enter Tryd.func109, Tryd.ntmps109
      go_wp2_with fail
      refine N1.out.mono ?_
      rintro e w1 ⟨⟨r, hr, rfl⟩, hs⟩
      have HS := hid (hs.more (Nat.le_succ (k + 1)))
      have HR := hid (Nat.mod_lt r (show m > 0 from HM.out))
      clear N1 N2 hs hr
      go_wp2
      go_ret
      exact ⟨⟨r % m, HR.out, rfl⟩, HS.out⟩
    · have h23 : (200 : Int) < (m : Int) := by omega
      clear h hk hB hne hm hm2 h1 h2
      go_enter Tryd.func109, Tryd.ntmps109
      go_wp2_with fail
      refine N1.out.mono ?_
      rintro e w1 ⟨⟨r, hr, rfl⟩, hs⟩
      have hN2 := N2.out w1 hs
      have NN := hid hN2
      have hw1 : IntKind.i64.wrap ((r : Int) * 256) = (r : Int) * 256 := by rw [IntKind.wrap_i64]; omega
      have hw2 : wrap64 ((r : Int) * 256) = (r : Int) * 256 := by unfold wrap64; omega
      have HR1 := hid hr
      clear N1 N2 hs hr hN2
      go_wp2_with fail
      refine NN.out.mono ?_
      rintro e w2 ⟨⟨s, hs2, rfl⟩, hs⟩
      have HS := hid hs
      have hr := HR1.out
      have hw3 : wrap64 ((r : Int) * 256 + (s : Int)) = ((r * 256 + s : Nat) : Int) := by unfold wrap64; omega
      have hw4 : IntKind.i64.wrap ((r : Int) * 256 + (s : Int)) = ((r * 256 + s : Nat) : Int) := by rw [IntKind.wrap_i64]; omega
      have hlt : r * 256 + s < 65536 := by omega
      generalize r * 256 + s = t at hw3 hw4 hlt
      have HR := hid (Nat.mod_lt t (show m > 0 from HM.out))
      clear NN hs hs2 hr hlt
      go_wp2
      go_ret
      exact ⟨⟨t % m, HR.out, rfl⟩, HS.out⟩

set_option maxRecDepth 100000 in
theorem lFrom (v : Value) (n : Nat) (x : Nat → Int) (w : World) (hs : RdV w v n (byV x)) (hx : Bytes8 n x) :
    Calls Tryd.prog 64 #[v] w fun e w' => e = .returned (.pointer (some ⟨w.heap.size, 0, none⟩)) ∧ SrcAt w [] w.heap.size 0 w' := by
  have hs' := hs
  obtain ⟨p, cap, rfl, _⟩ := hs'
  have K := hid (show SrcAt w [] w.heap.size 0 (w.alloc (.cells #[.slice p n cap, .int .i64 0, .int .u64 0] 169)) from ⟨n, cap, 0, p, x, 0, hs, hx, Nat.le_refl _, by decide, (Kept.nil w).push _ _⟩)
  clear hs hx
  go_enter Tryd.func64, Tryd.ntmps64
  go_wp2
  go_ret
  exact ⟨rfl, K.out⟩

/-- The table of trailing zeros where the base asks it. -/
def Tab64 (w : World) : Prop := w.cell? ⟨8, 15, none⟩ = some (.int .u8 4)

theorem Tab64.stay {w w' : World} (h : Tab64 w) (hb : Below w.heap.size w w') : Tab64 w' := by
  unfold Tab64 at *
  rw [hb.cell (block_lt_of_cell h)]; exact h

set_option maxRecDepth 100000 in
set_option maxHeartbeats 1000000 in
theorem iZeros16 (w : World) (h : Tab64 w) : Calls Tryd.prog 176 #[.int .u64 16] w fun e w' => e = .returned (.int .i64 4) ∧ w' = w := by
  have c0 : w.cell? ⟨8, 15, none⟩ = some (.int .u8 4) := h
  have hq : IntKind.u64.wrap (bits BinOp.and IntKind.u64 16 (IntKind.u64.wrap (-16)) * 285870213051353865) / 288230376151711744 = 15 := by decide
  clear h
  go_enter Tryd.func176, Tryd.ntmps176
  go_wp2
  go_ret
  exact ⟨rfl, rfl⟩

theorem hx_bits (u : Nat) (h : u < 18446744073709551616) : bits BinOp.and IntKind.u64 (u : Int) 15 = ((u % 16 : Nat) : Int) := by
  rw [show (15 : Int) = ((15 : Nat) : Int) from rfl, bits_and_u64_nat u 15 h (by decide), Nat.and_two_pow_sub_one_eq_mod u 4]

theorem zero65 : Tryd.zeroCells222 = vls 65 (fun _ => .int .u8 0) := by rfl

theorem info_u8 : (Tryd.prog.info? 5).map (·.size) = some 1 := by kernel_rfl

theorem ix36 (d : Nat) (h : d < 16) (w : World) : (Instr.index 9 (.string ⟨#[48, 49, 50, 51, 52, 53, 54, 55, 56, 57, 97, 98, 99, 100, 101, 102, 103, 104, 105, 106, 107, 108, 109, 110, 111, 112, 113, 114, 115, 116, 117, 118, 119, 120, 121, 122]⟩) (.int .u64 (d : Int))).run Tryd.prog w = .ok (.int .u8 (hexN d : Int)) w :=
  index_hex .u64 Tryd.underlying9 (by decide) (by decide) d h w

set_option maxRecDepth 100000 in
set_option maxHeartbeats 1000000 in
theorem iPow16 (w : World) : Calls Tryd.prog 175 #[.int .i64 16] w fun e w' => e = .returned (.bool true) ∧ w' = w := by
  have hb : bits BinOp.and IntKind.i64 16 15 = 0 := by decide
  go_enter Tryd.func175, Tryd.ntmps175
  go_wp2
  go_ret
  exact ⟨rfl, rfl⟩

theorem hx_cv {n t m : Nat} {w w2 : World} (k2 : Kept w [(w.heap.size, vls 65 (hxW n 65 (t + 1)), 222)] w2) (h : m + (t + 1) = 65) :
    (convert 39 9 (.slice (some ⟨w.heap.size, m, none⟩) (t + 1) (t + 1))).run Tryd.prog w2 = .ok (.string ⟨(hexL n (t + 1)).toArray⟩) w2 := by
  have h1 := run_convert_bytes_back (P := Tryd.prog) w2 39 9 5 ⟨w.heap.size, m, none⟩ (t + 1) (hexL n (t + 1)) Tryd.underlying39 Tryd.underlying5 Tryd.underlying9 (fun j hj => by
    rw [hexL_length] at hj
    rw [Addr.add_mid, ← hxW_read n 65 (k := t + 1) (i := j) (by omega) hj, show 65 - (t + 1) + j = m + j by omega]
    exact (k2.v in0).cell (by omega))
  rwa [hexL_length] at h1

set_option maxRecDepth 100000 in
set_option maxHeartbeats 1000000 in
theorem iFormatBits (n : Nat) (hn : n < 4294967296) (w : World) (ht : Tab64 w) :
    Calls Tryd.prog 154 #[.slice none 0 0, .int .u64 (n : Int), .int .i64 16, .bool false, .bool false] w fun e w' =>
      (∃ k, 1 ≤ k ∧ k ≤ 8 ∧ n < 16 ^ k ∧ e = .returned (.tuple #[.slice none 0 0, .string ⟨(hexL n k).toArray⟩])) ∧ Below w.heap.size w w' := by
  have hT := hid (ht.stay ((Below.refl w.heap.size w).alloc (Nat.le_refl _) (.cells (vls 65 (fun _ => .int .u8 0)) 222)))
  have HN := hid hn
  clear ht hn
  have k0 := hid ((Kept.nil w).push (vls 65 fun _ => .int .u8 0) 222)
  go_enter Tryd.func154, Tryd.ntmps154
  go_wp2_with fail
  rw [zero65]
  refine (iPow16 _).mono ?_
  rintro e w1 ⟨rfl, rfl⟩
  go_wp2_with fail
  refine (iZeros16 _ hT.out).mono ?_
  rintro e w1 ⟨rfl, rfl⟩
  clear hT
  go_wp2_with fail
  have k1 : Hid (Kept w [(w.heap.size, vls 65 (hxW n 65 0), 222)] (w.alloc (.cells (vls 65 (fun _ => .int .u8 0)) 222))) := hid (k0.out.ext (fun i hi => (hxW_zero n 65 hi).symm))
  clear k0
  go_loopw [1, 13] (fun v i wr => ∃ t u j : Nat, t ≤ 7 ∧ j + t = 65 ∧ v = .int .u64 (u : Int) ∧ i = .int .i64 (j : Int) ∧ Hid (u = n / 16 ^ t) ∧ Hid (Kept w [(w.heap.size, vls 65 (hxW n 65 t), 222)] wr)) (fun v _ _ => (intOf v).toNat)
  case atStart => exact ⟨0, n, 65, by omega, rfl, rfl, rfl, hid (by simp), k1⟩
  case round =>
    clear k1
    obtain ⟨t, u, j, ht, hj, rfl, rfl, hu, h1⟩ := hrel
    obtain ⟨m, rfl⟩ : ∃ m, j = m + 1 := ⟨j - 1, by omega⟩
    have hm3 : (m : Int) < 65 := by omega
    have hm4 : wrap64 (m : Int) = (m : Int) := by unfold wrap64; omega
    by_cases hge : 16 ≤ u
    · have hg3 : (16 : Int) ≤ (u : Int) := by omega
      have hu64 : u < 18446744073709551616 := by
        have h1 := hu.out
        have h2 := HN.out
        have h3 := Nat.div_le_self n (16 ^ t)
        omega
      obtain ⟨d, hd⟩ : ∃ d, d = u % 16 := ⟨_, rfl⟩
      have hb : bits BinOp.and IntKind.u64 (u : Int) 15 = (d : Int) := by rw [hd]; exact hx_bits u hu64
      have hix := ix36 d (by rw [hd]; exact Nat.mod_lt _ (by decide))
      have HD := hid hd
      have HT := hid ht
      have HJ := hid hj
      have HG := hid hge
      have tok1 : True := trivial
      clear hge ht hj hu64 hd
      go_wp2_with (have _t := tok1; refine store_one (by rfl) 5 _ _ (by rfl) info_u8 (w.heap.size) m (.int .u8 (hexN d : Int)) (by rfl) (by rfl) rfl rfl h1.out (by omega) (by omega) ne0 ?_; intro w2 k2; rw [HD.out] at k2; replace k2 := hid (k2.ext (hx_st hu.out (by have := HJ.out; omega))); clear h1 tok1)
      go_roundw
      case rel => exact ⟨t + 1, u / 16, m, by have := hx_more HN.out (by rw [← hu.out]; exact HG.out); omega, by have := HJ.out; omega, by go_num, by go_num, hid (by rw [hu.out, hx_next]), k2⟩
      case measure => have := HG.out; simp [intOf]; omega
    · have hg3 : ¬ (16 : Int) ≤ (u : Int) := by omega
      have hix := ix36 u (by omega)
      have HJ := hid hj
      have hx2 : Hid (u < 16) := hid (by omega)
      have hk1 : m + (t + 1) = 65 := by omega
      have HT := hid ht
      have hal : Tryd.prog.arrayLen 222 = 65 := by kernel_rfl
      have hsl : ∀ W, (Instr.sliceAt 222 (.pointer (some ⟨w.heap.size, 0, none⟩)) (some (.int .i64 (m : Int))) none none).run Tryd.prog W = .ok (.slice (some ⟨w.heap.size, m, none⟩) (t + 1) (t + 1)) W := fun W => by
        rw [run_sliceAt_array_l W 222 ⟨w.heap.size, 0, none⟩ Tryd.underlying222 .i64 (m : Int) (by omega) (by rw [hal]; omega)]
        go_simp
        omega
      have tok1 : True := trivial
      have HK1 := hid hk1
      clear hge hj hk1 ht
      go_wp2_with (have _t := tok1; refine store_one (by rfl) 5 _ _ (by rfl) info_u8 (w.heap.size) m (.int .u8 (hexN u : Int)) (by rfl) (by rfl) rfl rfl h1.out (by omega) (by omega) ne0 ?_; intro w2 k2; replace k2 := hid (k2.ext (hx_st' hu.out hx2.out (by have := HJ.out; omega))); have hcv := hx_cv k2.out HK1.out; clear h1 tok1)
      go_ret2
      exact ⟨⟨t + 1, by omega, by have := HT.out; omega, hx_last (by rw [← hu.out]; exact hx2.out), rfl⟩, k2.out.1⟩

theorem wrU {c : Nat} (h : c < 1000) : IntKind.u64.wrap (c : Int) = (c : Int) := by rw [IntKind.wrap_u64]; omega

theorem and32 {c : Nat} (h : c < 1000) : bits BinOp.and IntKind.u64 (c : Int) 4294967295 = (c : Int) := by
  rw [show (4294967295 : Int) = ((4294967295 : Nat) : Int) from rfl, bits_and_u64_nat c _ (by omega) (by decide), Nat.and_two_pow_sub_one_eq_mod c 32]
  congr 1
  omega

set_option maxRecDepth 100000 in
set_option maxHeartbeats 1000000 in
theorem iMul1 (c : Nat) (hc : c < 1000) (w : World) : Calls Tryd.prog 156 #[.int .u64 1, .int .u64 (c : Int)] w fun e w' => e = .returned (.tuple #[.int .u64 0, .int .u64 (c : Int)]) ∧ w' = w := by
  have h1 : bits BinOp.and IntKind.u64 1 4294967295 = 1 := and32 (c := 1) (by omega)
  have h2 := and32 hc
  have h3 : (c : Int) / 4294967296 = 0 := by omega
  have h4 := wrU hc
  have h5 : bits BinOp.and IntKind.u64 0 4294967295 = 0 := and32 (c := 0) (by omega)
  clear hc
  go_enter Tryd.func156, Tryd.ntmps156
  go_wp2
  go_ret2
  exact ⟨rfl, rfl⟩

set_option maxRecDepth 100000 in
set_option maxHeartbeats 1000000 in
theorem iMul2 (c : Nat) (hc : c < 1000) (w : World) : Calls Tryd.prog 117 #[.int .u64 1, .int .u64 (c : Int)] w fun e w' => e = .returned (.tuple #[.int .u64 0, .int .u64 (c : Int)]) ∧ w' = w := by
  have HC := hid hc
  clear hc
  go_enter Tryd.func117, Tryd.ntmps117
  go_wp2_with fail
  refine (iMul1 c HC.out _).mono ?_
  rintro e w1 ⟨rfl, rfl⟩
  go_wp2
  go_ret2
  exact ⟨rfl, rfl⟩

set_option maxRecDepth 100000 in
set_option maxHeartbeats 1000000 in
theorem iHasPre (s : ByteArray) (h : 1 ≤ s.size) (b : Bool) (hb : ((s.extract 0 1).toList == [48]) = b) (w : World) : Calls Tryd.prog 157 #[.string s, .string ⟨#[48]⟩] w fun e w' => e = .returned (.bool b) ∧ w' = w := by
  have h1 : (1 : Int) ≤ (s.size : Int) := by omega
  go_enter Tryd.func157, Tryd.ntmps157
  go_wp2
  go_ret
  exact ⟨rfl, rfl⟩

set_option maxRecDepth 100000 in
set_option maxHeartbeats 1000000 in
theorem iHasPre2 (s : ByteArray) (h : 1 ≤ s.size) (b : Bool) (hb : ((s.extract 0 1).toList == [48]) = b) (w : World) : Calls Tryd.prog 118 #[.string s, .string ⟨#[48]⟩] w fun e w' => e = .returned (.bool b) ∧ w' = w := by
  have H := hid h
  have HB := hid hb
  clear h hb
  go_enter Tryd.func118, Tryd.ntmps118
  go_wp2_with fail
  refine (iHasPre s H.out b HB.out _).mono ?_
  rintro e w1 ⟨rfl, rfl⟩
  go_wp2
  go_ret
  exact ⟨rfl, rfl⟩

set_option maxRecDepth 100000 in
set_option maxHeartbeats 1000000 in
theorem iRep0 (w : World) : Calls Tryd.prog 69 #[.string ⟨#[48]⟩, .int .i64 0] w fun e w' => e = .returned (.string ⟨#[]⟩) ∧ w' = w := by
  go_enter Tryd.func69, Tryd.ntmps69
  go_wp2
  go_ret
  exact ⟨rfl, rfl⟩

set_option maxRecDepth 100000 in
set_option maxHeartbeats 1000000 in
theorem iRep1 (w : World) : Calls Tryd.prog 69 #[.string ⟨#[48]⟩, .int .i64 1] w fun e w' => e = .returned (.string ⟨#[48]⟩) ∧ w' = w := by
  go_enter Tryd.func69, Tryd.ntmps69
  go_wp2
  go_ret
  exact ⟨rfl, rfl⟩

def zs64 : ByteArray := ⟨#[48, 48, 48, 48, 48, 48, 48, 48, 48, 48, 48, 48, 48, 48, 48, 48, 48, 48, 48, 48, 48, 48, 48, 48, 48, 48, 48, 48, 48, 48, 48, 48, 48, 48, 48, 48, 48, 48, 48, 48, 48, 48, 48, 48, 48, 48, 48, 48, 48, 48, 48, 48, 48, 48, 48, 48, 48, 48, 48, 48, 48, 48, 48, 48]⟩

theorem rep_cut (c : Nat) (h : c ≤ 7) : zs64.extract 0 c = ⟨(List.replicate c 48).toArray⟩ := by
  have : ∀ c, c < 8 → zs64.extract 0 c = ⟨(List.replicate c 48).toArray⟩ := by decide +kernel
  exact this c (by omega)

set_option maxRecDepth 100000 in
set_option maxHeartbeats 1000000 in
theorem iRepN (c : Nat) (h2 : 2 ≤ c) (h7 : c ≤ 7) (w : World) : Calls Tryd.prog 69 #[.string ⟨#[48]⟩, .int .i64 (c : Int)] w fun e w' => e = .returned (.string ⟨(List.replicate c 48).toArray⟩) ∧ w' = w := by
  have a0 : ¬ (c : Int) = 0 := by omega
  have a1 : ¬ (c : Int) = 1 := by omega
  have a2 : ¬ (c : Int) < 0 := by omega
  have a3 := wrU (c := c) (by omega)
  have a4 : ¬ (9223372036854775807 : Int) < (c : Int) := by omega
  have a5 : wrap64 (c : Int) = (c : Int) := by unfold wrap64; omega
  have a6 : (c : Int) ≤ 64 := by omega
  have hv : ((ByteArray.mk #[48])[0]'(by decide)).toNat = 48 := rfl
  have H2 := hid h2
  have H7 := hid h7
  clear h2 h7
  go_enter Tryd.func69, Tryd.ntmps69
  go_wp2_with fail
  refine (iMul2 c (by have := H7.out; omega) _).mono ?_
  rintro e w1 ⟨rfl, rfl⟩
  go_wp2_with fail
  refine (iHasPre2 _ (by decide +kernel) false (by decide +kernel) _).mono ?_
  rintro e w1 ⟨rfl, rfl⟩
  go_wp2_with fail
  refine (iHasPre2 _ (by decide +kernel) false (by decide +kernel) _).mono ?_
  rintro e w1 ⟨rfl, rfl⟩
  go_wp2_with fail
  refine (iHasPre2 _ (by decide +kernel) true (by decide +kernel) _).mono ?_
  rintro e w1 ⟨rfl, rfl⟩
  go_wp2_with fail
  go_ret
  exact ⟨congrArg (fun s => Ending.returned (Value.string s)) (rep_cut c H7.out), rfl⟩

theorem iRep (c : Nat) (h : c ≤ 7) (w : World) : Calls Tryd.prog 69 #[.string ⟨#[48]⟩, .int .i64 (c : Int)] w fun e w' => e = .returned (.string ⟨(List.replicate c 48).toArray⟩) ∧ w' = w := by
  rcases Nat.lt_or_ge c 2 with h1 | h1
  · rcases Nat.lt_or_ge c 1 with h2 | h2
    · obtain rfl : c = 0 := by omega
      exact iRep0 w
    · obtain rfl : c = 1 := by omega
      exact iRep1 w
  · exact iRepN c h1 h w

set_option maxRecDepth 100000 in
set_option maxHeartbeats 1000000 in
theorem iFormatUint (n : Nat) (hn : n < 4294967296) (w : World) (ht : Tab64 w) :
    Calls Tryd.prog 115 #[.int .u64 (n : Int), .int .i64 16] w fun e w' =>
      (∃ k, 1 ≤ k ∧ k ≤ 8 ∧ n < 16 ^ k ∧ e = .returned (.string ⟨(hexL n k).toArray⟩)) ∧ Below w.heap.size w w' := by
  have hT := hid ht
  have HN := hid hn
  clear ht hn
  go_enter Tryd.func115, Tryd.ntmps115
  go_wp2_with fail
  refine (iFormatBits n HN.out _ hT.out).mono ?_
  rintro e w1 ⟨⟨k, h1, h2, h3, rfl⟩, hb⟩
  have HB := hid hb
  have H3 := hid h3
  clear hb h3
  go_wp2
  go_ret
  exact ⟨⟨k, h1, h2, H3.out, rfl⟩, HB.out⟩

set_option maxRecDepth 100000 in
set_option maxHeartbeats 1000000 in
theorem iFormatUint2 (n : Nat) (hn : n < 4294967296) (w : World) (ht : Tab64 w) :
    Calls Tryd.prog 67 #[.int .u64 (n : Int), .int .i64 16] w fun e w' =>
      (∃ k, 1 ≤ k ∧ k ≤ 8 ∧ n < 16 ^ k ∧ e = .returned (.string ⟨(hexL n k).toArray⟩)) ∧ Below w.heap.size w w' := by
  have hT := hid ht
  have HN := hid hn
  clear ht hn
  go_enter Tryd.func67, Tryd.ntmps67
  go_wp2_with fail
  refine (iFormatUint n HN.out _ hT.out).mono ?_
  rintro e w1 ⟨⟨k, h1, h2, h3, rfl⟩, hb⟩
  have HB := hid hb
  have H3 := hid h3
  clear hb h3
  go_wp2
  go_ret
  exact ⟨⟨k, h1, h2, H3.out, rfl⟩, HB.out⟩

set_option maxRecDepth 100000 in
theorem iClassFor_ok (x : Nat) (ha : amtB x = true) (h1 : ONE ≤ x) (w : World) :
    Calls Tryd.prog 26 #[.float .f32 x] w fun e w' => e = .returned (.tuple #[.int .i64 (forF x : Int), .int .i64 0]) ∧ w = w' := by
  have Hx := hid (amt_lt ha)
  have Hf := hid (amt_fin ha)
  have ho := lt_f ha (y := 1065353216) (by decide) h1
  have Ha := hid ha
  have H1 := hid h1
  clear ha h1
  go_enter Tryd.func26, Tryd.ntmps26
  go_wp2_with fail
  go_step3
  go_wp2_with fail
  refine (isFinite_t x Hx.out Hf.out _).mono ?_
  rintro e w1 ⟨rfl, rfl⟩
  go_wp2_with fail
  go_step3
  go_wp2_with fail
  go_loop [4] (fun i => ∃ k : Nat, k ≤ 19 ∧ i = .int .i64 k ∧ Hid (k = 19 ∨ x < mass (k + 1))) (fun i => (intOf i).toNat)
  case atStart => exact ⟨19, by omega, rfl, hid (.inl rfl)⟩
  case round =>
    obtain ⟨k, hk, rfl, hm⟩ := hrel
    by_cases hlt : 0 < k
    · by_cases hle : mass k ≤ x
      · have hg := gt_f (mass_amt (k := k) (by omega)) Ha.out hle
        have hf := hid (forF_eq (by omega) hle hm.out)
        clear hle
        go_wp2_with (go_at_call 58; refine (iMass k (by omega) _).mono ?_; rintro e w' ⟨rfl, rfl⟩)
        rw [Exit.noGoto_ret]
        go_ret2
        exact ⟨by simp [hf.out], rfl⟩
      · have hgt : x < mass k := by omega
        have hg := gt_t (mass_amt (k := k) (by omega)) Ha.out hgt
        have HG := hid hgt
        clear hle hgt
        go_wp2_with (go_at_call 58; refine (iMass k (by omega) _).mono ?_; rintro e w' ⟨rfl, rfl⟩)
        go_round
        case rel => exact ⟨k - 1, by omega, by congr 1; omega, hid (.inr (by rw [show k - 1 + 1 = k by omega]; exact HG.out))⟩
        case measure => simp [intOf]; omega
    · obtain rfl : k = 0 := by omega
      have hf := hid (forF_eq (by omega) H1.out hm.out)
      go_wp2
      go_ret2
      exact ⟨by simp [hf.out], rfl⟩

theorem sSame (a b : Nat) (ha : a < 4294967296) (hb : b < 4294967296) (w : World) :
    Calls Tryd.prog 70 #[.float .f32 a, .float .f32 b] w fun e w' => e = .returned (.bool (sameB a b)) ∧ w = w' := by
  have n1 := neq_self a ha
  have n2 := neq_self b hb
  have hq : ((a : Int) == (b : Int)) = decide (a = b) := by
    by_cases e : a = b
    · subst e; simp
    · simp [e]; omega
  have hs : sameB a b = if (nanB a || nanB b) = true then nanB a && nanB b else decide (a = b) := rfl
  have Hs := hid hs
  have Hq := hid hq
  clear ha hb hs hq
  rcases h1 : nanB a with _ | _ <;> rcases h2 : nanB b with _ | _ <;> rw [h1] at n1 <;> rw [h2] at n2 <;> rw [Hs.out, h1, h2] <;> clear Hs h1 h2
  · go_enter Tryd.func70, Tryd.ntmps70
    go_wp2
    go_ret
    exact ⟨by simp [← Hq.out], rfl⟩
  · go_enter Tryd.func70, Tryd.ntmps70
    go_wp2
    go_ret
    exact ⟨by simp, rfl⟩
  · go_enter Tryd.func70, Tryd.ntmps70
    go_wp2
    go_ret
    exact ⟨by simp, rfl⟩
  · go_enter Tryd.func70, Tryd.ntmps70
    go_wp2
    go_ret
    exact ⟨by simp, rfl⟩

theorem iBits (x : Nat) (hx : x < 4294967296) (w : World) :
    Calls Tryd.prog 68 #[.float .f32 x] w fun e w' => e = .returned (.int .u32 (nb x : Int)) ∧ Below w.heap.size w w' := by
  have hnb : nb x = if nanB x = true then 2143289344 else x := rfl
  rcases hn : nanB x with _ | _
  · have hle : mg x ≤ INF := by simpa [nanB] using hn
    rw [hn] at hnb
    have Hnb := hid hnb
    rcases Nat.lt_or_eq_of_le hle with h | h
    · have hc := fun w => run_conv_wid (P := Tryd.prog) w 22 86 x hx Tryd.underlying22 Tryd.underlying86 h
      obtain ⟨_, _, m, e, hr⟩ := read_wid_fin hx h
      have Hn := hid (show (FloatKind.f64.format.order (wid x) (wid x) != some .eq) = false by
        show (D.order (wid x) (wid x) != some .eq) = false
        rw [order_self hr]; rfl)
      clear hnb hn hle h hr hx
      go_enter Tryd.func68, Tryd.ntmps68
      go_wp2_with (go_at_call 107; refine (isNaN_f64 (wid x) _).mono ?_; rintro e w' ⟨rfl, rfl⟩; rw [Hn.out])
      go_ret
      exact ⟨by rw [Hnb.out]; simp, Below.refl _ _⟩
    · obtain ⟨z, hc, h1, h2⟩ := run_conv_inf (P := Tryd.prog) w 22 86 x hx Tryd.underlying22 Tryd.underlying86 h
      have hr : D.read z = .infinity (decide (9223372036854775808 ≤ z)) := by rw [read_signD h2, h1, read_DINF]
      have Hn := hid (show (FloatKind.f64.format.order z z != some .eq) = false by
        show (D.order z z != some .eq) = false
        rw [order_inf hr]; rfl)
      clear hnb hn hle h hr hx h1 h2
      go_enter Tryd.func68, Tryd.ntmps68
      go_wp2_with (go_at_call 107; refine (isNaN_f64 z _).mono ?_; rintro e w' ⟨rfl, rfl⟩; rw [Hn.out])
      go_ret
      exact ⟨by rw [Hnb.out]; simp, Below.refl _ _⟩
  · have h : INF < mg x := by simpa [nanB] using hn
    rw [hn] at hnb
    have Hnb := hid hnb
    obtain ⟨z, hc, h1, _⟩ := run_conv_nan (P := Tryd.prog) w 22 86 x Tryd.underlying22 Tryd.underlying86 h
    obtain ⟨s, t, hr⟩ := read_nanD h1
    have Hn := hid (show (FloatKind.f64.format.order z z != some .eq) = true by
      show (D.order z z != some .eq) = true
      rw [order_nan hr]; rfl)
    clear hnb hn h hr hx h1
    go_enter Tryd.func68, Tryd.ntmps68
    go_wp2_with (go_at_call 107; refine (isNaN_f64 z _).mono ?_; rintro e w' ⟨rfl, rfl⟩; rw [Hn.out])
    go_ret
    exact ⟨by rw [Hnb.out]; simp, (Below.refl _ _).drew⟩

theorem nb_lt {x : Nat} (h : x < 4294967296) : nb x < 4294967296 := by
  unfold nb; split
  · decide
  · exact h

theorem hex8 {n k : Nat} (h2 : k ≤ 8) (h3 : n < 16 ^ k) : List.replicate (8 - k) 48 ++ hexL n k = hexL n 8 := by
  have := hexL_zeros k n (8 - k) h3
  rw [show k + (8 - k) = 8 by omega] at this
  exact this.symm

/-- The text of a number. -/
def txN (x : Nat) : ByteArray := ⟨(hexL (nb x) 8).toArray⟩

theorem cat_hex {n k : Nat} (h2 : k ≤ 8) (h3 : n < 16 ^ k) : (⟨(List.replicate (8 - k) 48).toArray⟩ ++ ⟨(hexL n k).toArray⟩ : ByteArray) = ⟨(hexL n 8).toArray⟩ := by
  rw [← hex8 h2 h3]
  apply ByteArray.ext
  simp

set_option maxRecDepth 100000 in
set_option maxHeartbeats 1000000 in
theorem iNumberText (x : Nat) (hx : x < 4294967296) (w : World) (ht : Tab64 w) :
    Calls Tryd.prog 31 #[.float .f32 x] w fun e w' => e = .returned (.string (txN x)) ∧ Below w.heap.size w w' := by
  have HT := hid ht
  have HX := hid hx
  have hc : IntKind.u64.wrap (nb x : Int) = (nb x : Int) := by have := nb_lt hx; rw [IntKind.wrap_u64]; omega
  clear ht hx
  go_enter Tryd.func31, Tryd.ntmps31
  go_wp2_with fail
  refine (iBits x HX.out _).mono ?_
  rintro e w1 ⟨rfl, hb1⟩
  have T1 := hid (HT.out.stay hb1)
  have B1 := hid hb1
  clear hb1 HT
  go_wp2_with fail
  refine (iFormatUint2 (nb x) (nb_lt HX.out) _ T1.out).mono ?_
  rintro e w2 ⟨⟨k, h1, h2, h3, rfl⟩, hb2⟩
  have B2 := hid (((Kept.nil w).stay B1.out).stay hb2)
  have hl : (⟨(hexL (nb x) k).toArray⟩ : ByteArray).size = k := by show (hexL (nb x) k).toArray.size = k; simp [hexL_length]
  have hs : wrap64 (8 - (k : Int)) = ((8 - k : Nat) : Int) := by rw [show (8 : Int) - (k : Int) = ((8 - k : Nat) : Int) by omega]; unfold wrap64; omega
  have hs' : (8 : Int) - (k : Int) = ((8 - k : Nat) : Int) := by omega
  obtain ⟨m, hm⟩ : ∃ m, m = 8 - k := ⟨_, rfl⟩
  rw [← hm] at hs hs'
  have H2 := hid h2
  have H3 := hid h3
  have HM := hid hm
  have hm7 : Hid (m ≤ 7) := hid (by omega)
  have hwm : wrap64 (m : Int) = (m : Int) := by unfold wrap64; omega
  clear hb2 B1 h1 h2 h3 hm T1
  go_wp2_with fail
  refine (iRep m hm7.out _).mono ?_
  rintro e w3 ⟨rfl, rfl⟩
  go_wp2
  go_ret
  refine ⟨congrArg (fun s => Ending.returned (Value.string s)) ?_, B2.out.1⟩
  rw [HM.out]
  exact cat_hex H2.out H3.out

theorem words_cons : ∀ (v : List Char) (r : List Char), (∀ c ∈ v, c ≠ Char.ofNat 32) → wordsSigns (v ++ Char.ofNat 32 :: r) = v :: wordsSigns r
  | [], r, _ => rfl
  | c :: v, r, h => by
    have ih := words_cons v r (fun x hx => h x (by simp [hx]))
    have hc : c ≠ Char.ofNat 32 := h c (by simp)
    show wordsSigns (c :: (v ++ Char.ofNat 32 :: r)) = _
    rw [wordsSigns.eq_3 _ _ (fun e => hc e), ih]

def w0 : List Nat := [104, 97, 114, 110, 101, 115, 115]

def w1 : List Nat := [54, 49, 56, 57, 55, 97, 48, 97, 53, 101, 97, 57, 57, 53, 50, 49, 52, 99, 53, 101, 49, 102, 97, 50, 102, 99, 57, 101, 99, 101, 54, 97, 50, 98, 50, 49, 57, 51, 101, 56, 49, 55, 102, 97, 55, 55, 98, 99, 48, 97, 50, 55, 97, 56, 100, 54, 49, 50, 101, 102, 55, 52, 53, 101]

def w2 : List Nat := [99, 117, 116]

def w3 : List Nat := [97, 116, 32, 108, 111, 111, 112, 46, 101, 120, 97, 109, 112, 108, 101, 47, 103, 48, 49, 50, 50, 52, 47, 108, 97, 119, 115, 46, 70, 110, 69, 120, 97, 99, 116, 82, 101, 97, 100, 83, 105, 122, 101, 115, 32, 108, 111, 111, 112, 46, 101, 120, 97, 109, 112, 108, 101, 47, 103, 48, 49, 50, 50, 52, 47, 108, 97, 119, 115, 46, 70, 110, 69, 120, 97, 99, 116, 82, 101, 97, 100, 65, 105, 114, 32, 108, 111, 111, 112, 46, 101, 120, 97, 109, 112, 108, 101, 47, 103, 48, 49, 50, 50, 52, 47, 108, 97, 119, 115, 46, 70, 110, 69, 120, 97, 99, 116, 82, 101, 97, 100, 75, 101, 114, 110, 101, 108, 32, 108, 111, 111, 112, 46, 101, 120, 97, 109, 112, 108, 101, 47, 103, 48, 49, 50, 50, 52, 47, 108, 97, 119, 115, 46, 70, 110, 67, 108, 97, 115, 115, 101, 115, 32, 108, 111, 111, 112, 46, 101, 120, 97, 109, 112, 108, 101, 47, 103, 48, 49, 50, 50, 52, 47, 108, 97, 119, 115, 46, 70, 110, 69, 120, 97, 99, 116, 67, 111, 108, 117, 109, 110, 84, 101, 120, 116, 32, 108, 111, 111, 112, 46, 101, 120, 97, 109, 112, 108, 101, 47, 103, 48, 49, 50, 50, 52, 47, 108, 97, 119, 115, 46, 70, 110, 69, 120, 97, 99, 116, 68, 101, 101, 100, 84, 101, 120, 116, 32, 108, 111, 111, 112, 46, 101, 120, 97, 109, 112, 108, 101, 47, 103, 48, 49, 50, 50, 52, 47, 108, 97, 119, 115, 46, 70, 110, 69, 120, 97, 99, 116, 82, 101, 97, 100, 68, 101, 101, 100, 32, 108, 111, 111, 112, 46, 101, 120, 97, 109, 112, 108, 101, 47, 103, 48, 49, 50, 50, 52, 47, 108, 97, 119, 115, 46, 70, 110, 69, 120, 97, 99, 116, 65, 99, 116, 84, 101, 120, 116]

def letters (l : List Nat) : List Char := l.map Char.ofNat

theorem head_reads : Tryd.prog.initOrder = String.ofList (letters w0 ++ Char.ofNat 32 :: (letters w1 ++ Char.ofNat 32 :: (letters w2 ++ Char.ofNat 32 :: letters w3))) := by kernel_rfl

theorem no_blank {l : List Nat} (h : l.all (fun n => Char.ofNat n != Char.ofNat 32) = true) : ∀ c ∈ letters l, c ≠ Char.ofNat 32 := by
  intro c hc
  obtain ⟨n, hn, rfl⟩ := List.mem_map.1 hc
  have := List.all_eq_true.1 h n hn
  simpa using this

theorem h0 : letters w0 = "harness".toList := by kernel_rfl

theorem h2 : letters w2 = "cut".toList := by kernel_rfl

theorem sums : isSumSigns (letters w1) = true := by kernel_rfl

theorem words : wordsSigns Tryd.prog.initOrder.toList = "harness".toList :: letters w1 :: "cut".toList :: wordsSigns (letters w3) := by
  rw [head_reads, String.toList_ofList, words_cons _ _ (no_blank (by decide +kernel)), words_cons _ _ (no_blank (by decide +kernel)), words_cons _ _ (no_blank (by decide +kernel)), h0, h2]

theorem behind : ∃ r, behindMainWord (wordsSigns Tryd.prog.initOrder.toList) = "cut".toList :: r := by
  refine ⟨wordsSigns (letters w3), ?_⟩
  rw [words]
  generalize wordsSigns (letters w3) = r
  have hs := sums
  generalize letters w1 = v at hs
  unfold behindMainWord
  simp [hs]

theorem not_later : Tryd.prog.laysLater = false := by kernel_rfl

theorem no_reflect : Tryd.prog.bearsReflect = false := by kernel_rfl

theorem no_doors : Tryd.prog.doorFits [] = true := by kernel_rfl

theorem strips (r : List (List Char)) : stripLifts liftWords ("cut".toList :: r) = ([], "cut".toList :: r) := by kernel_rfl

theorem may_enter_of (P : Program) (r : List (List Char)) (h : behindMainWord (wordsSigns P.initOrder.toList) = "cut".toList :: r) (h1 : P.laysLater = false) (h2 : P.bearsReflect = false) (h3 : P.doorFits [] = true) : P.mayEnter = true := by
  unfold Program.mayEnter
  rw [h]
  dsimp only
  rw [strips, h1, h2, h3]
  kernel_rfl

theorem lifts_final_of (P : Program) (r : List (List Char)) (h : behindMainWord (wordsSigns P.initOrder.toList) = "cut".toList :: r) : P.liftsFinal = false := by
  unfold Program.liftsFinal Program.headLifts
  rw [h]
  dsimp only
  rw [strips]
  kernel_rfl

theorem made_of (P : Program) (r : List (List Char)) (h : behindMainWord (wordsSigns P.initOrder.toList) = "cut".toList :: r) : P.make = some .cut := by
  unfold Program.make
  rw [h]
  kernel_rfl

theorem may_enter : Tryd.prog.mayEnter = true := let ⟨r, h⟩ := behind; may_enter_of _ r h not_later no_reflect no_doors

theorem lifts_final : Tryd.prog.liftsFinal = false := let ⟨r, h⟩ := behind; lifts_final_of _ r h

theorem made : Tryd.prog.make = some .cut := let ⟨r, h⟩ := behind; made_of _ r h

theorem laid : laidOutB Tryd.prog = true := by kernel_rfl

theorem rowed : mapsRowed Tryd.prog = true := by kernel_rfl

theorem no_stops : Tryd.prog.stops = [] := by kernel_rfl

theorem no_knobs : Tryd.prog.stopKnobs = [] := by kernel_rfl

theorem plain_keys : Tryd.prog.plainKeys = true := by kernel_rfl

theorem stops_heard : Tryd.prog.stopsHeard = true := by kernel_rfl

theorem arr1 {α : Type} {cs : Array α} (h : cs.size = 1) : ∃ c0, cs = #[c0] := by
  obtain ⟨l⟩ := cs
  match l, h with
  | [a], _ => exact ⟨a, rfl⟩

theorem own : ownKnob Tryd.prog.godebug = none := by kernel_rfl

def tz64 : List Int := [0, 1, 56, 2, 57, 49, 28, 3, 61, 58, 42, 50, 38, 29, 17, 4, 62, 47, 59, 36, 45, 43, 51, 22, 53, 39, 33, 30, 24, 18, 12, 5, 63, 55, 48, 27, 60, 41, 37, 16, 46, 35, 44, 21, 52, 32, 23, 11, 54, 26, 40, 15, 34, 20, 31, 10, 25, 14, 19, 9, 13, 8, 7, 6]

def fltOf : Value → Nat
  | .float _ b => b
  | _ => 0

theorem nearer (b r : Nat) (h : okR b r) (w : World) :
    Calls Tryd.prog 62 #[.float .f64 r, .float .f64 b] w fun e w' => e = .returned (.float .f64 (rNext b r)) ∧ w = w' := by
  obtain ⟨h1, h2, h3, h4, h5, h6, h7⟩ := h
  have q1 := fun w => run_float_arith (P := Tryd.prog) w .mul 86 .f64 _ _ _ h1
  have q2 := fun w => run_float_arith (P := Tryd.prog) w .mul 86 .f64 _ _ _ h2
  have q3 := fun w => run_float_arith (P := Tryd.prog) w .sub 86 .f64 _ _ _ h3
  have q4 := fun w => run_float_arith (P := Tryd.prog) w .mul 86 .f64 _ _ _ h4
  have q5 := fun w => run_float_arith (P := Tryd.prog) w .mul 86 .f64 _ _ _ h5
  have q6 := fun w => run_float_arith (P := Tryd.prog) w .quo 86 .f64 _ _ _ h6
  have q7 := fun w => run_float_arith (P := Tryd.prog) w .sub 86 .f64 _ _ _ h7
  clear h1 h2 h3 h4 h5 h6 h7
  go_enter Tryd.func62, Tryd.ntmps62
  go_wp2
  go_ret
  exact ⟨rfl, rfl⟩

set_option maxRecDepth 100000 in
theorem iThird (a n m z root : Nat) (ha : amtB a = true) (h0 : a ≠ 0) (T : RootTr a n m z root) (w : World) :
    Calls Tryd.prog 28 #[.float .f32 a] w fun e w' => e = .returned (.tuple #[.float .f32 root, .int .i64 0]) ∧ w = w' := by
  have hc := fun w => run_conv_wid (P := Tryd.prog) w 22 86 a (amt_lt ha) Tryd.underlying22 Tryd.underlying86 (finB_iff.1 (amt_fin ha))
  have he : (FloatKind.f32.format.order a 0 == some .eq) = false := by
    show (S.order a 0 == some .eq) = false
    rw [order_zero_pos (amtB_iff.1 ha), Nat.compare_eq_gt.2 (by omega)]; rfl
  have hz := fun w => run_float_arith (P := Tryd.prog) w .mul 86 .f64 _ _ _ T.hz
  have ho := fun w => run_convert_float_float (P := Tryd.prog) w 86 22 .f64 .f32 z root (by rw [Tryd.underlying86]; rfl) Tryd.underlying22 T.out
  have HA := hid ha
  have HT := hid T
  clear ha h0 T
  go_enter Tryd.func28, Tryd.ntmps28
  go_wp2_with (go_at_call 48; refine (isAmount_t a HA.out _).mono ?_; rintro e w' ⟨rfl, rfl⟩)
  go_loop [4, 5] (fun b x => ∃ j : Nat, j ≤ n ∧ b = .float .f64 (bS (wid a) j) ∧ x = .float .f64 (xS 4607182418800017408 j)) (fun b _ => fltOf b)
  case atStart => exact ⟨0, Nat.zero_le _, rfl, rfl⟩
  case round =>
    obtain ⟨j, hj, rfl, rfl⟩ := hrel
    by_cases hlt : j < n
    · obtain ⟨g1, g2, g3, g4⟩ := HT.out.l1 j hlt
      have q0 : (FloatKind.f64.format.order (bS (wid a) j) 4620693217682128896 == some .gt || FloatKind.f64.format.order (bS (wid a) j) 4620693217682128896 == some .eq) = true := g1
      have q1 := fun w => run_float_arith (P := Tryd.prog) w .quo 86 .f64 _ _ _ g2
      have q2 := fun w => run_float_arith (P := Tryd.prog) w .mul 86 .f64 _ _ _ g3
      have G4 := hid g4
      clear g1 g2 g3 g4
      go_wp2
      go_round
      case rel => exact ⟨j + 1, by omega, rfl, rfl⟩
      case measure => exact G4.out
    · obtain rfl : j = n := by omega
      have q0 : (FloatKind.f64.format.order (bS (wid a) j) 4620693217682128896 == some .gt || FloatKind.f64.format.order (bS (wid a) j) 4620693217682128896 == some .eq) = false := HT.out.e1
      go_wp2
      clear q0
      go_loop [4, 5] (fun b x => ∃ i : Nat, i ≤ m ∧ b = .float .f64 (cS (bS (wid a) j) i) ∧ x = .float .f64 (yS (xS 4607182418800017408 j) i)) (fun b _ => 9218868437227405312 - fltOf b)
      case atStart => exact ⟨0, Nat.zero_le _, rfl, rfl⟩
      case round =>
        obtain ⟨i, hi, rfl, rfl⟩ := hrel
        by_cases hlt : i < m
        · obtain ⟨g1, g2, g3, g4, g5⟩ := HT.out.l2 i hlt
          have q0 : (FloatKind.f64.format.order (cS (bS (wid a) j) i) 4607182418800017408 == some .lt) = true := g1
          have q1 := fun w => run_float_arith (P := Tryd.prog) w .mul 86 .f64 _ _ _ g2
          have q2 := fun w => run_float_arith (P := Tryd.prog) w .quo 86 .f64 _ _ _ g3
          have G4 := hid g4
          have G5 := hid g5
          clear g1 g2 g3 g4 g5
          go_wp2
          go_round
          case rel => exact ⟨i + 1, by omega, rfl, rfl⟩
          case measure => have := G4.out; have := G5.out; simp only [fltOf]; omega
        · obtain rfl : i = m := by omega
          have q0 : (FloatKind.f64.format.order (cS (bS (wid a) j) i) 4607182418800017408 == some .lt) = false := HT.out.e2
          go_wp2
          clear q0
          go_loop [6, 26] (fun r k => ∃ q : Nat, q ≤ 6 ∧ k = .int .i64 q ∧ r = .float .f64 (rS (cS (bS (wid a) j) i) q)) (fun _ k => 6 - (intOf k).toNat)
          case atStart => exact ⟨0, by omega, rfl, rfl⟩
          case round =>
            obtain ⟨q, hq, rfl, rfl⟩ := hrel
            by_cases hlt : q < 6
            · have HN := hid (HT.out.l3 q hlt)
              go_wp2_with fail
              refine (nearer (cS (bS (wid a) j) i) (rS (cS (bS (wid a) j) i) q) HN.out _).mono ?_
              rintro e w' ⟨rfl, rfl⟩
              go_wp2
              go_round
              case rel => exact ⟨q + 1, by omega, by go_num, rfl⟩
              case measure => simp [intOf]; omega
            · obtain rfl : q = 6 := by omega
              go_wp2
              go_ret2
              exact ⟨rfl, rfl⟩

set_option maxRecDepth 100000 in
theorem sThird (a n m z root : Nat) (ha : amtB a = true) (h0 : a ≠ 0) (T : RootTr a n m z root) (w : World) :
    Calls Tryd.prog 105 #[.float .f32 a] w fun e w' => e = .returned (.float .f32 root) ∧ w = w' := by
  have hc := fun w => run_conv_wid (P := Tryd.prog) w 22 86 a (amt_lt ha) Tryd.underlying22 Tryd.underlying86 (finB_iff.1 (amt_fin ha))
  have he : (FloatKind.f32.format.order a 0 == some .eq) = false := by
    show (S.order a 0 == some .eq) = false
    rw [order_zero_pos (amtB_iff.1 ha), Nat.compare_eq_gt.2 (by omega)]; rfl
  have hz := fun w => run_float_arith (P := Tryd.prog) w .mul 86 .f64 _ _ _ T.hz
  have ho := fun w => run_convert_float_float (P := Tryd.prog) w 86 22 .f64 .f32 z root (by rw [Tryd.underlying86]; rfl) Tryd.underlying22 T.out
  have HT := hid T
  clear ha h0 T
  go_enter Tryd.func105, Tryd.ntmps105
  go_wp2
  go_loop [3, 4] (fun b x => ∃ j : Nat, j ≤ n ∧ b = .float .f64 (bS (wid a) j) ∧ x = .float .f64 (xS 4607182418800017408 j)) (fun b _ => fltOf b)
  case atStart => exact ⟨0, Nat.zero_le _, rfl, rfl⟩
  case round =>
    obtain ⟨j, hj, rfl, rfl⟩ := hrel
    by_cases hlt : j < n
    · obtain ⟨g1, g2, g3, g4⟩ := HT.out.l1 j hlt
      have q0 : (FloatKind.f64.format.order (bS (wid a) j) 4620693217682128896 == some .gt || FloatKind.f64.format.order (bS (wid a) j) 4620693217682128896 == some .eq) = true := g1
      have q1 := fun w => run_float_arith (P := Tryd.prog) w .quo 86 .f64 _ _ _ g2
      have q2 := fun w => run_float_arith (P := Tryd.prog) w .mul 86 .f64 _ _ _ g3
      have G4 := hid g4
      clear g1 g2 g3 g4
      go_wp2
      go_round
      case rel => exact ⟨j + 1, by omega, rfl, rfl⟩
      case measure => exact G4.out
    · obtain rfl : j = n := by omega
      have q0 : (FloatKind.f64.format.order (bS (wid a) j) 4620693217682128896 == some .gt || FloatKind.f64.format.order (bS (wid a) j) 4620693217682128896 == some .eq) = false := HT.out.e1
      go_wp2
      clear q0
      go_loop [3, 4] (fun b x => ∃ i : Nat, i ≤ m ∧ b = .float .f64 (cS (bS (wid a) j) i) ∧ x = .float .f64 (yS (xS 4607182418800017408 j) i)) (fun b _ => 9218868437227405312 - fltOf b)
      case atStart => exact ⟨0, Nat.zero_le _, rfl, rfl⟩
      case round =>
        obtain ⟨i, hi, rfl, rfl⟩ := hrel
        by_cases hlt : i < m
        · obtain ⟨g1, g2, g3, g4, g5⟩ := HT.out.l2 i hlt
          have q0 : (FloatKind.f64.format.order (cS (bS (wid a) j) i) 4607182418800017408 == some .lt) = true := g1
          have q1 := fun w => run_float_arith (P := Tryd.prog) w .mul 86 .f64 _ _ _ g2
          have q2 := fun w => run_float_arith (P := Tryd.prog) w .quo 86 .f64 _ _ _ g3
          have G4 := hid g4
          have G5 := hid g5
          clear g1 g2 g3 g4 g5
          go_wp2
          go_round
          case rel => exact ⟨i + 1, by omega, rfl, rfl⟩
          case measure => have := G4.out; have := G5.out; simp only [fltOf]; omega
        · obtain rfl : i = m := by omega
          have q0 : (FloatKind.f64.format.order (cS (bS (wid a) j) i) 4607182418800017408 == some .lt) = false := HT.out.e2
          go_wp2
          clear q0
          go_loop [5, 6] (fun r k => ∃ q : Nat, q ≤ 6 ∧ k = .int .i64 q ∧ r = .float .f64 (rS (cS (bS (wid a) j) i) q)) (fun _ k => 6 - (intOf k).toNat)
          case atStart => exact ⟨0, by omega, rfl, rfl⟩
          case round =>
            obtain ⟨q, hq, rfl, rfl⟩ := hrel
            by_cases hlt : q < 6
            · obtain ⟨h1, h2, h3, h4, h5, h6, h7⟩ := HT.out.l3 q hlt
              have q1 := fun w => run_float_arith (P := Tryd.prog) w .mul 86 .f64 _ _ _ h1
              have q2 := fun w => run_float_arith (P := Tryd.prog) w .mul 86 .f64 _ _ _ h2
              have q3 := fun w => run_float_arith (P := Tryd.prog) w .sub 86 .f64 _ _ _ h3
              have q4 := fun w => run_float_arith (P := Tryd.prog) w .mul 86 .f64 _ _ _ h4
              have q5 := fun w => run_float_arith (P := Tryd.prog) w .mul 86 .f64 _ _ _ h5
              have q6 := fun w => run_float_arith (P := Tryd.prog) w .quo 86 .f64 _ _ _ h6
              have q7 := fun w => run_float_arith (P := Tryd.prog) w .sub 86 .f64 _ _ _ h7
              clear h1 h2 h3 h4 h5 h6 h7
              go_wp2
              go_round
              case rel => exact ⟨q + 1, by omega, by go_num, rfl⟩
              case measure => simp [intOf]; omega
            · obtain rfl : q = 6 := by omega
              go_wp2
              go_ret
              exact ⟨rfl, rfl⟩

theorem mass_ne33 {k : Nat} : mass k ≠ 0 := by unfold mass; omega

theorem iThirdMass (k : Nat) (hk : k < 20) (w : World) :
    Calls Tryd.prog 28 #[.float .f32 (mass k)] w fun e w' => e = .returned (.tuple #[.float .f32 (rad k), .int .i64 0]) ∧ w = w' :=
  iThird (mass k) (k / 3) 0 (rz k) (rad k) (mass_amt hk) mass_ne33 (tr_one hk).1 w

theorem sThirdMass (k : Nat) (hk : k < 20) (w : World) :
    Calls Tryd.prog 105 #[.float .f32 (mass k)] w fun e w' => e = .returned (.float .f32 (rad k)) ∧ w = w' :=
  sThird (mass k) (k / 3) 0 (rz k) (rad k) (mass_amt hk) mass_ne33 (tr_one hk).1 w

theorem iRadius (k : Nat) (hk : k < 20) (w : World) :
    Calls Tryd.prog 24 #[.int .i64 (k : Int)] w fun e w' => e = .returned (.tuple #[.float .f32 (rad k), .int .i64 0]) ∧ w = w' := by
  have HK := hid hk
  clear hk
  go_enter Tryd.func24, Tryd.ntmps24
  go_wp2_with (first | (go_at_call 57; refine (isClass_t k HK.out _).mono ?_; rintro e w' ⟨rfl, rfl⟩) | (go_at_call 58; refine (iMass k HK.out _).mono ?_; rintro e w' ⟨rfl, rfl⟩) | (go_at_call 28; refine (iThirdMass k HK.out _).mono ?_; rintro e w' ⟨rfl, rfl⟩))
  go_ret2
  exact ⟨rfl, rfl⟩

theorem iRadius_f (n : Int) (hn : ¬ (0 ≤ n ∧ n < 20)) (w : World) :
    Calls Tryd.prog 24 #[.int .i64 n] w fun e w' => e = .returned (.tuple #[.float .f32 0, .int .i64 2]) ∧ w = w' := by
  have HN := hid hn
  clear hn
  go_enter Tryd.func24, Tryd.ntmps24
  go_wp2_with (go_at_call 57; refine (isClass_f n HN.out _).mono ?_; rintro e w' ⟨rfl, rfl⟩)
  go_ret2
  exact ⟨rfl, rfl⟩

theorem sRad (k : Nat) (hk : k < 20) (w : World) :
    Calls Tryd.prog 60 #[.int .i64 (k : Int)] w fun e w' => e = .returned (.float .f32 (rad k)) ∧ w = w' := by
  have HK := hid hk
  clear hk
  go_enter Tryd.func60, Tryd.ntmps60
  go_wp2_with (first | (go_at_call 106; refine (sMass k HK.out _).mono ?_; rintro e w' ⟨rfl, rfl⟩) | (go_at_call 105; refine (sThirdMass k HK.out _).mono ?_; rintro e w' ⟨rfl, rfl⟩))
  go_ret
  exact ⟨rfl, rfl⟩

theorem sRadius (k : Nat) (hk : k < 20) (w : World) :
    Calls Tryd.prog 25 #[.int .i64 (k : Int)] w fun e w' => e = .returned (.tuple #[.float .f32 (rad k), .int .i64 0]) ∧ w = w' := by
  have HK := hid hk
  clear hk
  go_enter Tryd.func25, Tryd.ntmps25
  go_wp2_with (first | (go_at_call 59; refine (sClass_t k HK.out _).mono ?_; rintro e w' ⟨rfl, rfl⟩) | (go_at_call 60; refine (sRad k HK.out _).mono ?_; rintro e w' ⟨rfl, rfl⟩))
  go_ret2
  exact ⟨rfl, rfl⟩

theorem txN_size (x : Nat) : (txN x).size = 8 := by
  show (hexL (nb x) 8).toArray.size = 8
  simp [hexL_length]

@[go_sem] theorem zero_kern : Tryd.zeroCells35 = vls 400 (flw fun _ => 0) := by kernel_rfl

@[go_sem] theorem semAtSome (l : Nat) (ρ : Operand → Value) (o : Oper) (h : ∀ c, o.op ≠ .defer c) : Oper.semAt (some l) ρ o = execOp ρ o := Oper.semAt_some l ρ o h

@[go_sem] theorem ext_f32from (n : Int) (w : World) : (callFunc 66 #[.int .u32 n]).run Tryd.prog w = .ok (.value (.float .f32 n.toNat)) w := by
  rw [run_callFunc_extern Tryd.func66 (by kernel_rfl) (by kernel_rfl) (by kernel_rfl) (e := Extern.MathFloatBits.float32frombits) (by kernel_rfl)]
  rfl

theorem w32 {x : Nat} (h : x < 4294967296) : IntKind.u32.wrap (x : Int) = (x : Int) := by rw [IntKind.wrap_u32]; omega

set_option maxRecDepth 100000 in
set_option maxHeartbeats 1000000 in
theorem lPlain (w0 : World) (l : List (Nat × Array Value × TypeId)) (S k : Nat) (w : World) (h : SrcAt w0 l S k w) (hk : k < 900000) (hB : w0.heap.size ≤ S) (hne : ∀ x ∈ l, x.1 ≠ S) :
    Calls Tryd.prog 112 #[.pointer (some ⟨S, 0, none⟩)] w fun e w' => (∃ r : Nat, r < 129 ∧ e = .returned (.float .f32 (plW r))) ∧ SrcAt w0 l S (k + 2) w' := by
  have HP := hid (lPick 129 (by decide) (by decide) w0 l S k w h hk hB hne)
  clear h hk hB hne
  go_enter Tryd.func112, Tryd.ntmps112
  go_wp2_with fail
  refine HP.out.mono ?_
  rintro e w1 ⟨⟨r, hr, rfl⟩, hs⟩
  have HS := hid hs
  have HR := hid hr
  have cv := fun w => run_convert_int_float (P := Tryd.prog) w 2 22 .i64 .f32 (r : Int) (by rw [Tryd.underlying2]; rfl) Tryd.underlying22
  have r1 := fun w => run_float_arith (P := Tryd.prog) w .quo 22 .f32 _ _ _ (pl_at hr).1
  generalize floatOfInt .f32 (r : Int) = f at cv r1
  clear HP hs hr
  go_wp2
  go_ret
  exact ⟨⟨r, HR.out, rfl⟩, HS.out⟩

set_option maxRecDepth 100000 in
theorem iNaN (w : World) : Calls Tryd.prog 110 #[] w fun e w' => e = .returned (.float .f64 9221120237041090561) ∧ w = w' := by
  go_enter Tryd.func110, Tryd.ntmps110
  go_wp2
  go_ret
  exact ⟨rfl, rfl⟩

set_option maxRecDepth 100000 in
theorem iInfP (w : World) : Calls Tryd.prog 111 #[.int .i64 1] w fun e w' => e = .returned (.float .f64 9218868437227405312) ∧ w = w' := by
  go_enter Tryd.func111, Tryd.ntmps111
  go_wp2
  go_ret
  exact ⟨rfl, rfl⟩

set_option maxRecDepth 100000 in
theorem iInfN (w : World) : Calls Tryd.prog 111 #[.int .i64 (-1)] w fun e w' => e = .returned (.float .f64 18442240474082181120) ∧ w = w' := by
  go_enter Tryd.func111, Tryd.ntmps111
  go_wp2
  go_ret
  exact ⟨rfl, rfl⟩

set_option maxRecDepth 100000 in
set_option maxHeartbeats 2000000 in
theorem lAny (w0 : World) (l : List (Nat × Array Value × TypeId)) (S k : Nat) (w : World) (h : SrcAt w0 l S k w) (hk : k < 800000) (hB : w0.heap.size ≤ S) (hne : ∀ x ∈ l, x.1 ≠ S) :
    Calls Tryd.prog 63 #[.pointer (some ⟨S, 0, none⟩)] w fun e w' => (∃ a : Nat, a < 4294967296 ∧ e = .returned (.float .f32 a)) ∧ SrcAt w0 l S (k + 6) w' := by
  have HP := hid (lPick 16 (by decide) (by decide) w0 l S k w h (by omega) hB hne)
  have PK := fun (m : Nat) (h1 : 1 ≤ m) (h2 : m ≤ 4294967296) => hid (fun (w1 : World) (j : Nat) (hj : j ≤ k + 6) (h : SrcAt w0 l S j w1) => lPick m h1 h2 w0 l S j w1 h (by omega) hB hne)
  have PL := hid (fun (w1 : World) (j : Nat) (hj : j ≤ k + 6) (h : SrcAt w0 l S j w1) => lPlain w0 l S j w1 h (by omega) hB hne)
  clear h hk hB hne
  go_enter Tryd.func63, Tryd.ntmps63
  go_wp2_with fail
  refine HP.out.mono ?_
  rintro e w1 ⟨⟨r, hr, rfl⟩, hs⟩
  have HS := hid hs
  clear HP hs
  rcases (by omega : r = 0 ∨ r = 1 ∨ r = 2 ∨ r = 3 ∨ r = 4 ∨ r = 5 ∨ r = 6 ∨ r = 7 ∨ 8 ≤ r) with rfl | rfl | rfl | rfl | rfl | rfl | rfl | rfl | h8
  · go_wp2_with fail
    refine (iNaN _).mono ?_
    rintro e w2 ⟨rfl, rfl⟩
    obtain ⟨z, hz, hz2⟩ := conv_nan32 (P := Tryd.prog) 86 22 Tryd.underlying86 Tryd.underlying22 w1
    have HZ := hid hz2
    have HS := hid ((HS.out.more (Nat.add_le_add_left (by decide : 2 ≤ 6) k)).stay (Below.refl w1.heap.size w1).drew)
    clear PK PL hz2
    go_wp2
    go_ret
    exact ⟨⟨z, HZ.out, rfl⟩, HS.out⟩
  · go_wp2_with fail
    refine (iInfP _).mono ?_
    rintro e w2 ⟨rfl, rfl⟩
    have cv := fun w => run_convert_float_float (P := Tryd.prog) w 86 22 .f64 .f32 9218868437227405312 2139095040 (by rw [Tryd.underlying86]; rfl) Tryd.underlying22 (by decide +kernel)
    have HS := hid (HS.out.more (Nat.add_le_add_left (by decide : 2 ≤ 6) k))
    clear PK PL
    go_wp2
    go_ret
    exact ⟨⟨2139095040, by decide, rfl⟩, HS.out⟩
  · go_wp2_with fail
    refine (iInfN _).mono ?_
    rintro e w2 ⟨rfl, rfl⟩
    have cv := fun w => run_convert_float_float (P := Tryd.prog) w 86 22 .f64 .f32 18442240474082181120 4286578688 (by rw [Tryd.underlying86]; rfl) Tryd.underlying22 (by decide +kernel)
    have HS := hid (HS.out.more (Nat.add_le_add_left (by decide : 2 ≤ 6) k))
    clear PK PL
    go_wp2
    go_ret
    exact ⟨⟨4286578688, by decide, rfl⟩, HS.out⟩
  · have HS := hid (HS.out.more (Nat.add_le_add_left (by decide : 2 ≤ 6) k))
    clear PK PL
    go_wp2
    go_ret
    exact ⟨⟨2147483648, by decide, rfl⟩, HS.out⟩
  · go_wp2_with fail
    refine ((PK 16777220 (by decide) (by decide)).out w1 (k + 2) (by omega) HS.out).mono ?_
    rintro e w2 ⟨⟨a, ha, rfl⟩, hs⟩
    have HS := hid (hs.more (show k + 2 + 2 ≤ k + 6 by omega))
    have hw := w32 (x := a) (by omega)
    have hn9 : (a : Int).toNat = a := Int.toNat_natCast a
    have HA := hid (show a < 4294967296 by omega)
    clear PK PL hs ha
    go_wp2
    go_ret
    exact ⟨⟨a, HA.out, rfl⟩, HS.out⟩
  · go_wp2_with fail
    refine ((PK 1073741824 (by decide) (by decide)).out w1 (k + 2) (by omega) HS.out).mono ?_
    rintro e w2 ⟨⟨a, ha, rfl⟩, hs⟩
    have HS2 := hid hs
    have hw := w32 (x := a) (by omega)
    have hw2 : IntKind.u32.wrap ((a : Int) * 4) = ((a * 4 : Nat) : Int) := by rw [IntKind.wrap_u32]; omega
    have HA := hid ha
    clear hs ha
    go_wp2_with fail
    refine ((PK 4 (by decide) (by decide)).out w2 (k + 2 + 2) (by omega) HS2.out).mono ?_
    rintro e w3 ⟨⟨b, hb, rfl⟩, hs⟩
    have HS := hid (hs.more (show k + 2 + 2 + 2 ≤ k + 6 by omega))
    have hw3 := w32 (x := b) (by omega)
    have hw4 : IntKind.u32.wrap (((a * 4 : Nat) : Int) + (b : Int)) = ((a * 4 + b : Nat) : Int) := by have := HA.out; rw [IntKind.wrap_u32]; omega
    have hw5 : IntKind.u32.wrap ((a : Int) * 4 + (b : Int)) = ((a * 4 + b : Nat) : Int) := by have := HA.out; rw [IntKind.wrap_u32]; omega
    have hn9 : ((a * 4 + b : Nat) : Int).toNat = a * 4 + b := Int.toNat_natCast _
    have HC := hid (show a * 4 + b < 4294967296 by have := HA.out; omega)
    generalize a * 4 + b = c at *
    clear PK PL hs hb HS2
    go_wp2
    go_ret
    exact ⟨⟨c, HC.out, rfl⟩, HS.out⟩
  · go_wp2_with fail
    refine ((PK 2000000 (by decide) (by decide)).out w1 (k + 2) (by omega) HS.out).mono ?_
    rintro e w2 ⟨⟨a, ha, rfl⟩, hs⟩
    have HS := hid (hs.more (show k + 2 + 2 ≤ k + 6 by omega))
    have hw : wrap64 ((a : Int) - 1000000) = (a : Int) - 1000000 := by unfold wrap64; omega
    have hw2 : IntKind.i64.wrap ((a : Int) - 1000000) = (a : Int) - 1000000 := by rw [IntKind.wrap_i64]; omega
    have cv := fun w => run_convert_int_float (P := Tryd.prog) w 2 22 .i64 .f32 ((a : Int) - 1000000) (by rw [Tryd.underlying2]; rfl) Tryd.underlying22
    generalize floatOfInt .f32 ((a : Int) - 1000000) = f at cv
    obtain ⟨z, w3, hz, hw3, hz2⟩ := arith_at (P := Tryd.prog) .quo (Or.inr (Or.inr (Or.inr rfl))) 22 f 1148846080 w2
    have HZ := hid hz2
    have HS := hid (HS.out.stay (below_wf (Below.refl w2.heap.size w2) hw3))
    clear PK PL hs ha hz2 hw3
    go_wp2
    go_ret
    exact ⟨⟨z, HZ.out, rfl⟩, HS.out⟩
  · go_wp2_with fail
    refine (PL.out w1 (k + 2) (by omega) HS.out).mono ?_
    rintro e w2 ⟨⟨a, ha, rfl⟩, hs⟩
    have HS := hid (hs.more (show k + 2 + 2 ≤ k + 6 by omega))
    have ng := fun w => run_neg_pl (P := Tryd.prog) ha w
    have HA := hid (show 2147483648 + plW a < 4294967296 by have := (pl_at ha).2.2; omega)
    generalize plW a = q at *
    clear PK PL hs ha
    go_wp2
    go_ret
    exact ⟨⟨2147483648 + q, HA.out, rfl⟩, HS.out⟩
  · have f0 : ¬ ((r : Int) = 0) := by omega
    have f1 : ¬ ((r : Int) = 1) := by omega
    have f2 : ¬ ((r : Int) = 2) := by omega
    have f3 : ¬ ((r : Int) = 3) := by omega
    have f4 : ¬ ((r : Int) = 4) := by omega
    have f5 : ¬ ((r : Int) = 5) := by omega
    have f6 : ¬ ((r : Int) = 6) := by omega
    have f7 : ¬ ((r : Int) = 7) := by omega
    clear h8 hr PK
    go_wp2_with fail
    refine (PL.out w1 (k + 2) (by omega) HS.out).mono ?_
    rintro e w2 ⟨⟨a, ha, rfl⟩, hs⟩
    have HS := hid (hs.more (show k + 2 + 2 ≤ k + 6 by omega))
    have HA := hid (show plW a < 4294967296 by have := (pl_at ha).2.2; omega)
    clear PL hs ha
    go_wp2
    go_ret
    exact ⟨⟨plW a, HA.out, rfl⟩, HS.out⟩

set_option maxRecDepth 100000 in
theorem lA2Any (v : Value) (n : Nat) (x : Nat → Int) (w : World) (hs : RdV w v n (byV x)) (hx : Bytes8 n x) :
    Calls Tryd.prog 29 #[v] w fun e w' => (∃ a : Nat, a < 4294967296 ∧ e = .returned (.float .f32 a)) ∧ Below w.heap.size w w' := by
  have HF := hid (lFrom v n x w hs hx)
  have HA := hid (fun w1 h => lAny w [] w.heap.size 0 w1 h (by omega) (Nat.le_refl _) (by simp))
  clear hs hx
  go_enter Tryd.func29, Tryd.ntmps29
  go_wp2_with fail
  refine HF.out.mono ?_
  rintro e w1 ⟨rfl, h1⟩
  have H1 := hid h1
  clear HF h1
  go_wp2_with fail
  refine (HA.out _ H1.out).mono ?_
  rintro e w2 ⟨⟨a, ha, rfl⟩, h2⟩
  have H2 := hid h2.keeps.1
  have HL := hid ha
  clear HA h2 ha
  go_wp2
  go_ret
  exact ⟨⟨a, HL.out, rfl⟩, H2.out⟩

set_option maxRecDepth 100000 in
set_option maxHeartbeats 1000000 in
theorem iLower (b l : Nat) (h : bits BinOp.or IntKind.u8 (b : Int) 32 = (l : Int)) (w : World) :
    Calls Tryd.prog 145 #[.int .u8 (b : Int)] w fun e w' => e = .returned (.int .u8 (l : Int)) ∧ w' = w := by
  go_enter Tryd.func145, Tryd.ntmps145
  go_wp2
  go_ret
  exact ⟨rfl, rfl⟩

/-- The bit of small letters set. -/
def lowB (b : Nat) : Nat := b ||| 32

theorem low_tab : ((List.range 256).all fun b => decide (bits BinOp.or IntKind.u8 (b : Int) 32 = (lowB b : Int)) && decide (lowB b < 256)) = true := by decide +kernel

theorem low_is {b : Nat} (h : b < 256) : bits BinOp.or IntKind.u8 (b : Int) 32 = (lowB b : Int) ∧ lowB b < 256 := by
  have := List.all_eq_true.1 low_tab b (List.mem_range.2 h)
  simpa using this

/-- What the program takes for a digit (capital letters too), and its value. -/
def isPB (b : Nat) : Bool := decide (48 ≤ b ∧ b ≤ 57) || decide (97 ≤ lowB b ∧ lowB b ≤ 102)

def digP (b : Nat) : Nat := if b ≤ 57 then b - 48 else lowB b - 87

def valP (s : ByteArray) : Nat → Nat
  | 0 => 0
  | k + 1 => valP s k * 16 + digP (byT s k)

def PTo (s : ByteArray) (k : Nat) : Prop := ∀ i, i < k → isPB (byT s i) = true

theorem isP_tab : ((List.range 256).all fun b => !isPB b || decide (digP b < 16)) = true := by decide +kernel

theorem digP_lt {b : Nat} (hb : b < 256) (h : isPB b = true) : digP b < 16 := by
  have := List.all_eq_true.1 isP_tab b (List.mem_range.2 hb)
  rw [h] at this
  simpa using this

theorem valP_lt {s : ByteArray} : ∀ k, PTo s k → valP s k < 16 ^ k
  | 0, _ => Nat.zero_lt_one
  | k + 1, h => by
    have ih := valP_lt (s := s) k (fun i hi => h i (by omega))
    have hd := digP_lt (byT_lt s k) (h k (by omega))
    show valP s k * 16 + digP (byT s k) < 16 ^ (k + 1)
    rw [Nat.pow_succ]
    omega

theorem valP_28 {s : ByteArray} {k : Nat} (h : PTo s k) (hk : k ≤ 7) : valP s k < 268435456 := Nat.lt_of_lt_of_le (valP_lt k h) (pow16_8 hk)

theorem PTo.next {s : ByteArray} {k : Nat} (h : PTo s k) (hb : isPB (byT s k) = true) : PTo s (k + 1) := fun i hi => by
  by_cases e : i = k
  · subst e; exact hb
  · exact h i (by omega)

theorem pB_digit {b : Nat} (h1 : 48 ≤ b) (h2 : b ≤ 57) : isPB b = true ∧ digP b = b - 48 := by
  refine ⟨?_, if_pos h2⟩
  unfold isPB; rw [decide_eq_true ⟨h1, h2⟩]; rfl

theorem pB_letter {b : Nat} (h0 : ¬ (48 ≤ b ∧ b ≤ 57)) (h1 : 97 ≤ lowB b) (h2 : lowB b ≤ 102) : isPB b = true ∧ digP b = lowB b - 87 := by
  constructor
  · unfold isPB; rw [decide_eq_true (p := 97 ≤ lowB b ∧ lowB b ≤ 102) ⟨h1, h2⟩, Bool.or_true]
  · refine if_neg (fun h => ?_)
    have : lowB b < 97 := by
      have hb : b < 48 := by omega
      have t : ((List.range 48).all fun b => decide (lowB b < 97)) = true := by decide +kernel
      simpa using List.all_eq_true.1 t b (List.mem_range.2 hb)
    omega

theorem pB_not {b : Nat} (h1 : ¬ (48 ≤ b ∧ b ≤ 57)) (h2 : ¬ (97 ≤ lowB b ∧ lowB b ≤ 102)) : isPB b = false := by
  unfold isPB; rw [decide_eq_false h1, decide_eq_false h2]; rfl

/-- What internal/strconv.ParseUint gives. -/
def puV (ok : Bool) (v : Nat) : Value := .tuple #[.int .u64 (if ok = true then v else 0), if ok = true then .nilIface else .iface 192 (.int .i64 2)]

set_option maxRecDepth 100000 in
set_option maxHeartbeats 4000000 in
theorem iPU (s : ByteArray) (hl : s.size = 8) (R : Value) (h1 : PTo s 8 → R = puV true (valP s 8)) (h0 : ¬ PTo s 8 → R = puV false 0) (w : World) :
    Calls Tryd.prog 113 #[.string s, .int .i64 16, .int .i64 32] w fun e w' => e = .returned R ∧ w' = Lib.bytesWorld w 5 s := by
  have HL := hid hl
  have H1 := hid h1
  have H0 := hid h0
  have hemp : s.toList.isEmpty = false := by
    rw [← decide_eq_emptyBytes]
    exact decide_eq_false (fun h => by rw [h] at hl; cases hl)
  have hcv := Lib.run_convert_string_bytes (P := Tryd.prog) w 9 39 5 s (u := .string) Tryd.underlying9 Tryd.underlying39 Tryd.underlying5
  have hB : ∀ j, j < 8 → (Lib.bytesWorld w 5 s).cell? ⟨w.heap.size, j, none⟩ = some (.int .u8 (byT s j : Int)) := fun j hj => Lib.bytesWorld_cell w 5 s j (by omega)
  obtain ⟨W1, hW1⟩ : ∃ W1, W1 = Lib.bytesWorld w 5 s := ⟨_, rfl⟩
  rw [← hW1] at hcv hB ⊢
  clear hW1
  have HB0 := hid hB
  have hmv : IntKind.u64.wrap (4294967296 - 1) = 4294967295 := by
    rw [IntKind.wrap_u64]
    decide
  have hs8 : (s.size : Int) = 8 := by omega
  have e103 : ∀ args w, (callFunc 145 args).run Tryd.prog w = .ok (.enter 145 args) w := enters_of Tryd.func145 (by kernel_rfl) rfl
  rw [hl] at hcv
  clear h1 h0 hB hl
  go_enter Tryd.func113, Tryd.ntmps113
  go_wp2
  go_loop [12, 13, 101] (fun vu vn vi => ∃ (k : Nat) (a : Int), k ≤ 8 ∧ vu = .bool false ∧ vn = .int .u64 a ∧ vi = .int .i64 (k : Int) ∧ Hid (PTo s k) ∧ Hid (a = (valP s k : Int))) (fun _ _ vi => 8 - (intOf vi).toNat)
  case atStart => exact ⟨0, 0, by omega, rfl, rfl, rfl, hid (fun i hi => absurd hi (Nat.not_lt_zero i)), hid rfl⟩
  case round =>
    clear hcv hmv hs8 hemp
    obtain ⟨k, a, hk, rfl, rfl, rfl, hh, ha0⟩ := hrel
    have ha := ha0.out
    clear ha0
    by_cases hlt : k < 8
    · have HK := hid hlt
      have hk3 : (k : Int) < 8 := by omega
      have hc := HB0.out k hlt
      have v28 := valP_28 hh.out (show k ≤ 7 by omega)
      have b256 := byT_lt s k
      have hnx := hid (fun d (hd : digP (byT s k) = d) => show valP s (k + 1) = valP s k * 16 + d by rw [← hd]; rfl)
      obtain ⟨b, hb⟩ : ∃ b, b = byT s k := ⟨_, rfl⟩
      rw [← hb] at hc b256 hnx
      have HB := hid hb
      have hlow := low_is b256
      obtain ⟨l, hl⟩ : ∃ l, l = lowB b := ⟨_, rfl⟩
      rw [← hl] at hlow
      have HLW := hid hl
      have il := iLower b l hlow.1
      have l256 := hlow.2
      have A0 : 0 ≤ a := by omega
      have A1 : a < 268435456 := by omega
      have hcut : a < 1152921504606846976 := by omega
      have m1 : IntKind.u64.wrap (a * 16) = a * 16 := by rw [IntKind.wrap_u64]; omega
      have HA := hid ha
      clear hb hk hlt hl hlow ha v28
      by_cases c1 : 48 ≤ b ∧ b ≤ 57
      · have f1 : (48 : Int) ≤ (b : Int) := by omega
        have f2 : (b : Int) ≤ 57 := by omega
        have f0 : ¬ (b : Int) = 95 := by omega
        obtain ⟨d, hd⟩ : ∃ d : Int, d = (b : Int) - 48 := ⟨_, rfl⟩
        have f3 : (b : Int) - 48 = d := hd.symm
        have d0 : 0 ≤ d := by omega
        have d1 : d < 16 := by omega
        have f4 : IntKind.u8.wrap d = d := by rw [IntKind.wrap_u8]; omega
        have f5 : IntKind.u64.wrap d = d := by rw [IntKind.wrap_u64]; omega
        have f6 : IntKind.u64.wrap (a * 16 + d) = a * 16 + d := by rw [IntKind.wrap_u64]; omega
        have f8 : ¬ (a * 16 + d < a * 16) := by omega
        have f9 : ¬ ((4294967295 : Int) < a * 16 + d) := by omega
        have hx := hid (pB_digit c1.1 c1.2)
        have HN : Hid (a * 16 + d = (valP s (k + 1) : Int)) := hid (by
          have e1 := HA.out
          have e2 := hnx.out (b - 48) hx.out.2
          omega)
        have hd9 : ¬ (16 : Int) ≤ d := by omega
        clear c1 hd b256 l256 il A0 A1
        go_wp2
        exact ⟨⟨k + 1, a * 16 + d, HK.out, rfl, rfl, by go_num, hid (hh.out.next (by rw [← HB.out]; exact hx.out.1)), HN⟩, by have := HK.out; simp [intOf]; omega⟩
      · by_cases c2 : 97 ≤ l ∧ l ≤ 102
        · have f0 : ¬ (b : Int) = 95 := fun h => by
            have hb : b = 95 := by omega
            have e1 := HLW.out
            rw [hb] at e1
            have : lowB 95 = 127 := by decide
            omega
          have g1 : (97 : Int) ≤ (l : Int) := by omega
          have g2 : (l : Int) ≤ 122 := by omega
          obtain ⟨e0, he⟩ : ∃ e0 : Int, e0 = (l : Int) - 97 := ⟨_, rfl⟩
          have f3 : (l : Int) - 97 = e0 := he.symm
          have f4 : IntKind.u8.wrap e0 = e0 := by rw [IntKind.wrap_u8]; omega
          obtain ⟨d, hd⟩ : ∃ d : Int, d = e0 + 10 := ⟨_, rfl⟩
          have f4b : IntKind.u8.wrap (e0 + 10) = d := by rw [IntKind.wrap_u8]; omega
          have d0 : 0 ≤ d := by omega
          have d1 : d < 16 := by omega
          have hd9 : ¬ (16 : Int) ≤ d := by omega
          have f5 : IntKind.u64.wrap d = d := by rw [IntKind.wrap_u64]; omega
          have f6 : IntKind.u64.wrap (a * 16 + d) = a * 16 + d := by rw [IntKind.wrap_u64]; omega
          have f8 : ¬ (a * 16 + d < a * 16) := by omega
          have f9 : ¬ ((4294967295 : Int) < a * 16 + d) := by omega
          have hx := hid (pB_letter c1 (by rw [← HLW.out]; exact c2.1) (by rw [← HLW.out]; exact c2.2))
          have HN : Hid (a * 16 + d = (valP s (k + 1) : Int)) := hid (by
            have e1 := HA.out
            have e2 := hnx.out (lowB b - 87) hx.out.2
            have e3 := HLW.out
            omega)
          by_cases c3 : 48 ≤ b
          · have q1 : (48 : Int) ≤ (b : Int) := by omega
            have q2 : ¬ (b : Int) ≤ 57 := by omega
            clear c1 c2 c3 hd he b256 l256 A0 A1 d0 d1
            go_wp2_with (go_at_fn 145; refine (il _).mono ?_; rintro e w' ⟨rfl, rfl⟩)
            exact ⟨⟨k + 1, a * 16 + d, HK.out, rfl, rfl, by go_num, hid (hh.out.next (by rw [← HB.out]; exact hx.out.1)), HN⟩, by have := HK.out; simp [intOf]; omega⟩
          · have q1 : ¬ (48 : Int) ≤ (b : Int) := by omega
            clear c1 c2 c3 hd he b256 l256 A0 A1 d0 d1
            go_wp2_with (go_at_fn 145; refine (il _).mono ?_; rintro e w' ⟨rfl, rfl⟩)
            exact ⟨⟨k + 1, a * 16 + d, HK.out, rfl, rfl, by go_num, hid (hh.out.next (by rw [← HB.out]; exact hx.out.1)), HN⟩, by have := HK.out; simp [intOf]; omega⟩
        · have hR := H0.out (fun h => by have := h k HK.out; rw [← HB.out, pB_not c1 (by rw [← HLW.out]; exact c2)] at this; cases this)
          unfold puV at hR
          simp only [Bool.false_eq_true, if_false] at hR
          subst hR
          by_cases c9 : b = 95
          · have f0 : (b : Int) = 95 := by omega
            have hl9 : l = 127 := by rw [HLW.out, c9]; decide
            have g9 : (l : Int) = 127 := by omega
            rw [f0, g9] at il
            rw [f0] at hc
            clear c1 c2 c9 hl9 g9 f0 b256 l256 A0 A1
            go_wp2_with (go_at_fn 145; refine (il _).mono ?_; rintro e w' ⟨rfl, rfl⟩)
            go_ret2
            exact ⟨rfl, rfl⟩
          · have f0 : ¬ (b : Int) = 95 := by omega
            rcases (show l < 97 ∨ (103 ≤ l ∧ l ≤ 122) ∨ 123 ≤ l by omega) with a1 | a1 | a1
            · have g1 : ¬ (97 : Int) ≤ (l : Int) := by omega
              rcases (show b < 48 ∨ 48 ≤ b by omega) with a2 | a2
              · have q1 : ¬ (48 : Int) ≤ (b : Int) := by omega
                clear c1 c2 c9 a1 a2 b256 l256 A0 A1
                go_wp2_with (go_at_fn 145; refine (il _).mono ?_; rintro e w' ⟨rfl, rfl⟩)
                go_ret2
                exact ⟨rfl, rfl⟩
              · have q1 : (48 : Int) ≤ (b : Int) := by omega
                have q2 : ¬ (b : Int) ≤ 57 := by omega
                clear c1 c2 c9 a1 a2 b256 l256 A0 A1
                go_wp2_with (go_at_fn 145; refine (il _).mono ?_; rintro e w' ⟨rfl, rfl⟩)
                go_ret2
                exact ⟨rfl, rfl⟩
            · have g1 : (97 : Int) ≤ (l : Int) := by omega
              have g2 : (l : Int) ≤ 122 := by omega
              obtain ⟨e0, he⟩ : ∃ e0 : Int, e0 = (l : Int) - 97 := ⟨_, rfl⟩
              have f3 : (l : Int) - 97 = e0 := he.symm
              have f4 : IntKind.u8.wrap e0 = e0 := by rw [IntKind.wrap_u8]; omega
              obtain ⟨d, hd⟩ : ∃ d : Int, d = e0 + 10 := ⟨_, rfl⟩
              have f4b : IntKind.u8.wrap (e0 + 10) = d := by rw [IntKind.wrap_u8]; omega
              have hd9 : (16 : Int) ≤ d := by omega
              rcases (show b < 48 ∨ 48 ≤ b by omega) with a2 | a2
              · have q1 : ¬ (48 : Int) ≤ (b : Int) := by omega
                clear c1 c2 c9 a1 a2 b256 l256 A0 A1 hd he
                go_wp2_with (go_at_fn 145; refine (il _).mono ?_; rintro e w' ⟨rfl, rfl⟩)
                go_ret2
                exact ⟨rfl, rfl⟩
              · have q1 : (48 : Int) ≤ (b : Int) := by omega
                have q2 : ¬ (b : Int) ≤ 57 := by omega
                clear c1 c2 c9 a1 a2 b256 l256 A0 A1 hd he
                go_wp2_with (go_at_fn 145; refine (il _).mono ?_; rintro e w' ⟨rfl, rfl⟩)
                go_ret2
                exact ⟨rfl, rfl⟩
            · have g1 : (97 : Int) ≤ (l : Int) := by omega
              have g2 : ¬ (l : Int) ≤ 122 := by omega
              rcases (show b < 48 ∨ 48 ≤ b by omega) with a2 | a2
              · have q1 : ¬ (48 : Int) ≤ (b : Int) := by omega
                clear c1 c2 c9 a1 a2 b256 l256 A0 A1
                go_wp2_with (go_at_fn 145; refine (il _).mono ?_; rintro e w' ⟨rfl, rfl⟩)
                go_ret2
                exact ⟨rfl, rfl⟩
              · have q1 : (48 : Int) ≤ (b : Int) := by omega
                have q2 : ¬ (b : Int) ≤ 57 := by omega
                clear c1 c2 c9 a1 a2 b256 l256 A0 A1
                go_wp2_with (go_at_fn 145; refine (il _).mono ?_; rintro e w' ⟨rfl, rfl⟩)
                go_ret2
                exact ⟨rfl, rfl⟩
    · obtain rfl : k = 8 := by omega
      have hk3 : ¬ ((8 : Nat) : Int) < 8 := by omega
      have hR := H1.out hh.out
      unfold puV at hR
      simp only [if_true] at hR
      rw [← ha] at hR
      subst hR
      clear H1 H0 ha
      go_wp2
      go_ret2
      exact ⟨rfl, rfl⟩

set_option maxRecDepth 100000 in
set_option maxHeartbeats 1000000 in
theorem iPUok (s : ByteArray) (hl : s.size = 8) (hp : PTo s 8) (w : World) :
    Calls Tryd.prog 65 #[.string s, .int .i64 16, .int .i64 32] w fun e w' => e = .returned (.tuple #[.int .u64 (valP s 8 : Int), .nilIface]) ∧ w' = Lib.bytesWorld w 5 s := by
  have IP := hid (fun w => iPU s hl (puV true (valP s 8)) (fun _ => rfl) (fun h => absurd hp h) w)
  unfold puV at IP
  simp only [if_true] at IP
  obtain ⟨v, hv⟩ : ∃ v, v = valP s 8 := ⟨_, rfl⟩
  rw [← hv] at IP ⊢
  clear hv hp hl
  obtain ⟨a, ha⟩ : ∃ a : Int, a = (v : Int) := ⟨_, rfl⟩
  rw [← ha] at IP ⊢
  clear ha
  go_enter Tryd.func65, Tryd.ntmps65
  go_wp2_with fail
  refine (IP.out _).mono ?_
  rintro e w1 ⟨rfl, rfl⟩
  go_wp2
  go_ret2
  exact ⟨rfl, rfl⟩

theorem bytes_beq (a b : ByteArray) : (a.toList == b.toList) = decide (a = b) := by
  by_cases h : a = b
  · subst h; simp
  · rw [decide_eq_false h]
    refine beq_eq_false_iff_ne.2 (fun k => h ?_)
    rw [Lib.toList_data, Lib.toList_data] at k
    exact ByteArray.ext (Array.toList_inj.1 k)

set_option maxRecDepth 100000 in
set_option maxHeartbeats 1000000 in
theorem iRead8 (s : ByteArray) (hl : s.size = 8) (hp : PTo s 8) (q : Bool) (hq : decide (txN (valP s 8) = s) = q) (w : World) (ht : Tab64 w) :
    Calls Tryd.prog 30 #[.string s] w fun e w' => e = .returned (.tuple #[.float .f32 (if q = true then valP s 8 else 0), .int .i64 (if q = true then 0 else 5)]) ∧ Below w.heap.size w w' := by
  have h1 : ((s.size : Int) = 8) := by omega
  have hb := Lib.bytesWorld_below w 5 s
  have HP := hid (iPUok s hl hp w)
  have v32 : valP s 8 < 4294967296 := valP_lt 8 hp
  obtain ⟨v, hv⟩ : ∃ v, v = valP s 8 := ⟨_, rfl⟩
  rw [← hv] at HP v32 hq ⊢
  have HT := hid (ht.stay hb)
  have HN := hid (fun W hW => iNumberText v v32 W hW)
  have HQ := hid hq
  have cv : IntKind.u32.wrap (v : Int) = (v : Int) := w32 v32
  have hn9 : (v : Int).toNat = v := Int.toNat_natCast v
  have Hb := hid hb
  clear hl hp ht hv v32 hq hb
  go_enter Tryd.func30, Tryd.ntmps30
  go_wp2_with fail
  refine HP.out.mono ?_
  rintro e w2 ⟨rfl, rfl⟩
  go_wp2_with fail
  refine (HN.out _ HT.out).mono ?_
  rintro e w3 ⟨rfl, k3⟩
  have K := hid (Hb.out.trans (k3.mono Hb.out.size))
  clear k3
  have hE := HQ.out
  clear HQ
  cases q
  · have hE2 : ((txN v).toList == s.toList) = false := (bytes_beq _ _).trans hE
    clear hE
    go_wp2
    go_ret2
    exact ⟨rfl, K.out⟩
  · have hE2 : ((txN v).toList == s.toList) = true := (bytes_beq _ _).trans hE
    clear hE
    go_wp2
    go_ret2
    exact ⟨rfl, K.out⟩

theorem hexP_tab : ((List.range 256).all fun b => !isHexB b || (isPB b && decide (digP b = digB b) && decide (hexN (digB b) = b))) = true := by decide +kernel

theorem hexP {b : Nat} (hb : b < 256) (h : isHexB b = true) : isPB b = true ∧ digP b = digB b ∧ hexN (digB b) = b := by
  have := List.all_eq_true.1 hexP_tab b (List.mem_range.2 hb)
  rw [h] at this
  simpa [and_assoc] using this

theorem hexN_tab : ((List.range 16).all fun d => isHexB (hexN d) && decide (digB (hexN d) = d)) = true := by decide +kernel

theorem hexN_is {d : Nat} (h : d < 16) : isHexB (hexN d) = true ∧ digB (hexN d) = d := by
  have := List.all_eq_true.1 hexN_tab d (List.mem_range.2 h)
  simpa using this

theorem hex_P {s : ByteArray} : ∀ k, HexTo s k → PTo s k ∧ valP s k = valT s k
  | 0, _ => ⟨fun i h => absurd h (Nat.not_lt_zero i), rfl⟩
  | k + 1, h => by
    have ih := hex_P k (fun i hi => h i (by omega))
    have hx := hexP (byT_lt s k) (h k (by omega))
    refine ⟨ih.1.next hx.1, ?_⟩
    show valP s k * 16 + digP (byT s k) = valT s k * 16 + digB (byT s k)
    rw [ih.2, hx.2.1]

theorem byT_tx {n : Nat} {s : ByteArray} (h : (⟨(hexL n 8).toArray⟩ : ByteArray) = s) {i : Nat} (hi : i < 8) : byT s i = hexN (n / 16 ^ (7 - i) % 16) := by
  subst h
  unfold byT
  show ((hexL n 8).toArray.toList.getD i 0).toNat = _
  rw [List.getD_eq_getElem?_getD, List.toList_toArray, hexL_get 8 n i hi]
  show (hexD (n / 16 ^ (8 - 1 - i) % 16)).toNat = _
  rw [hexD_nat (Nat.mod_lt _ (by decide)), show 8 - 1 - i = 7 - i by omega]

theorem tx_hex {n : Nat} {s : ByteArray} (hn : n < 4294967296) (h : (⟨(hexL n 8).toArray⟩ : ByteArray) = s) : HexTo s 8 ∧ valT s 8 = n := by
  have hd : ∀ i, i < 8 → isHexB (byT s i) = true ∧ digB (byT s i) = n / 16 ^ (7 - i) % 16 := fun i hi => by
    rw [byT_tx h hi]
    exact hexN_is (Nat.mod_lt _ (by decide))
  refine ⟨fun i hi => (hd i hi).1, ?_⟩
  have go : ∀ k, k ≤ 8 → valT s k = n / 16 ^ (8 - k) := by
    intro k
    induction k with
    | zero => intro _; show 0 = n / 16 ^ 8; rw [Nat.div_eq_of_lt]; exact hn
    | succ k ih =>
      intro hk
      show valT s k * 16 + digB (byT s k) = _
      rw [ih (by omega), (hd k (by omega)).2, show 8 - k = (7 - k) + 1 by omega, show 8 - (k + 1) = 7 - k by omega, Nat.pow_succ, ← Nat.div_div_eq_div_mul]
      omega
  have := go 8 (Nat.le_refl _)
  simpa using this

theorem valT_div {s : ByteArray} {k : Nat} : ∀ j, HexTo s (k + j) → valT s (k + j) / 16 ^ j = valT s k
  | 0, _ => by simp
  | j + 1, h => by
    have ih := valT_div (s := s) (k := k) j (fun i hi => h i (by omega))
    have hd := digB_lt (h (k + j) (by omega))
    show (valT s (k + j) * 16 + digB (byT s (k + j))) / 16 ^ (j + 1) = _
    rw [Nat.pow_succ, Nat.mul_comm (16 ^ j) 16, ← Nat.div_div_eq_div_mul, show (valT s (k + j) * 16 + digB (byT s (k + j))) / 16 = valT s (k + j) by omega, ih]

theorem hex_tx {s : ByteArray} (hl : s.size = 8) (h : HexTo s 8) : (⟨(hexL (valT s 8) 8).toArray⟩ : ByteArray) = s := by
  have hsz : s.data.toList.length = 8 := by simpa using hl
  have key : hexL (valT s 8) 8 = s.data.toList := by
    refine List.ext_getElem? fun i => ?_
    by_cases hi : i < 8
    · rw [hexL_get 8 _ i hi, List.getElem?_eq_getElem (by omega)]
      have hx := h i hi
      have hdv : valT s 8 / 16 ^ (8 - 1 - i) = valT s (i + 1) := by
        have := valT_div (s := s) (k := i + 1) (7 - i) (by rw [show i + 1 + (7 - i) = 8 by omega]; exact h)
        rw [show i + 1 + (7 - i) = 8 by omega] at this
        rw [show 8 - 1 - i = 7 - i by omega]; exact this
      have hd := digB_lt hx
      have hm : valT s (i + 1) % 16 = digB (byT s i) := by
        show (valT s i * 16 + digB (byT s i)) % 16 = _
        omega
      rw [hdv, hm]
      unfold hexD
      rw [(hexP (byT_lt s i) hx).2.2]
      unfold byT
      rw [List.getD_eq_getElem?_getD, List.getElem?_eq_getElem (by omega)]
      simp
    · rw [List.getElem?_eq_none (by rw [hexL_length]; omega), List.getElem?_eq_none (by omega)]
  rw [key]

/-- What reading a number gives, and whether it is one. -/
theorem rd_same {s : ByteArray} (hl : s.size = 8) (hp : PTo s 8) : txN (valP s 8) = s ↔ HexTo s 8 ∧ nb (valT s 8) = valT s 8 := by
  have v32 : valP s 8 < 4294967296 := valP_lt 8 hp
  constructor
  · intro h
    have h2 := tx_hex (nb_lt v32) h
    have h3 := (hex_P 8 h2.1).2
    refine ⟨h2.1, ?_⟩
    rw [← h3]
    rw [← h3] at h2
    exact h2.2.symm
  · rintro ⟨h1, h2⟩
    unfold txN
    rw [(hex_P 8 h1).2, h2]
    exact hex_tx hl h1

/-- What the library's variables must hold: the table's cell, the error, a number. -/
def Lng (w : World) : Prop := Tab64 w ∧ (∃ ev, w.cell? ⟨1, 0, none⟩ = some ev ∧ (ev = .nilIface ∨ ∃ te pe, ev = .iface te pe)) ∧ ∃ m, w.cell? ⟨4, 0, none⟩ = some (.int .i64 m)

theorem Lng.stay {w w' : World} (h : Lng w) (k : Below w.heap.size w w') : Lng w' := by
  obtain ⟨h1, ⟨ev, h2, h3⟩, m, h4⟩ := h
  exact ⟨h1.stay k, ⟨ev, by rw [k.cell (block_lt_of_cell h2)]; exact h2, h3⟩, m, by rw [k.cell (block_lt_of_cell h4)]; exact h4⟩

set_option maxRecDepth 100000 in
set_option maxHeartbeats 1000000 in
theorem lNear3 (a b s : Nat) (h : near3 a b s = true) (w : World) :
    Calls Tryd.prog 27 #[.float .f32 a, .float .f32 b, .float .f32 s] w fun e w' => e = .returned (.bool true) ∧ w = w' := by
  obtain ⟨p, q, u, v, h1, h2, h3, h4, h5, h6⟩ := near3_is h
  have r1 := fun w => run_float_arith (P := Tryd.prog) w .mul 22 .f32 _ _ _ h1
  have r2 := fun w => run_float_arith (P := Tryd.prog) w .add 22 .f32 _ _ _ h2
  have r3 := fun w => run_float_arith (P := Tryd.prog) w .sub 22 .f32 _ _ _ h3
  have r4 := fun w => run_float_arith (P := Tryd.prog) w .sub 22 .f32 _ _ _ h4
  rcases leW_cases h5 with ⟨a1, a2⟩ | ⟨a1, a2⟩ <;> rcases leW_cases h6 with ⟨b1, b2⟩ | ⟨b1, b2⟩ <;> clear h h1 h2 h3 h4 h5 h6
  all_goals
    go_enter Tryd.func27, Tryd.ntmps27
    go_wp2
    go_ret
    exact ⟨rfl, rfl⟩

theorem sSameNum (a b : Nat) (ha : a < 4294967296) (hb : b < 4294967296) (w : World) : Calls Tryd.prog 33 #[.float .f32 a, .float .f32 b] w fun e w' => e = .returned (.bool (sameB a b)) ∧ w = w' := by
  have Ha := hid ha
  have Hb := hid hb
  clear ha hb
  go_enter Tryd.func33, Tryd.ntmps33
  go_wp2_with fail
  refine (sSame a b Ha.out Hb.out _).mono ?_
  rintro e w1 ⟨rfl, rfl⟩
  go_wp2
  go_ret
  exact ⟨rfl, rfl⟩

theorem iSameNum (a b : Nat) (ha : a < 4294967296) (hb : b < 4294967296) (w : World) : Calls Tryd.prog 32 #[.float .f32 a, .float .f32 b] w fun e w' => e = .returned (.bool (sameB a b)) ∧ Below w.heap.size w w' := by
  have Ha := hid ha
  have Hb := hid hb
  have hq := hid (sameB_nb a b)
  clear ha hb
  go_enter Tryd.func32, Tryd.ntmps32
  go_wp2_with fail
  refine (iBits a Ha.out _).mono ?_
  rintro e w1 ⟨rfl, hb1⟩
  go_wp2_with fail
  refine (iBits b Hb.out _).mono ?_
  rintro e w2 ⟨rfl, hb2⟩
  go_wp2
  go_ret
  exact ⟨by simp [hq.out], stp hb1 (Nat.le_refl _) hb2⟩

theorem nb_nb (a : Nat) : nb (nb a) = nb a := by
  have hc : nanB 2143289344 = true := by decide
  cases h : nanB a
  · have : nb a = a := by unfold nb; rw [h]; rfl
    rw [this, this]
  · have : nb a = 2143289344 := by unfold nb; rw [h]; rfl
    rw [this]; unfold nb; rw [hc]; rfl

theorem same_nb (a : Nat) : sameB (nb a) a = true := by
  rw [← sameB_nb, nb_nb]
  exact beq_self_eq_true _

/-- What the library's variables must hold for a number to be written and read. -/
def Lng0 (w : World) : Prop := Tab64 w ∧ (∃ ev, w.cell? ⟨1, 0, none⟩ = some ev ∧ (ev = .nilIface ∨ ∃ te pe, ev = .iface te pe))

theorem Lng0.stay {w w' : World} (h : Lng0 w) (k : Below w.heap.size w w') : Lng0 w' := by
  obtain ⟨h1, ⟨ev, h2, h3⟩⟩ := h
  exact ⟨h1.stay k, ⟨ev, by rw [k.cell (block_lt_of_cell h2)]; exact h2, h3⟩⟩

theorem rdTx (a : Nat) (ha : a < 4294967296) (W : World) (hL : Lng0 W) :
    Calls Tryd.prog 30 #[.string (txN a)] W fun e w' => e = .returned (.tuple #[.float .f32 (nb a), .int .i64 0]) ∧ Below W.heap.size W w' := by
  have hs := txN_size a
  obtain ⟨hx, hv⟩ := tx_hex (n := nb a) (s := txN a) (nb_lt ha) rfl
  have hp := (hex_P 8 hx).1
  have he := (hex_P 8 hx).2
  have := iRead8 (txN a) hs hp true (decide_eq_true ((rd_same hs hp).2 ⟨hx, by rw [hv, nb_nb]⟩)) W hL.1
  rw [he, hv] at this
  simpa only [if_true] using this

set_option maxRecDepth 100000 in
set_option maxHeartbeats 4000000 in
theorem lawClasses (v : Value) (n : Nat) (x : Nat → Int) {w : World} (hs : RdV w v n (byV x)) (hx : Bytes8 n x) (hL : Lng0 w) :
    Calls Tryd.prog 6 #[v] w fun e w' => e = .returned (.bool true) ∧ Below w.heap.size w w' := by
  have RD := hid hs
  have L0 := hid hL
  have AN := hid (fun W (hW : RdV W v n (byV x)) => lA2Any v n x W hW hx)
  have AT := hid (fun W (hW : RdV W v n (byV x)) => lA2At v n x W hW hx 0 20 (by omega) (by omega))
  obtain ⟨b, hb⟩ : ∃ b : Bool, b = true ↔ (3000 < n ∨ 3000 < n) := by
    by_cases h : 3000 < n
    · exact ⟨true, fun _ => .inl h, fun _ => rfl⟩
    · exact ⟨false, (fun e => by cases e), (fun e => by rcases e with e | e <;> exact absurd e h)⟩
  have LG := hid (lA2Long v v n n x x w hs hs b hb)
  clear hs hx hL hb
  go_enter Tryd.func6, Tryd.ntmps6
  go_wp2_with fail
  refine LG.out.mono ?_
  rintro e u ⟨rfl, hb⟩
  have B := hid hb
  clear hb LG
  cases b
  · go_wp2_with fail
    refine (AT.out _ (RD.out.stay B.out)).mono ?_
    rintro e u ⟨⟨k, hk, rfl⟩, hb⟩
    have B := hid (stp B.out (Nat.le_refl _) hb)
    clear hb AT
    rcases k with _ | j
    · have hc := cls_at (k := 0) (by omega)
      obtain ⟨z1, z2⟩ := cls_0
      have o1 : (FloatKind.f32.format.order (mass 0) 1065353216 == some .eq) = true := by rw [z1]; decide
      have o2 : (FloatKind.f32.format.order (rad 0) 1065353216 == some .eq) = true := by rw [z2]; decide
      clear z1 z2
      simp only [clsB, Bool.and_eq_true, decide_eq_true_eq] at hc
      obtain ⟨⟨⟨⟨⟨⟨⟨⟨⟨⟨⟨⟨⟨c1, c2⟩, c3⟩, c4⟩, c5⟩, c6⟩, c7⟩, c8⟩, c9⟩, c10⟩, c11⟩, c12⟩, c13⟩, c14⟩ := hc
      have M1 := hid (fun W => iMassOf_ok 0 hk W)
      have M2 := hid (fun W => iEdgeOf_ok 0 hk W)
      have M3 := hid (fun W => iRadius 0 hk W)
      have M4 := hid (fun W => sRadius 0 hk W)
      have M5 := hid (fun W => iClassFor_ok (mass 0) c9 c11 W)
      have M6 := hid (fun W => iClassFor_ok (fmul 1069547520 (mass 0)) c10 c12 W)
      rw [c13] at M5
      rw [c14] at M6
      have M7 := hid (fun W => lNear3 (fmul (fmul (rad 0) (rad 0)) (rad 0)) (mass 0) (mass 0) c8 W)
      have M8 := hid (fun W => iThirdMass 0 hk W)
      have M11 := hid (fun W => iMassOf_bad 20 (by omega) W)
      have r1 := fun w => run_float_arith (P := Tryd.prog) w .quo 22 .f32 _ _ _ c1
      have r2 := fun w => run_float_arith (P := Tryd.prog) w .add 22 .f32 _ _ _ c2
      have r3 := fun w => run_float_arith (P := Tryd.prog) w .mul 22 .f32 _ _ _ c6
      have r4 := fun w => run_float_arith (P := Tryd.prog) w .mul 22 .f32 _ _ _ c7
      have M9 := hid (fun W => iMassOf_bad (-1) (by omega) W)
      have M10 := hid (fun W => iRadius_f (-1) (by omega) W)
      have d3 := beq_iff_eq.1 c3
      have d4 := beq_iff_eq.1 c4
      have d5 := beq_iff_eq.1 c5
      have d1 := beq_iff_eq.1 o1
      have d2 := beq_iff_eq.1 o2
      clear c1 c2 c6 c7 c8 c9 c10 c11 c12 c13 c14 hk
      generalize fdiv (mass 0) 1073741824 = h0 at *
      generalize fmul (fmul (rad 0) (rad 0)) (rad 0) = r30 at *
      generalize fmul (rad 0) (rad 0) = r20 at *
      generalize fmul 1069547520 (mass 0) = e0 at *
      generalize mass 0 = m at *
      generalize rad 0 = r at *
      go_wp2_with fail
      refine (M1.out _).mono ?_
      rintro e u ⟨rfl, hb⟩
      have B := hid (stp B.out (Nat.le_refl _) hb)
      clear hb
      go_wp2_with fail
      refine (M2.out _).mono ?_
      rintro e u ⟨rfl, hb⟩
      have B := hid (stp B.out (Nat.le_refl _) hb)
      clear hb
      go_wp2_with fail
      refine (M3.out _).mono ?_
      rintro e u ⟨rfl, rfl⟩
      go_wp2_with fail
      refine (M4.out _).mono ?_
      rintro e u ⟨rfl, rfl⟩
      go_wp2_with fail
      refine (M5.out _).mono ?_
      rintro e u ⟨rfl, rfl⟩
      go_wp2_with fail
      refine (M6.out _).mono ?_
      rintro e u ⟨rfl, rfl⟩
      go_wp2_with fail
      refine (M7.out _).mono ?_
      rintro e u ⟨rfl, rfl⟩
      go_wp2_with fail
      refine (M8.out _).mono ?_
      rintro e u ⟨rfl, rfl⟩
      go_wp2_with fail
      refine (M9.out _).mono ?_
      rintro e u ⟨rfl, hb⟩
      have B := hid (stp B.out (Nat.le_refl _) hb)
      clear hb
      go_wp2_with fail
      refine (M10.out _).mono ?_
      rintro e u ⟨rfl, rfl⟩
      go_wp2_with fail
      refine (M11.out _).mono ?_
      rintro e u ⟨rfl, hb⟩
      have B := hid (stp B.out (Nat.le_refl _) hb)
      clear hb
      go_wp2_with fail
      refine ((AN.out _ (RD.out.stay B.out))).mono ?_
      rintro e u ⟨⟨a, ha, rfl⟩, hb⟩
      have B := hid (stp B.out (Nat.le_refl _) hb)
      have M12 := hid (fun W hW => iNumberText a ha W hW)
      have M13 := hid (fun W hW => rdTx a ha W hW)
      have M14 := hid (fun W => iSameNum (nb a) a (nb_lt ha) ha W)
      have M15 := hid (fun W => sSameNum (nb a) a (nb_lt ha) ha W)
      rw [same_nb a] at M14 M15
      generalize nb a = na at *
      generalize txN a = ta at *
      clear hb ha AN
      go_wp2_with fail
      refine (M12.out _ (L0.out.stay B.out).1).mono ?_
      rintro e u ⟨rfl, hb⟩
      have B := hid (stp B.out (Nat.le_refl _) hb)
      clear hb
      go_wp2_with fail
      refine (M13.out _ (L0.out.stay B.out)).mono ?_
      rintro e u ⟨rfl, hb⟩
      have B := hid (stp B.out (Nat.le_refl _) hb)
      clear hb
      go_wp2_with fail
      refine (M14.out _).mono ?_
      rintro e u ⟨rfl, hb⟩
      have B := hid (stp B.out (Nat.le_refl _) hb)
      clear hb
      go_wp2_with fail
      refine (M15.out _).mono ?_
      rintro e u ⟨rfl, rfl⟩
      go_wp2
      go_ret
      exact ⟨rfl, B.out⟩
    · have hc := cls_at (k := j + 1) hk
      have hu := clsU_at (k := j) (by omega)
      simp only [clsU, Bool.and_eq_true, decide_eq_true_eq] at hu
      obtain ⟨u1, u2⟩ := hu
      simp only [clsB, Bool.and_eq_true, decide_eq_true_eq] at hc
      obtain ⟨⟨⟨⟨⟨⟨⟨⟨⟨⟨⟨⟨⟨c1, c2⟩, c3⟩, c4⟩, c5⟩, c6⟩, c7⟩, c8⟩, c9⟩, c10⟩, c11⟩, c12⟩, c13⟩, c14⟩ := hc
      have M1 := hid (fun W => iMassOf_ok (j + 1) hk W)
      have M2 := hid (fun W => iEdgeOf_ok (j + 1) hk W)
      have M3 := hid (fun W => iRadius (j + 1) hk W)
      have M4 := hid (fun W => sRadius (j + 1) hk W)
      have M5 := hid (fun W => iClassFor_ok (mass (j + 1)) c9 c11 W)
      have M6 := hid (fun W => iClassFor_ok (fmul 1069547520 (mass (j + 1))) c10 c12 W)
      rw [c13] at M5
      rw [c14] at M6
      have M7 := hid (fun W => lNear3 (fmul (fmul (rad (j + 1)) (rad (j + 1))) (rad (j + 1))) (mass (j + 1)) (mass (j + 1)) c8 W)
      have M8 := hid (fun W => iThirdMass (j + 1) hk W)
      have M11 := hid (fun W => iMassOf_bad 20 (by omega) W)
      have r1 := fun w => run_float_arith (P := Tryd.prog) w .quo 22 .f32 _ _ _ c1
      have r2 := fun w => run_float_arith (P := Tryd.prog) w .add 22 .f32 _ _ _ c2
      have r3 := fun w => run_float_arith (P := Tryd.prog) w .mul 22 .f32 _ _ _ c6
      have r4 := fun w => run_float_arith (P := Tryd.prog) w .mul 22 .f32 _ _ _ c7
      have M9 := hid (fun W => iMassOf_ok j (by omega) W)
      have M10 := hid (fun W => iRadius j (by omega) W)
      have r5 := fun w => run_float_arith (P := Tryd.prog) w .mul 22 .f32 _ _ _ u1
      have hwj : wrap64 (((j + 1 : Nat) : Int) - 1) = (j : Int) := by unfold wrap64; omega
      have hwj3 : wrap64 (j : Int) = (j : Int) := by unfold wrap64; omega
      have hwj2 : wrap64 ((j : Int) + 1 - 1) = (j : Int) := by unfold wrap64; omega
      have hj0 : ¬ (((j + 1 : Nat) : Int) = 0) := by omega
      have hj1 : ¬ ((j : Int) + 1 = 0) := by omega
      generalize mass j = m0 at *
      generalize rad j = rr0 at *
      have d3 := beq_iff_eq.1 c3
      have d4 := beq_iff_eq.1 c4
      have d5 := beq_iff_eq.1 c5
      clear c1 c2 c6 c7 c8 c9 c10 c11 c12 c13 c14 hk u1
      generalize fdiv (mass (j + 1)) 1073741824 = h0 at *
      generalize fmul (fmul (rad (j + 1)) (rad (j + 1))) (rad (j + 1)) = r30 at *
      generalize fmul (rad (j + 1)) (rad (j + 1)) = r20 at *
      generalize fmul 1069547520 (mass (j + 1)) = e0 at *
      generalize mass (j + 1) = m at *
      generalize rad (j + 1) = r at *
      go_wp2_with fail
      refine (M1.out _).mono ?_
      rintro e u ⟨rfl, hb⟩
      have B := hid (stp B.out (Nat.le_refl _) hb)
      clear hb
      go_wp2_with fail
      refine (M2.out _).mono ?_
      rintro e u ⟨rfl, hb⟩
      have B := hid (stp B.out (Nat.le_refl _) hb)
      clear hb
      go_wp2_with fail
      refine (M3.out _).mono ?_
      rintro e u ⟨rfl, rfl⟩
      go_wp2_with fail
      refine (M4.out _).mono ?_
      rintro e u ⟨rfl, rfl⟩
      go_wp2_with fail
      refine (M5.out _).mono ?_
      rintro e u ⟨rfl, rfl⟩
      go_wp2_with fail
      refine (M6.out _).mono ?_
      rintro e u ⟨rfl, rfl⟩
      go_wp2_with fail
      refine (M7.out _).mono ?_
      rintro e u ⟨rfl, rfl⟩
      go_wp2_with fail
      refine (M8.out _).mono ?_
      rintro e u ⟨rfl, rfl⟩
      go_wp2_with fail
      refine (M9.out _).mono ?_
      rintro e u ⟨rfl, hb⟩
      have B := hid (stp B.out (Nat.le_refl _) hb)
      clear hb
      go_wp2_with fail
      refine (M10.out _).mono ?_
      rintro e u ⟨rfl, rfl⟩
      go_wp2_with fail
      refine (M11.out _).mono ?_
      rintro e u ⟨rfl, hb⟩
      have B := hid (stp B.out (Nat.le_refl _) hb)
      clear hb
      go_wp2_with fail
      refine ((AN.out _ (RD.out.stay B.out))).mono ?_
      rintro e u ⟨⟨a, ha, rfl⟩, hb⟩
      have B := hid (stp B.out (Nat.le_refl _) hb)
      have M12 := hid (fun W hW => iNumberText a ha W hW)
      have M13 := hid (fun W hW => rdTx a ha W hW)
      have M14 := hid (fun W => iSameNum (nb a) a (nb_lt ha) ha W)
      have M15 := hid (fun W => sSameNum (nb a) a (nb_lt ha) ha W)
      rw [same_nb a] at M14 M15
      generalize nb a = na at *
      generalize txN a = ta at *
      clear hb ha AN
      go_wp2_with fail
      refine (M12.out _ (L0.out.stay B.out).1).mono ?_
      rintro e u ⟨rfl, hb⟩
      have B := hid (stp B.out (Nat.le_refl _) hb)
      clear hb
      go_wp2_with fail
      refine (M13.out _ (L0.out.stay B.out)).mono ?_
      rintro e u ⟨rfl, hb⟩
      have B := hid (stp B.out (Nat.le_refl _) hb)
      clear hb
      go_wp2_with fail
      refine (M14.out _).mono ?_
      rintro e u ⟨rfl, hb⟩
      have B := hid (stp B.out (Nat.le_refl _) hb)
      clear hb
      go_wp2_with fail
      refine (M15.out _).mono ?_
      rintro e u ⟨rfl, rfl⟩
      go_wp2
      go_ret
      exact ⟨rfl, B.out⟩
  · go_wp2
    go_ret
    exact ⟨rfl, B.out⟩

theorem gESc : Tryd.prog.globalNamed "strconv.ErrSyntax" = some 1 := by kernel_rfl

theorem gESTypec : (Tryd.prog.globals[1]?).map (·.type) = some 106 := by kernel_rfl

theorem cellsESc : Tryd.prog.cellsOf 231 = 1 := by kernel_rfl

theorem cellsStrc : Tryd.prog.cellsOf 9 = 1 := by kernel_rfl

theorem starEc : "*" ++ "errors.errorString" = "*errors.errorString" := by decide

theorem rowESc (u : TypeId) (h : Tryd.prog.typeName? 3 u = some "*errors.errorString") : u = 229 :=
  typeName_ptr_named (nm := "errors.errorString") (by rw [starEc]; kernel_rfl) (by kernel_rfl) (by decide) u (by rw [starEc]; exact h)

theorem cellsU8 : Tryd.prog.cellsOf 5 = 1 := by kernel_rfl

theorem lng0_of {W : World} (h : laidMetH Tryd.prog Rows.fnClassesRow.laid W) (_hsh : W.ShapedOpen Tryd.prog) : Lng0 W := by
  rw [MakeChecks.laidMetH_plain _ _ _ (by kernel_rfl)] at h
  have h2 : laidMet Tryd.prog (("math/bits.deBruijn64tab", Lib.tabData .u8 tz64) :: [("internal/strconv.uint64pow10", Rows.laid_internal_strconv_uint64pow10), ("strconv.ErrRange", Rows.laid_strconv_ErrRange), ("strconv.ErrSyntax", Rows.laid_strconv_ErrSyntax)]) W := laidMet.tail h
  have hT := Lib.tabIs_of_head (g := 8) (t := 239) (e := 5) (by kernel_rfl) (by kernel_rfl) Tryd.underlying239 Tryd.underlying5 (by kernel_rfl) (by kernel_rfl) h2
  have ht : Tab64 W := hT.cell (by kernel_rfl) 15 (by decide)
  have h5 : laidMet Tryd.prog [("strconv.ErrSyntax", Rows.laid_strconv_ErrSyntax)] W := laidMet.tail (laidMet.tail (laidMet.tail h2))
  obtain ⟨a0, s0, hv0, -, -, -⟩ := laid_sentinel h5 gESc gESTypec Tryd.underlying106 rowESc Tryd.underlying229 Tryd.underlying231 rfl rfl Tryd.underlying9 cellsESc cellsStrc
  exact ⟨ht, ⟨_, by have h0 := World.var?_cell gESc hv0 0; simpa using h0, Or.inr ⟨_, _, rfl⟩⟩⟩

theorem wit_met0 (os : Os) (args : Array Value) : laidMetH Tryd.prog Rows.fnClassesRow.laid ((World.laidAll Tryd.prog os Rows.fnClassesRow.laid).forCall (fun _ _ => 0) ⟨#[], args, []⟩).memory := by
  rw [MakeChecks.laidMetH_plain _ _ _ (by kernel_rfl)]
  exact laidMet_laidAll _ (by kernel_rfl) (by kernel_rfl)
end Go.Proofs.YtbbdnmhoagojdaaDoor

namespace Go.Proofs.YtbbdnmhoagojdaaDoor.fnClasses
open Go.RowKit Go.Fl Go.ChangeShapes Go.WideShapes Go.ChangeAt

set_option maxHeartbeats 2000000 in
theorem closed : joinedFacts Tryd.prog 6 Tryd.f6 Rows.fnClassesSpec Rows.fnClassesRow = true := by
  unfold joinedFacts
  simp only [Bool.and_eq_true]
  exact ⟨⟨⟨⟨⟨⟨⟨⟨⟨⟨⟨⟨⟨⟨⟨⟨⟨⟨⟨⟨⟨⟨⟨⟨⟨⟨⟨⟨⟨⟨⟨(by as_aux_lemma => kernel_rfl),
    laid⟩,
    rowed⟩,
    (by as_aux_lemma => kernel_rfl)⟩,
    (by as_aux_lemma => kernel_rfl)⟩,
    (by as_aux_lemma => kernel_rfl)⟩,
    (by rw [no_stops]; rfl)⟩,
    (by as_aux_lemma => kernel_rfl)⟩,
    (by rw [no_knobs]; rfl)⟩,
    (by as_aux_lemma => kernel_rfl)⟩,
    (by as_aux_lemma => kernel_rfl)⟩,
    (by as_aux_lemma => kernel_rfl)⟩,
    (by as_aux_lemma => kernel_rfl)⟩,
    (by as_aux_lemma => kernel_rfl)⟩,
    (by as_aux_lemma => kernel_rfl)⟩,
    (by as_aux_lemma => kernel_rfl)⟩,
    (by as_aux_lemma => kernel_rfl)⟩,
    (by as_aux_lemma => kernel_rfl)⟩,
    (by as_aux_lemma => kernel_rfl)⟩,
    (by as_aux_lemma => kernel_rfl)⟩,
    (by as_aux_lemma => kernel_rfl)⟩,
    (by as_aux_lemma => kernel_rfl)⟩,
    (show (Rows.fnClassesRow.plainKeys == Tryd.prog.plainKeys) = true by rw [plain_keys]; rfl)⟩,
    (by as_aux_lemma => kernel_rfl)⟩,
    stops_heard⟩,
    may_enter⟩,
    (show (Rows.fnClassesRow.lifted == Tryd.prog.liftsFinal) = true by rw [lifts_final]; rfl)⟩,
    (show (Tryd.prog.make == some Rows.fnClassesRow.make) = true by rw [made]; rfl)⟩,
    (by as_aux_lemma => kernel_rfl)⟩,
    (by as_aux_lemma => kernel_rfl)⟩,
    (by as_aux_lemma => kernel_rfl)⟩,
    (by as_aux_lemma => kernel_rfl)⟩

theorem rdy : Tryd.prog.readableRec 39 = true ∧ 39 < Tryd.prog.types.size := ⟨by kernel_rfl, of_decide_eq_true (by kernel_rfl)⟩
set_option maxRecDepth 100000 in
theorem lifted (os : Os) (started : os.Started) (H : Type) (enc : TypeId × Value → H) :
    ReturnsInHanded {} Tryd.checked os 6 .any (fun w args => (Rows.fnClassesSpec.pre enc Tryd.prog Tryd.f6 Rows.fnClassesRow.domain false w args ∧ laidMetH Tryd.prog Rows.fnClassesRow.laid w) ∧ sizedMet enc Tryd.prog Tryd.f6 (OpenSpec.ofChange Rows.fnClassesSpec) false w args) (Rows.fnClassesSpec.post enc Tryd.prog Tryd.f6 false true false false) := by
  refine LawFrame.lifted_shaped (C := Tryd.checked) (fn := Tryd.f6) (n := 1) (tb := 4) (laidL := Rows.fnClassesRow.laid) started own (by kernel_rfl) Tryd.func6 laid ?_ rfl ?_ rfl Tryd.underlying4 ?_
    (ChangeSpec.witness_shaped (enc := enc) (C := Tryd.checked) (os := os) (X := fun w _ => laidMetH Tryd.prog Rows.fnClassesRow.laid w) false (World.laidAll Tryd.prog os Rows.fnClassesRow.laid) #[.slice none 0 0] 8 (World.laidAll_os _ _ _) (World.shaped_of_ZipB (by kernel_rfl) (by kernel_rfl)) (by kernel_rfl) (by kernel_rfl) (by kernel_rfl) (wit_met0 os _)) ?_
  · intro t ht
    simp only [Tryd.params6, List.mem_cons, List.not_mem_nil, or_false] at ht
    subst ht; exact rdy
  · intro ds gs hd hg
    match ds, gs, hd, hg with
    | [d0], [], _, _ => rfl
  · intro W hL
    exact ⟨[], trivial⟩
  · intro W base args ds ps hval hn hT hL hsh
    obtain ⟨v0, rfl⟩ : ∃ v0, args = #[v0] := arr1 hn
    have ht := lng0_of hL hsh
    simp only [Tryd.params6] at hT
    obtain ⟨d0, p0, t0⟩ := trodAll_head hT
    obtain ⟨n0, x0, R0, M0, X0⟩ := open_u8s Tryd.underlying39 Tryd.underlying5 cellsU8 t0 (open_sl Tryd.underlying39 (hval 0 39 v0 rfl rfl))
    exact lawClasses v0 n0 x0 R0 X0 ht

theorem over : Rows.fnClassesRow.holds Tryd.pinned (OpenSpec.ofChange Rows.fnClassesSpec) :=
  OpenClaim.holds_of_wide 6 Tryd.f6 rfl rfl rfl rfl rfl rfl rfl ⟨rfl, rfl, rfl, rfl, rfl⟩ rfl rfl rfl rfl rfl (by kernel_rfl) Tryd.func6 closed
    (of_decide_eq_true (by kernel_rfl)) (by unfold Func.isWrapper; rw [if_neg (by decide +kernel)]; exact ⟨rfl, rfl⟩)
    (fun os started H enc _ => lifted os started H enc)

theorem named : Tryd.prog.funcNamed "loop.example/g01224/laws.FnClasses" = some 6 := by kernel_rfl
theorem c_wf : Rows.fnClassesRow.wfByText (OpenSpec.ofChange Rows.fnClassesSpec) = true := by kernel_rfl
theorem c_main : Tryd.pinned.checked.prog.mainIs = some (true, "61897a0a5ea995214c5e1fa2fc9ece6a2b2193e817fa77bc0a27a8d612ef745e".toList) := by kernel_rfl
theorem c_looks : true = Tryd.pinned.checked.prog.looks [] := by kernel_rfl
theorem c_goes : false = Rows.fnClassesRow.goesBy Tryd.pinned.checked.prog := by kernel_rfl
theorem proved : Rows.FnClassesCardSaid :=
  Claim7.holds_tied_plain_at .later [] [.data, .data, .data, .sentinel, .sentinel] true (true, "61897a0a5ea995214c5e1fa2fc9ece6a2b2193e817fa77bc0a27a8d612ef745e") true
    over (fun _ h => by cases h) c_wf (fun _ h => by cases h) fnClasses_row_tie rfl ⟨rfl, rfl⟩ c_main rfl
    (fun f fn hf hfn => by
      obtain rfl : f = 6 := Option.some.inj (named.symm.trans hf) |>.symm
      obtain rfl : fn = Tryd.f6 := (Option.some.inj (Tryd.func6.symm.trans hfn)).symm
      exact ⟨c_looks, fun j t ht => by
        have hm := Array.mem_of_getElem? ht
        rw [Tryd.params6] at hm
        simp only [List.mem_toArray, List.mem_cons, List.not_mem_nil, or_false] at hm
        subst hm; exact (show Tryd.prog.wantsStandIn 39 = false by kernel_rfl)⟩)
    c_goes
#print axioms proved
end Go.Proofs.YtbbdnmhoagojdaaDoor.fnClasses
