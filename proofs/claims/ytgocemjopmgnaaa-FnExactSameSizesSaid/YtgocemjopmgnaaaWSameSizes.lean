import Derived.Test.YtgocemjopmgnaaaBSameSizes
import Derived.Test.YtgocemjopmgnaaaChecked
import Derived.Test.YtgocemjopmgnaaaRows
import Derived.Laws.FloatArith
import Derived.ProofKit
import Derived.WalkKit
import Derived.WalkLawsBesides
import Derived.WalkSpells
import Derived.Deep.QuietTactic
import Derived.BigQuiet
import Derived.Deep.RegionHeld3
import Derived.ChangeKeysEq
import Derived.OpenShut
/- The law FnExactSameSizes of chapter 1: at every argument the call returns true, and what was there before it is as it was. -/
namespace Go.Proofs.Ytgocemjopmgnaaa
open Go.RowKit Go.Fl

@[go_sem] theorem ext_f64bits (y : Nat) (w : World) : (callFunc 169 #[.float .f64 y]).run Try.prog w = .ok (.value (.int .u64 y)) w := by
  rw [run_callFunc_extern Try.func169 (by kernel_rfl) (by kernel_rfl) (by kernel_rfl) (e := Extern.MathFloatBits.float64bits) (by kernel_rfl)]
  rfl

@[go_sem] theorem ext_f64from (n : Int) (w : World) : (callFunc 177 #[.int .u64 n]).run Try.prog w = .ok (.value (.float .f64 n.toNat)) w := by
  rw [run_callFunc_extern Try.func177 (by kernel_rfl) (by kernel_rfl) (by kernel_rfl) (e := Extern.MathFloatBits.float64frombits) (by kernel_rfl)]
  rfl

theorem hid {p : Prop} (h : p) : Hid p := h

theorem isNaN_f64 (y : Nat) (w : World) :
    Calls Try.prog 155 #[.float .f64 y] w fun e w' => e = .returned (.bool (FloatKind.f64.format.order y y != some .eq)) ∧ w = w' := by
  go_enter Try.func155, Try.ntmps155
  go_wp2
  go_ret
  exact ⟨rfl, rfl⟩

theorem info_f32 : ∃ i, Try.prog.info? 24 = some i ∧ i.size = 1 := by
  have h : (Try.prog.info? 24).map (·.size) = some 1 := by kernel_rfl
  cases hi : Try.prog.info? 24 with
  | none => rw [hi] at h; cases h
  | some i => rw [hi] at h; exact ⟨i, rfl, Option.some.inj h⟩

theorem ix (T : TypeId) (hT : Try.prog.underlying T = some (.array 20 24)) (c : Nat → Nat) (k : Nat) (hk : k < 20) (w : World) :
    (Instr.index T (.agg (fls c)) (.int .i64 (k : Int))).run Try.prog w = .ok (.float .f32 (c k)) w := by
  obtain ⟨i, h1, h2⟩ := info_f32
  exact run_index_arr hT Try.underlying24 rfl h1 h2 _ _ hk _ (fls_get c hk) w

theorem info_arr : (Try.prog.info? 26).map (·.size) = some 20 := by kernel_rfl

@[go_sem] theorem ext_f32bits (y : Nat) (w : World) : (callFunc 159 #[.float .f32 y]).run Try.prog w = .ok (.value (.int .u32 y)) w := by
  rw [run_callFunc_extern Try.func159 (by kernel_rfl) (by kernel_rfl) (by kernel_rfl) (e := Extern.MathFloatBits.float32bits) (by kernel_rfl)]
  rfl

theorem info_a20 : (Try.prog.info? 25).map (·.size) = some 20 := by kernel_rfl

set_option maxRecDepth 100000 in
theorem toSizes (c : Nat → Nat) (w : World) :
    Calls Try.prog 58 #[.agg (fls c)] w fun e w' => e = .returned (.agg (fls c)) ∧ Below w.heap.size w w' := by
  have b0 : Below w.heap.size w (w.alloc (.cells (fls c) 25)) := (Below.refl _ _).alloc (Nat.le_refl _) _
  have a0 := hid (arrAt.new w c 25)
  go_enter Try.func58, Try.ntmps58
  go_wp2
  go_loopw [4] (fun i wr => ∃ k : Nat, k ≤ 20 ∧ i = .int .i64 k ∧ Hid (arrAt wr w.heap.size c 25) ∧ Hid (arrAt wr (w.heap.size + 1) (fun _ => 0) 26) ∧ Hid (arrAt wr (w.heap.size + 1 + 1) (cut c k) 26) ∧ Hid (Below w.heap.size w wr)) (fun i _ => 20 - (intOf i).toNat)
  case atStart =>
    refine ⟨0, by omega, rfl, hid ((a0.out.alloc _).alloc _), hid ?_, hid ?_, hid ((b0.alloc (by simp) _).alloc (by simp; omega) _)⟩
    · have := arrAt.new (w.alloc (.cells (fls c) 25)) (fun _ => 0) 26
      have e : (w.alloc (.cells (fls c) 25)).heap.size = w.heap.size + 1 := by simp
      rw [e] at this
      exact this.alloc _
    · have := arrAt.new ((w.alloc (.cells (fls c) 25)).alloc (.cells (fls fun _ => 0) 26)) (fun _ => 0) 26
      have e : ((w.alloc (.cells (fls c) 25)).alloc (.cells (fls fun _ => 0) 26)).heap.size = w.heap.size + 1 + 1 := by simp
      rw [e] at this
      exact this.ext (fun i _ => (cut_zero' c i).symm)
  case round =>
    obtain ⟨k, hk, rfl, h0, h1, h2, hb⟩ := hrel
    by_cases hlt : k < 20
    · have q0 := h0.out.cell hlt
      have q2 := h2.out.cell hlt
      have f2 := h2.out.frozen k
      go_wp2
      go_roundw
      case rel => exact ⟨k + 1, by omega, by go_num, hid (h0.out.setOther (by simp; omega) _), hid (h1.out.setOther (by simp) _), hid ((h2.out.set k (c k)).ext (fun i _ => cut_succ c k i)), hid (hb.out.setCell (by simp; omega) _)⟩
      case measure => simp [intOf]; omega
    · obtain rfl : k = 20 := by omega
      have h2' := hid (h2.out.ext (cut_all c))
      clear h2
      go_wp2_with (first | (refine wpList_load_row rfl 26 _ rfl (w.heap.size + 1 + 1) rfl 26 (fls c) (0, 0) _ h2'.out Try.underlying26 rfl (by rw [fls_size]; exact info_arr) ?_) | (refine wpList_store_row rfl 26 _ _ rfl (w.heap.size + 1) (fls c) rfl rfl 26 _ h1.out (by rw [fls_size]; exact info_arr) (by simp) (fls_one c) ?_))
      exact bodyPost_ret (results_cell_row rfl _ _ (w.heap.size + 1) 26 (fls c) (0, 0) _ rfl (h1.out.setRow c) Try.underlying26 rfl (by rw [fls_size]; exact info_arr)) rfl ⟨rfl, below_row hb.out (by omega) _⟩

theorem back {P : Program} {f : FuncId} {args : Array Value} {w : World} {v : Value} (h : Calls P f args w fun e w' => e = .returned v ∧ w = w') : Calls P f args w fun e w' => e = .returned v ∧ w' = w :=
  h.mono fun _ _ ⟨a, b⟩ => ⟨a, b.symm⟩

theorem sSame (a b : Nat) (ha : a < 4294967296) (hb : b < 4294967296) (w : World) :
    Calls Try.prog 157 #[.float .f32 a, .float .f32 b] w fun e w' => e = .returned (.bool (sameB a b)) ∧ w = w' := by
  have n1 := neq_self a ha
  have n2 := neq_self b hb
  have hq : ((a : Int) == (b : Int)) = decide (a = b) := by
    by_cases e : a = b
    · subst e; simp
    · simp [e]; omega
  have hs : sameB a b = if (nanB a || nanB b) = true then nanB a && nanB b else decide (a = b) := rfl
  have Hs := hid hs
  have Hq := hid hq
  clear ha hb hs hq
  rcases h1 : nanB a with _ | _ <;> rcases h2 : nanB b with _ | _ <;> rw [h1] at n1 <;> rw [h2] at n2 <;> rw [Hs.out, h1, h2] <;> clear Hs h1 h2
  · go_enter Try.func157, Try.ntmps157
    go_wp2
    go_ret
    exact ⟨by simp [← Hq.out], rfl⟩
  · go_enter Try.func157, Try.ntmps157
    go_wp2
    go_ret
    exact ⟨by simp, rfl⟩
  · go_enter Try.func157, Try.ntmps157
    go_wp2
    go_ret
    exact ⟨by simp, rfl⟩
  · go_enter Try.func157, Try.ntmps157
    go_wp2
    go_ret
    exact ⟨by simp, rfl⟩

theorem iBits (x : Nat) (hx : x < 4294967296) (w : World) :
    Calls Try.prog 164 #[.float .f32 x] w fun e w' => e = .returned (.int .u32 (nb x : Int)) ∧ Below w.heap.size w w' := by
  have hnb : nb x = if nanB x = true then 2143289344 else x := rfl
  rcases hn : nanB x with _ | _
  · have hle : mg x ≤ INF := by simpa [nanB] using hn
    rw [hn] at hnb
    have Hnb := hid hnb
    rcases Nat.lt_or_eq_of_le hle with h | h
    · have hc := fun w => run_conv_wid (P := Try.prog) w 24 62 x hx Try.underlying24 Try.underlying62 h
      obtain ⟨_, _, m, e, hr⟩ := read_wid_fin hx h
      have Hn := hid (show (FloatKind.f64.format.order (wid x) (wid x) != some .eq) = false by
        show (D.order (wid x) (wid x) != some .eq) = false
        rw [order_self hr]; rfl)
      clear hnb hn hle h hr hx
      go_enter Try.func164, Try.ntmps164
      go_wp2_with (go_at_call 155; refine (isNaN_f64 (wid x) _).mono ?_; rintro e w' ⟨rfl, rfl⟩; rw [Hn.out])
      go_ret
      exact ⟨by rw [Hnb.out]; simp, Below.refl _ _⟩
    · obtain ⟨z, hc, h1, h2⟩ := run_conv_inf (P := Try.prog) w 24 62 x hx Try.underlying24 Try.underlying62 h
      have hr : D.read z = .infinity (decide (9223372036854775808 ≤ z)) := by rw [read_signD h2, h1, read_DINF]
      have Hn := hid (show (FloatKind.f64.format.order z z != some .eq) = false by
        show (D.order z z != some .eq) = false
        rw [order_inf hr]; rfl)
      clear hnb hn hle h hr hx h1 h2
      go_enter Try.func164, Try.ntmps164
      go_wp2_with (go_at_call 155; refine (isNaN_f64 z _).mono ?_; rintro e w' ⟨rfl, rfl⟩; rw [Hn.out])
      go_ret
      exact ⟨by rw [Hnb.out]; simp, Below.refl _ _⟩
  · have h : INF < mg x := by simpa [nanB] using hn
    rw [hn] at hnb
    have Hnb := hid hnb
    obtain ⟨z, hc, h1, _⟩ := run_conv_nan (P := Try.prog) w 24 62 x Try.underlying24 Try.underlying62 h
    obtain ⟨s, t, hr⟩ := read_nanD h1
    have Hn := hid (show (FloatKind.f64.format.order z z != some .eq) = true by
      show (D.order z z != some .eq) = true
      rw [order_nan hr]; rfl)
    clear hnb hn h hr hx h1
    go_enter Try.func164, Try.ntmps164
    go_wp2_with (go_at_call 155; refine (isNaN_f64 z _).mono ?_; rintro e w' ⟨rfl, rfl⟩; rw [Hn.out])
    go_ret
    exact ⟨by rw [Hnb.out]; simp, (Below.refl _ _).drew⟩

theorem run_toSizes1 (a : Act) (x0 : Operand) (v0 : Value) (h0 : a.eval x0 = v0) (d : Option Tmp) (ats : Array TypeId) (t : TypeId) (ps : String) (af : Array Edge) (gd : Option (Nat × Bool)) (w : World) :
    (execOp a.eval ⟨d, .call { callee := .value (.func 58), args := #[x0], argTypes := ats }, t, ps, af, gd⟩).run Try.prog w = .ok (.enter 58 #[v0]) w := by
  subst h0
  unfold execOp
  go_simp

def sameSz (c d : Nat → Nat) : Bool := (List.range 20).all fun i => sameB (c i) (d i)

theorem allEq_same (c d : Nat → Nat) : allEq (fun i => nb (c i)) (fun i => nb (d i)) (List.range 20) = sameSz c d := by
  unfold allEq sameSz
  congr 1
  funext i
  exact sameB_nb _ _

theorem sameSz_t {c d : Nat → Nat} (h : ∀ i, i < 20 → sameB (c i) (d i) = true) : sameSz c d = true := List.all_eq_true.2 fun i hi => h i (List.mem_range.1 hi)

theorem sameSz_f {c d : Nat → Nat} {k : Nat} (hk : k < 20) (h : sameB (c k) (d k) = false) : sameSz c d = false := by
  rw [Bool.eq_false_iff]
  intro ht
  have := List.all_eq_true.1 ht k (List.mem_range.2 hk)
  rw [h] at this; cases this

theorem sSame_is (a b : Nat) (ha : a < 4294967296) (hb : b < 4294967296) (q : Bool) (hq : sameB a b = q) (w : World) :
    Calls Try.prog 157 #[.float .f32 a, .float .f32 b] w fun e w' => e = .returned (.bool q) ∧ w = w' := hq ▸ sSame a b ha hb w

set_option maxRecDepth 100000 in
theorem sSameSizes (c d : Nat → Nat) (hc : ∀ i, i < 20 → c i < 4294967296) (hd : ∀ i, i < 20 → d i < 4294967296) (w : World) (g h : Nat) (T T' : TypeId) (hg : arrAt w g c T) (hh : arrAt w h d T') :
    Calls Try.prog 108 #[.pointer (some ⟨g, 0, none⟩), .pointer (some ⟨h, 0, none⟩)] w fun e w' => e = .returned (.bool (sameSz c d)) ∧ Below w.heap.size w w' := by
  have HC := hid hc
  have HD := hid hd
  have G0 := hid hg
  have G1 := hid hh
  clear hc hd hg hh
  go_enter Try.func108, Try.ntmps108
  go_wp2
  go_loopw [5] (fun i wr => ∃ k : Nat, k ≤ 20 ∧ i = .int .i64 k ∧ Hid (∀ i, i < k → sameB (c i) (d i) = true) ∧ Hid (arrAt wr g c T) ∧ Hid (arrAt wr h d T') ∧ Hid (Below w.heap.size w wr)) (fun i _ => 20 - (intOf i).toNat)
  case atStart => exact ⟨0, by omega, rfl, hid (fun i hi => by omega), G0, G1, hid (Below.refl _ _)⟩
  case round =>
    obtain ⟨k, hk, rfl, HK, h0, h1, hb⟩ := hrel
    by_cases hlt : k < 20
    · have q0 := h0.out.cell hlt
      have q1 := h1.out.cell hlt
      rcases hs : sameB (c k) (d k) with _ | _
      · have HS := hid hs
        clear hs
        go_wp2
        go_quiet ((go_at_call 157; exact Calls.quiet_of_same (back (sSame_is (c k) (d k) (HC.out k hlt) (HD.out k hlt) false HS.out _))))
        go_wp2
        go_ret
        exact ⟨by rw [sameSz_f hlt HS.out]; rfl, below_drewN hb.out _⟩
      · have HS := hid hs
        clear hs
        go_wp2
        go_quiet ((go_at_call 157; exact Calls.quiet_of_same (back (sSame_is (c k) (d k) (HC.out k hlt) (HD.out k hlt) true HS.out _))))
        go_wp2
        go_roundw
        case rel => exact ⟨k + 1, by omega, by go_num, hid (all_step HK.out HS.out), h0, h1, hid (below_drewN hb.out _)⟩
        case measure => simp [intOf]; omega
    · go_wp2
      go_ret
      exact ⟨by rw [sameSz_t (fun i hi => HK.out i (by omega))]; rfl, hb.out⟩

set_option maxRecDepth 100000 in
theorem sSameSizes_law (c d : Nat → Nat) (hc : ∀ i, i < 20 → c i < 4294967296) (hd : ∀ i, i < 20 → d i < 4294967296) (w : World) :
    Calls Try.prog 44 #[.agg (fls c), .agg (fls d)] w fun e w' => e = .returned (.bool (sameSz c d)) ∧ Below w.heap.size w w' := by
  have A0 := hid ((arrAt.new w c 26).alloc (.cells (fls d) 26))
  have A1 := hid (new1 w (.cells (fls c) 26) d 26)
  have b0 := boxed2 w (.cells (fls c) 26) (.cells (fls d) 26)
  have HC := hid hc
  have HD := hid hd
  clear hc hd
  go_enter Try.func44, Try.ntmps44
  go_wp2_with fail
  refine (sSameSizes c d HC.out HD.out _ w.heap.size (w.heap.size + 1) 26 26 A0.out A1.out).mono ?_
  rintro e w1 ⟨rfl, hb1⟩
  go_wp2
  go_ret
  exact ⟨rfl, stp b0 (Nat.le_refl _) hb1⟩

theorem info_u32 : ∃ i, Try.prog.info? 115 = some i ∧ i.size = 1 := by
  have h : (Try.prog.info? 115).map (·.size) = some 1 := by kernel_rfl
  cases hi : Try.prog.info? 115 with
  | none => rw [hi] at h; cases h
  | some i => rw [hi] at h; exact ⟨i, rfl, Option.some.inj h⟩

theorem info_u20 : (Try.prog.info? 116).map (·.size) = some 20 := by kernel_rfl

theorem eq_u20 (c d : Nat → Nat) (w : World) : (binOp .eql 116 (.agg (vls 20 (ilv c))) (.agg (vls 20 (ilv d)))).run Try.prog w = .ok (.bool (allEq c d (List.range 20))) w := by
  obtain ⟨i, h1, h2⟩ := info_u32
  exact run_eq_u32s Try.underlying116 Try.underlying115 h1 h2 (by kernel_rfl) c d w

set_option maxRecDepth 100000 in
theorem iBitsOfSizes (c : Nat → Nat) (hc : ∀ i, i < 20 → c i < 4294967296) (w : World) :
    Calls Try.prog 126 #[.agg (fls c)] w fun e w' => e = .returned (.agg (vls 20 (ilv fun i => nb (c i)))) ∧ Below w.heap.size w w' := by
  have A0 := hid (((arrAt.new w c 26).alloc (.cells (vls 20 fun _ => .int .u32 0) 116)).alloc (.cells (vls 20 fun _ => .int .u32 0) 116))
  have A1 := hid ((vAt.new1 w (.cells (fls c) 26) 20 (fun _ => .int .u32 0) 116).alloc (.cells (vls 20 fun _ => .int .u32 0) 116))
  have A2 := hid (vAt.new2 w (.cells (fls c) 26) (.cells (vls 20 fun _ => .int .u32 0) 116) 20 (fun _ => .int .u32 0) 116)
  have b0 := boxed3 w (.cells (fls c) 26) (.cells (vls 20 fun _ => .int .u32 0) 116) (.cells (vls 20 fun _ => .int .u32 0) 116)
  have HC := hid hc
  clear hc
  go_enter Try.func126, Try.ntmps126
  go_wp2_with (refine wpList_load_row rfl 26 _ rfl (w.heap.size) rfl 26 (fls c) (0, 0) _ A0.out Try.underlying26 rfl (by rw [fls_size]; exact info_arr) ?_)
  go_loopw [7] (fun i wr => ∃ k : Nat, k ≤ 20 ∧ i = .int .i64 k ∧ Hid (vAt wr (w.heap.size + 1) 20 (fun _ => .int .u32 0) 116) ∧ Hid (vAt wr (w.heap.size + 1 + 1) 20 (prtV (ilv fun i => nb (c i)) (fun _ => .int .u32 0) k) 116) ∧ Hid (Below w.heap.size w wr)) (fun i _ => 20 - (intOf i).toNat)
  case atStart => exact ⟨0, by omega, rfl, A1, hid (A2.out.ext (fun i _ => (prtV_zero (ilv fun i => nb (c i)) (fun _ => .int .u32 0) i).symm)), hid b0⟩
  case round =>
    obtain ⟨k, hk, rfl, h1, h2, hb⟩ := hrel
    by_cases hlt : k < 20
    · have hix := ix 26 Try.underlying26 c k hlt
      go_wp2_with fail
      refine (iBits (c k) (HC.out k hlt) _).mono ?_
      rintro e w1 ⟨rfl, hb1⟩
      have B1 := hid (h1.out.stay hb1)
      have B2 := hid (h2.out.stay hb1)
      have q2 := B2.out.cell hlt
      have f2 := B2.out.frozen k
      go_wp2
      go_roundw
      case rel => exact ⟨k + 1, by omega, by go_num, hid (B1.out.setOther (by simp) _), hid ((B2.out.set k (.int .u32 (nb (c k)))).ext (fun i _ => prtV_succ (ilv fun i => nb (c i)) _ k i)), hid ((stp hb.out (Nat.le_refl _) hb1).setCell (by simp; omega) _)⟩
      case measure => simp [intOf]; omega
    · obtain rfl : k = 20 := by omega
      have g2 := hid (h2.out.ext (prtV_all _ _ 20))
      clear h2
      go_wp2_with (first | (refine wpList_load_row rfl 116 _ rfl (w.heap.size + 1 + 1) rfl 116 (vls 20 (ilv fun i => nb (c i))) (0, 0) _ g2.out Try.underlying116 rfl (by rw [vls_size]; exact info_u20) ?_) | (refine wpList_store_row rfl 116 _ _ rfl (w.heap.size + 1) (vls 20 (ilv fun i => nb (c i))) rfl rfl 116 _ h1.out (by rw [vls_size]; exact info_u20) (by simp) (vls_one (fun _ => rfl)) ?_))
      exact bodyPost_ret (results_cell_row rfl _ _ (w.heap.size + 1) 116 (vls 20 (ilv fun i => nb (c i))) (0, 0) _ rfl (h1.out.setRow _) Try.underlying116 rfl (by rw [vls_size]; exact info_u20)) rfl ⟨rfl, below_row hb.out (by omega) _⟩

theorem run_bitsOfSizes1 (a : Act) (x0 : Operand) (v0 : Value) (h0 : a.eval x0 = v0) (d : Option Tmp) (ats : Array TypeId) (t : TypeId) (ps : String) (af : Array Edge) (gd : Option (Nat × Bool)) (w : World) :
    (execOp a.eval ⟨d, .call { callee := .value (.func 126), args := #[x0], argTypes := ats }, t, ps, af, gd⟩).run Try.prog w = .ok (.enter 126 #[v0]) w := by
  subst h0
  unfold execOp
  go_simp

set_option maxRecDepth 100000 in
set_option maxHeartbeats 1000000 in
theorem iSameSizes_law (c d : Nat → Nat) (hc : ∀ i, i < 20 → c i < 4294967296) (hd : ∀ i, i < 20 → d i < 4294967296) (w : World) :
    Calls Try.prog 59 #[.agg (fls c), .agg (fls d)] w fun e w' => e = .returned (.bool (sameSz c d)) ∧ Below w.heap.size w w' := by
  have k0 : Hid (Kept w [(w.heap.size, fls c, 26), (w.heap.size + 1, fls d, 26)] ((w.alloc (.cells (fls c) 26)).alloc (.cells (fls d) 26))) := hid ((((Kept.nil w).push (fls c) 26).push (fls d) 26).sub (by simp))
  have Hc := hid hc
  have Hd := hid hd
  clear hc hd
  go_enter Try.func59, Try.ntmps59
  go_wp2_with fail
  refine region_kept (w0 := w) (l := [(w.heap.size, fls c, 26), (w.heap.size + 1, fls d, 26)]) 6 #[false, false, false, false, false, false] (by kernel_rfl) rfl rfl ?_
  have kd := k0.out.drew
  clear k0
  generalize ((w.alloc (.cells (fls c) 26)).alloc (.cells (fls d) 26)).drew = wd at kd ⊢
  refine take_load 0 { tmps := (.agg (fls c) :: .agg (fls d) :: .pointer (some ⟨w.heap.size, 0, none⟩) :: .pointer (some ⟨w.heap.size + 1, 0, none⟩) :: .bool false :: .agg (fls c) :: undef :: undef :: undef :: undef :: []).toArray, defers := [] } #[true, false, false, false, false, false] rfl (by rfl) (by kernel_rfl) (by kernel_rfl) (by kernel_rfl) 26 _ rfl (w.heap.size) (fls c) 26 (by rfl) (by simp) _ Try.underlying26 rfl (by rw [fls_size]; exact info_arr) (by rfl) (by rfl) (kd) ?_
  refine take_load 2 { tmps := (.agg (fls c) :: .agg (fls d) :: .pointer (some ⟨w.heap.size, 0, none⟩) :: .pointer (some ⟨w.heap.size + 1, 0, none⟩) :: .bool false :: .agg (fls c) :: undef :: .agg (fls d) :: undef :: undef :: []).toArray, defers := [] } #[true, false, true, false, false, false] rfl (by rfl) (by kernel_rfl) (by kernel_rfl) (by kernel_rfl) 26 _ rfl (w.heap.size + 1) (fls d) 26 (by rfl) (by simp) _ Try.underlying26 rfl (by rw [fls_size]; exact info_arr) (by rfl) (by rfl) (kd) ?_
  refine wpAnyH_ready (rs := [1]) (by kernel_rfl) (by simp) ?_
  refine callK 1 { tmps := (.agg (fls c) :: .agg (fls d) :: .pointer (some ⟨w.heap.size, 0, none⟩) :: .pointer (some ⟨w.heap.size + 1, 0, none⟩) :: .bool false :: .agg (fls c) :: .agg (vls 20 (ilv fun i => nb (c i))) :: .agg (fls d) :: undef :: undef :: []).toArray, defers := [] } #[true, true, true, false, false, false] (.agg (vls 20 (ilv fun i => nb (c i)))) kd rfl (by rfl) 126 #[.agg (fls c)] (run_bitsOfSizes1 _ _ _ rfl _ _ _ _ _ _) (by rfl) (by rfl) (iBitsOfSizes c Hc.out _) (fun w1 k1 => ?_) AllReadyH.nil
  refine ⟨k1, ?_⟩
  refine wpAnyH_ready (rs := [3]) (by kernel_rfl) (by simp) ?_
  refine callK 3 { tmps := (.agg (fls c) :: .agg (fls d) :: .pointer (some ⟨w.heap.size, 0, none⟩) :: .pointer (some ⟨w.heap.size + 1, 0, none⟩) :: .bool false :: .agg (fls c) :: .agg (vls 20 (ilv fun i => nb (c i))) :: .agg (fls d) :: .agg (vls 20 (ilv fun i => nb (d i))) :: undef :: []).toArray, defers := [] } #[true, true, true, true, false, false] (.agg (vls 20 (ilv fun i => nb (d i)))) k1 rfl (by rfl) 126 #[.agg (fls d)] (run_bitsOfSizes1 _ _ _ rfl _ _ _ _ _ _) (by rfl) (by rfl) (iBitsOfSizes d Hd.out _) (fun w2 k2 => ?_) AllReadyH.nil
  refine ⟨k2, ?_⟩
  refine take_val 4 { tmps := (.agg (fls c) :: .agg (fls d) :: .pointer (some ⟨w.heap.size, 0, none⟩) :: .pointer (some ⟨w.heap.size + 1, 0, none⟩) :: .bool false :: .agg (fls c) :: .agg (vls 20 (ilv fun i => nb (c i))) :: .agg (fls d) :: .agg (vls 20 (ilv fun i => nb (d i))) :: .bool (allEq (fun i => nb (c i)) (fun i => nb (d i)) (List.range 20)) :: []).toArray, defers := [] } #[true, true, true, true, true, false] (.bool (allEq (fun i => nb (c i)) (fun i => nb (d i)) (List.range 20))) rfl (by rfl) (by kernel_rfl) (by kernel_rfl) (by kernel_rfl) (fun w => run_binop_val _ _ _ _ (by rfl) (by rfl) (run_eqGuard_agg _ _ _ _ _ _ _ (by kernel_rfl)) (eq_u20 _ _ w)) (by rfl) (by rfl) (k2) ?_
  refine take_val 5 { tmps := (.agg (fls c) :: .agg (fls d) :: .pointer (some ⟨w.heap.size, 0, none⟩) :: .pointer (some ⟨w.heap.size + 1, 0, none⟩) :: .bool (allEq (fun i => nb (c i)) (fun i => nb (d i)) (List.range 20)) :: .agg (fls c) :: .agg (vls 20 (ilv fun i => nb (c i))) :: .agg (fls d) :: .agg (vls 20 (ilv fun i => nb (d i))) :: .bool (allEq (fun i => nb (c i)) (fun i => nb (d i)) (List.range 20)) :: []).toArray, defers := [] } #[true, true, true, true, true, true] (.bool (allEq (fun i => nb (c i)) (fun i => nb (d i)) (List.range 20))) rfl (by rfl) (by kernel_rfl) (by kernel_rfl) (by kernel_rfl) (fun w => by rfl) (by rfl) (by rfl) (k2) ?_
  refine wpAnyH_done (by kernel_rfl) (NoPanic.normal ?_) _
  go_wp2
  go_ret
  exact ⟨by rw [allEq_same]; rfl, k2.1⟩

theorem run_sSameSizes2 (a : Act) (x0 : Operand) (v0 : Value) (h0 : a.eval x0 = v0) (x1 : Operand) (v1 : Value) (h1 : a.eval x1 = v1) (d : Option Tmp) (ats : Array TypeId) (t : TypeId) (ps : String) (af : Array Edge) (gd : Option (Nat × Bool)) (w : World) :
    (execOp a.eval ⟨d, .call { callee := .value (.func 44), args := #[x0, x1], argTypes := ats }, t, ps, af, gd⟩).run Try.prog w = .ok (.enter 44 #[v0, v1]) w := by
  subst h0 h1
  unfold execOp
  go_simp

theorem run_iSameSizes2 (a : Act) (x0 : Operand) (v0 : Value) (h0 : a.eval x0 = v0) (x1 : Operand) (v1 : Value) (h1 : a.eval x1 = v1) (d : Option Tmp) (ats : Array TypeId) (t : TypeId) (ps : String) (af : Array Edge) (gd : Option (Nat × Bool)) (w : World) :
    (execOp a.eval ⟨d, .call { callee := .value (.func 59), args := #[x0, x1], argTypes := ats }, t, ps, af, gd⟩).run Try.prog w = .ok (.enter 59 #[v0, v1]) w := by
  subst h0 h1
  unfold execOp
  go_simp

set_option maxRecDepth 100000 in
set_option maxHeartbeats 2000000 in
theorem coreSameSizes (x0 : Nat → Nat) (x1 : Nat → Nat) (r0 : Bool)
    (hS : ∀ w, Calls Try.prog 44 #[.agg (fls x0), .agg (fls x1)] w fun e w' => e = .returned (.bool r0) ∧ Below w.heap.size w w')
    (hI : ∀ w, Calls Try.prog 59 #[.agg (fls x0), .agg (fls x1)] w fun e w' => e = .returned (.bool r0) ∧ Below w.heap.size w w') (w : World) :
    Calls Try.prog 7 #[.agg (fls x0), .agg (fls x1)] w fun e w' => e = .returned (.bool true) ∧ Below w.heap.size w w' := by
  have k0 : Hid (Kept w [(w.heap.size, fls x0, 25), (w.heap.size + 1, fls x1, 25)] ((w.alloc (.cells (fls x0) 25)).alloc (.cells (fls x1) 25))) := hid ((((Kept.nil w).push (fls x0) 25).push (fls x1) 25).sub (by simp))
  have HS := hid hS
  have HI := hid hI
  clear hS hI
  go_enter Try.func7, Try.ntmps7
  go_wp2_with fail
  rename_i Q1 K1 hK1
  have key1 : ∀  (w1 : World), Hid (Kept w [(w.heap.size, fls x0, 25), (w.heap.size + 1, fls x1, 25)] w1) → K1 { tmps := (.agg (fls x0) :: .agg (fls x1) :: .pointer (some ⟨w.heap.size, 0, none⟩) :: .pointer (some ⟨w.heap.size + 1, 0, none⟩) :: .bool false :: .bool r0 :: undef :: .agg (fls x0) :: .agg (fls x0) :: .agg (fls x1) :: .agg (fls x1) :: .bool r0 :: undef :: undef :: undef :: undef :: undef :: undef :: undef :: undef :: []).toArray, defers := [] } w1 := by
    intro  w1 k1
    clear k0
    go_wp2_with fail
    rename_i K2 hK2
    have key2 : ∀  (w2 : World), Hid (Kept w [(w.heap.size, fls x0, 25), (w.heap.size + 1, fls x1, 25)] w2) → K2 { tmps := (.agg (fls x0) :: .agg (fls x1) :: .pointer (some ⟨w.heap.size, 0, none⟩) :: .pointer (some ⟨w.heap.size + 1, 0, none⟩) :: .bool false :: .bool r0 :: .bool r0 :: .agg (fls x0) :: .agg (fls x0) :: .agg (fls x1) :: .agg (fls x1) :: .bool r0 :: .agg (fls x0) :: .agg (fls x0) :: .agg (fls x1) :: .agg (fls x1) :: .bool r0 :: undef :: undef :: undef :: []).toArray, defers := [] } w2 := by
      intro  w2 k2
      clear k1 HS HI
      cases r0
      all_goals go_wp2
      all_goals go_ret
      all_goals exact ⟨rfl, k2.out.1⟩
    refine region_kept (w0 := w) (l := [(w.heap.size, fls x0, 25), (w.heap.size + 1, fls x1, 25)]) 6 #[false, false, false, false, false, false] (by kernel_rfl) rfl rfl ?_
    have kd := k1.out.drew
    clear k1
    generalize w1.drew = wd at kd ⊢
    refine take_load 0 { tmps := (.agg (fls x0) :: .agg (fls x1) :: .pointer (some ⟨w.heap.size, 0, none⟩) :: .pointer (some ⟨w.heap.size + 1, 0, none⟩) :: .bool false :: .bool r0 :: undef :: .agg (fls x0) :: .agg (fls x0) :: .agg (fls x1) :: .agg (fls x1) :: .bool r0 :: .agg (fls x0) :: undef :: undef :: undef :: undef :: undef :: undef :: undef :: []).toArray, defers := [] } #[true, false, false, false, false, false] rfl (by rfl) (by kernel_rfl) (by kernel_rfl) (by kernel_rfl) 25 _ rfl (w.heap.size) (fls x0) 25 (by rfl) (by simp) _ Try.underlying25 rfl (by rw [fls_size]; exact info_a20) (by rfl) (by rfl) (kd) ?_
    refine take_load 2 { tmps := (.agg (fls x0) :: .agg (fls x1) :: .pointer (some ⟨w.heap.size, 0, none⟩) :: .pointer (some ⟨w.heap.size + 1, 0, none⟩) :: .bool false :: .bool r0 :: undef :: .agg (fls x0) :: .agg (fls x0) :: .agg (fls x1) :: .agg (fls x1) :: .bool r0 :: .agg (fls x0) :: undef :: .agg (fls x1) :: undef :: undef :: undef :: undef :: undef :: []).toArray, defers := [] } #[true, false, true, false, false, false] rfl (by rfl) (by kernel_rfl) (by kernel_rfl) (by kernel_rfl) 25 _ rfl (w.heap.size + 1) (fls x1) 25 (by rfl) (by simp) _ Try.underlying25 rfl (by rw [fls_size]; exact info_a20) (by rfl) (by rfl) (kd) ?_
    refine wpAnyH_ready (rs := [1]) (by kernel_rfl) (by simp) ?_
    refine callK 1 { tmps := (.agg (fls x0) :: .agg (fls x1) :: .pointer (some ⟨w.heap.size, 0, none⟩) :: .pointer (some ⟨w.heap.size + 1, 0, none⟩) :: .bool false :: .bool r0 :: undef :: .agg (fls x0) :: .agg (fls x0) :: .agg (fls x1) :: .agg (fls x1) :: .bool r0 :: .agg (fls x0) :: .agg (fls x0) :: .agg (fls x1) :: undef :: undef :: undef :: undef :: undef :: []).toArray, defers := [] } #[true, true, true, false, false, false] (.agg (fls x0)) kd rfl (by rfl) 58 #[.agg (fls x0)] (run_toSizes1 _ _ _ rfl _ _ _ _ _ _) (by rfl) (by rfl) (toSizes _ _) (fun w1 k1 => ?_) AllReadyH.nil
    refine ⟨k1, ?_⟩
    refine wpAnyH_ready (rs := [3]) (by kernel_rfl) (by simp) ?_
    refine callK 3 { tmps := (.agg (fls x0) :: .agg (fls x1) :: .pointer (some ⟨w.heap.size, 0, none⟩) :: .pointer (some ⟨w.heap.size + 1, 0, none⟩) :: .bool false :: .bool r0 :: undef :: .agg (fls x0) :: .agg (fls x0) :: .agg (fls x1) :: .agg (fls x1) :: .bool r0 :: .agg (fls x0) :: .agg (fls x0) :: .agg (fls x1) :: .agg (fls x1) :: undef :: undef :: undef :: undef :: []).toArray, defers := [] } #[true, true, true, true, false, false] (.agg (fls x1)) k1 rfl (by rfl) 58 #[.agg (fls x1)] (run_toSizes1 _ _ _ rfl _ _ _ _ _ _) (by rfl) (by rfl) (toSizes _ _) (fun w2 k2 => ?_) AllReadyH.nil
    refine ⟨k2, ?_⟩
    refine wpAnyH_ready (rs := [4]) (by kernel_rfl) (by simp) ?_
    refine callK 4 { tmps := (.agg (fls x0) :: .agg (fls x1) :: .pointer (some ⟨w.heap.size, 0, none⟩) :: .pointer (some ⟨w.heap.size + 1, 0, none⟩) :: .bool false :: .bool r0 :: undef :: .agg (fls x0) :: .agg (fls x0) :: .agg (fls x1) :: .agg (fls x1) :: .bool r0 :: .agg (fls x0) :: .agg (fls x0) :: .agg (fls x1) :: .agg (fls x1) :: .bool r0 :: undef :: undef :: undef :: []).toArray, defers := [] } #[true, true, true, true, true, false] (.bool r0) k2 rfl (by rfl) 59 #[.agg (fls x0), .agg (fls x1)] (run_iSameSizes2 _ _ _ rfl _ _ rfl _ _ _ _ _ _) (by rfl) (by rfl) (HI.out _) (fun w3 k3 => ?_) AllReadyH.nil
    refine ⟨k3, ?_⟩
    refine take_val 5 { tmps := (.agg (fls x0) :: .agg (fls x1) :: .pointer (some ⟨w.heap.size, 0, none⟩) :: .pointer (some ⟨w.heap.size + 1, 0, none⟩) :: .bool false :: .bool r0 :: .bool r0 :: .agg (fls x0) :: .agg (fls x0) :: .agg (fls x1) :: .agg (fls x1) :: .bool r0 :: .agg (fls x0) :: .agg (fls x0) :: .agg (fls x1) :: .agg (fls x1) :: .bool r0 :: undef :: undef :: undef :: []).toArray, defers := [] } #[true, true, true, true, true, true] (.bool r0) rfl (by rfl) (by kernel_rfl) (by kernel_rfl) (by kernel_rfl) (fun w => by rfl) (by rfl) (by rfl) (k3) ?_
    exact wpAnyH_done (by kernel_rfl) (NoPanic.normal (key2  _ (hid k3))) _
  refine region_kept (w0 := w) (l := [(w.heap.size, fls x0, 25), (w.heap.size + 1, fls x1, 25)]) 6 #[false, false, false, false, false, false] (by kernel_rfl) rfl rfl ?_
  have kd := k0.out.drew
  clear k0
  generalize ((w.alloc (.cells (fls x0) 25)).alloc (.cells (fls x1) 25)).drew = wd at kd ⊢
  refine take_load 0 { tmps := (.agg (fls x0) :: .agg (fls x1) :: .pointer (some ⟨w.heap.size, 0, none⟩) :: .pointer (some ⟨w.heap.size + 1, 0, none⟩) :: .bool false :: undef :: undef :: .agg (fls x0) :: undef :: undef :: undef :: undef :: undef :: undef :: undef :: undef :: undef :: undef :: undef :: undef :: []).toArray, defers := [] } #[true, false, false, false, false, false] rfl (by rfl) (by kernel_rfl) (by kernel_rfl) (by kernel_rfl) 25 _ rfl (w.heap.size) (fls x0) 25 (by rfl) (by simp) _ Try.underlying25 rfl (by rw [fls_size]; exact info_a20) (by rfl) (by rfl) (kd) ?_
  refine take_load 2 { tmps := (.agg (fls x0) :: .agg (fls x1) :: .pointer (some ⟨w.heap.size, 0, none⟩) :: .pointer (some ⟨w.heap.size + 1, 0, none⟩) :: .bool false :: undef :: undef :: .agg (fls x0) :: undef :: .agg (fls x1) :: undef :: undef :: undef :: undef :: undef :: undef :: undef :: undef :: undef :: undef :: []).toArray, defers := [] } #[true, false, true, false, false, false] rfl (by rfl) (by kernel_rfl) (by kernel_rfl) (by kernel_rfl) 25 _ rfl (w.heap.size + 1) (fls x1) 25 (by rfl) (by simp) _ Try.underlying25 rfl (by rw [fls_size]; exact info_a20) (by rfl) (by rfl) (kd) ?_
  refine wpAnyH_ready (rs := [1]) (by kernel_rfl) (by simp) ?_
  refine callK 1 { tmps := (.agg (fls x0) :: .agg (fls x1) :: .pointer (some ⟨w.heap.size, 0, none⟩) :: .pointer (some ⟨w.heap.size + 1, 0, none⟩) :: .bool false :: undef :: undef :: .agg (fls x0) :: .agg (fls x0) :: .agg (fls x1) :: undef :: undef :: undef :: undef :: undef :: undef :: undef :: undef :: undef :: undef :: []).toArray, defers := [] } #[true, true, true, false, false, false] (.agg (fls x0)) kd rfl (by rfl) 58 #[.agg (fls x0)] (run_toSizes1 _ _ _ rfl _ _ _ _ _ _) (by rfl) (by rfl) (toSizes _ _) (fun w1 k1 => ?_) AllReadyH.nil
  refine ⟨k1, ?_⟩
  refine wpAnyH_ready (rs := [3]) (by kernel_rfl) (by simp) ?_
  refine callK 3 { tmps := (.agg (fls x0) :: .agg (fls x1) :: .pointer (some ⟨w.heap.size, 0, none⟩) :: .pointer (some ⟨w.heap.size + 1, 0, none⟩) :: .bool false :: undef :: undef :: .agg (fls x0) :: .agg (fls x0) :: .agg (fls x1) :: .agg (fls x1) :: undef :: undef :: undef :: undef :: undef :: undef :: undef :: undef :: undef :: []).toArray, defers := [] } #[true, true, true, true, false, false] (.agg (fls x1)) k1 rfl (by rfl) 58 #[.agg (fls x1)] (run_toSizes1 _ _ _ rfl _ _ _ _ _ _) (by rfl) (by rfl) (toSizes _ _) (fun w2 k2 => ?_) AllReadyH.nil
  refine ⟨k2, ?_⟩
  refine wpAnyH_ready (rs := [4]) (by kernel_rfl) (by simp) ?_
  refine callK 4 { tmps := (.agg (fls x0) :: .agg (fls x1) :: .pointer (some ⟨w.heap.size, 0, none⟩) :: .pointer (some ⟨w.heap.size + 1, 0, none⟩) :: .bool false :: undef :: undef :: .agg (fls x0) :: .agg (fls x0) :: .agg (fls x1) :: .agg (fls x1) :: .bool r0 :: undef :: undef :: undef :: undef :: undef :: undef :: undef :: undef :: []).toArray, defers := [] } #[true, true, true, true, true, false] (.bool r0) k2 rfl (by rfl) 44 #[.agg (fls x0), .agg (fls x1)] (run_sSameSizes2 _ _ _ rfl _ _ rfl _ _ _ _ _ _) (by rfl) (by rfl) (HS.out _) (fun w3 k3 => ?_) AllReadyH.nil
  refine ⟨k3, ?_⟩
  refine take_val 5 { tmps := (.agg (fls x0) :: .agg (fls x1) :: .pointer (some ⟨w.heap.size, 0, none⟩) :: .pointer (some ⟨w.heap.size + 1, 0, none⟩) :: .bool false :: .bool r0 :: undef :: .agg (fls x0) :: .agg (fls x0) :: .agg (fls x1) :: .agg (fls x1) :: .bool r0 :: undef :: undef :: undef :: undef :: undef :: undef :: undef :: undef :: []).toArray, defers := [] } #[true, true, true, true, true, true] (.bool r0) rfl (by rfl) (by kernel_rfl) (by kernel_rfl) (by kernel_rfl) (fun w => by rfl) (by rfl) (by rfl) (k3) ?_
  exact wpAnyH_done (by kernel_rfl) (NoPanic.normal (key1  _ (hid k3))) _

theorem lawSameSizes (c : Nat → Nat) (hb : ∀ i, i < 20 → c i < 4294967296) (d : Nat → Nat) (hb2 : ∀ i, i < 20 → d i < 4294967296) (w : World) :
    Calls Try.prog 7 #[.agg (fls c), .agg (fls d)] w fun e w' => e = .returned (.bool true) ∧ Below w.heap.size w w' :=
  coreSameSizes c d (sameSz c d) (sSameSizes_law c d hb hb2) (iSameSizes_law c d hb hb2) w

theorem words_cons : ∀ (v : List Char) (r : List Char), (∀ c ∈ v, c ≠ Char.ofNat 32) → wordsSigns (v ++ Char.ofNat 32 :: r) = v :: wordsSigns r
  | [], r, _ => rfl
  | c :: v, r, h => by
    have ih := words_cons v r (fun x hx => h x (by simp [hx]))
    have hc : c ≠ Char.ofNat 32 := h c (by simp)
    show wordsSigns (c :: (v ++ Char.ofNat 32 :: r)) = _
    rw [wordsSigns.eq_3 _ _ (fun e => hc e), ih]

def w0 : List Nat := [104, 97, 114, 110, 101, 115, 115]

def w1 : List Nat := [53, 101, 102, 56, 48, 48, 53, 56, 54, 100, 51, 48, 49, 98, 54, 54, 57, 52, 99, 102, 99, 101, 101, 57, 49, 48, 101, 49, 57, 55, 100, 55, 99, 55, 55, 54, 97, 53, 53, 48, 97, 51, 54, 101, 49, 50, 100, 50, 52, 98, 98, 98, 48, 49, 57, 99, 101, 102, 98, 54, 99, 51, 99, 55]

def w2 : List Nat := [99, 117, 116]

def w3 : List Nat := [97, 116, 32, 108, 111, 111, 112, 46, 101, 120, 97, 109, 112, 108, 101, 47, 103, 48, 49, 50, 50, 52, 47, 108, 97, 119, 115, 46, 70, 110, 83, 117, 109, 115, 32, 108, 111, 111, 112, 46, 101, 120, 97, 109, 112, 108, 101, 47, 103, 48, 49, 50, 50, 52, 47, 108, 97, 119, 115, 46, 70, 110, 83, 104, 105, 102, 116, 101, 100, 32, 108, 111, 111, 112, 46, 101, 120, 97, 109, 112, 108, 101, 47, 103, 48, 49, 50, 50, 52, 47, 108, 97, 119, 115, 46, 70, 110, 71, 114, 111, 119, 110, 32, 108, 111, 111, 112, 46, 101, 120, 97, 109, 112, 108, 101, 47, 103, 48, 49, 50, 50, 52, 47, 108, 97, 119, 115, 46, 70, 110, 78, 117, 99, 108, 101, 105, 32, 108, 111, 111, 112, 46, 101, 120, 97, 109, 112, 108, 101, 47, 103, 48, 49, 50, 50, 52, 47, 108, 97, 119, 115, 46, 70, 110, 69, 120, 97, 99, 116, 83, 97, 109, 101, 83, 105, 122, 101, 115, 32, 108, 111, 111, 112, 46, 101, 120, 97, 109, 112, 108, 101, 47, 103, 48, 49, 50, 50, 52, 47, 108, 97, 119, 115, 46, 70, 110, 69, 120, 97, 99, 116, 84, 104, 105, 114, 100, 82, 111, 111, 116, 32, 108, 111, 111, 112, 46, 101, 120, 97, 109, 112, 108, 101, 47, 103, 48, 49, 50, 50, 52, 47, 108, 97, 119, 115, 46, 70, 110, 69, 120, 97, 99, 116, 82, 97, 100, 105, 117, 115, 79, 102, 32, 108, 111, 111, 112, 46, 101, 120, 97, 109, 112, 108, 101, 47, 103, 48, 49, 50, 50, 52, 47, 108, 97, 119, 115, 46, 70, 110, 69, 120, 97, 99, 116, 77, 111, 109, 101, 110, 116, 79, 102, 32, 108, 111, 111, 112, 46, 101, 120, 97, 109, 112, 108, 101, 47, 103, 48, 49, 50, 50, 52, 47, 108, 97, 119, 115, 46, 70, 110, 69, 120, 97, 99, 116, 80, 117, 116, 68, 114, 111, 112, 108, 101, 116, 115, 32, 108, 111, 111, 112, 46, 101, 120, 97, 109, 112, 108, 101, 47, 103, 48, 49, 50, 50, 52, 47, 108, 97, 119, 115, 46, 70, 110, 69, 120, 97, 99, 116, 65, 100, 100, 83, 105, 122, 101, 115, 32, 108, 111, 111, 112, 46, 101, 120, 97, 109, 112, 108, 101, 47, 103, 48, 49, 50, 50, 52, 47, 108, 97, 119, 115, 46, 70, 110, 69, 120, 97, 99, 116, 77, 105, 120, 83, 105, 122, 101, 115, 32, 108, 111, 111, 112, 46, 101, 120, 97, 109, 112, 108, 101, 47, 103, 48, 49, 50, 50, 52, 47, 108, 97, 119, 115, 46, 70, 110, 69, 120, 97, 99, 116, 83, 104, 105, 102, 116, 77, 97, 115, 115, 101, 115, 32, 108, 111, 111, 112, 46, 101, 120, 97, 109, 112, 108, 101, 47, 103, 48, 49, 50, 50, 52, 47, 108, 97, 119, 115, 46, 70, 110, 69, 120, 97, 99, 116, 84, 119, 111, 84, 111, 32, 108, 111, 111, 112, 46, 101, 120, 97, 109, 112, 108, 101, 47, 103, 48, 49, 50, 50, 52, 47, 108, 97, 119, 115, 46, 70, 110, 69, 120, 97, 99, 116, 86, 97, 108, 105, 100, 65, 105, 114, 32, 108, 111, 111, 112, 46, 101, 120, 97, 109, 112, 108, 101, 47, 103, 48, 49, 50, 50, 52, 47, 108, 97, 119, 115, 46, 70, 110, 69, 120, 97, 99, 116, 83, 97, 109, 101, 65, 105, 114, 32, 108, 111, 111, 112, 46, 101, 120, 97, 109, 112, 108, 101, 47, 103, 48, 49, 50, 50, 52, 47, 108, 97, 119, 115, 46, 70, 110, 69, 120, 97, 99, 116, 83, 97, 116, 117, 114, 97, 116, 105, 111, 110, 65, 116, 32, 108, 111, 111, 112, 46, 101, 120, 97, 109, 112, 108, 101, 47, 103, 48, 49, 50, 50, 52, 47, 108, 97, 119, 115, 46, 70, 110, 69, 120, 97, 99, 116, 69, 120, 99, 101, 115, 115, 79, 102, 32, 108, 111, 111, 112, 46, 101, 120, 97, 109, 112, 108, 101, 47, 103, 48, 49, 50, 50, 52, 47, 108, 97, 119, 115, 46, 70, 110, 69, 120, 97, 99, 116, 72, 117, 109, 105, 100, 105, 116, 121, 79, 102, 32, 108, 111, 111, 112, 46, 101, 120, 97, 109, 112, 108, 101, 47, 103, 48, 49, 50, 50, 52, 47, 108, 97, 119, 115, 46, 70, 110, 69, 120, 97, 99, 116, 71, 97, 105, 110, 115, 65, 116, 32, 108, 111, 111, 112, 46, 101, 120, 97, 109, 112, 108, 101, 47, 103, 48, 49, 50, 50, 52, 47, 108, 97, 119, 115, 46, 70, 110, 69, 120, 97, 99, 116, 71, 114, 111, 119, 79, 110, 99, 101, 32, 108, 111, 111, 112, 46, 101, 120, 97, 109, 112, 108, 101, 47, 103, 48, 49, 50, 50, 52, 47, 108, 97, 119, 115, 46, 70, 110, 69, 120, 97, 99, 116, 71, 114, 111, 119, 83, 116, 101, 112, 115, 32, 108, 111, 111, 112, 46, 101, 120, 97, 109, 112, 108, 101, 47, 103, 48, 49, 50, 50, 52, 47, 108, 97, 119, 115, 46, 70, 110, 69, 120, 97, 99, 116, 65, 99, 116, 105, 118, 97, 116, 101, 32, 108, 111, 111, 112, 46, 101, 120, 97, 109, 112, 108, 101, 47, 103, 48, 49, 50, 50, 52, 47, 108, 97, 119, 115, 46, 70, 110, 69, 120, 97, 99, 116, 87, 97, 116, 101, 114, 73, 110, 32, 108, 111, 111, 112, 46, 101, 120, 97, 109, 112, 108, 101, 47, 103, 48, 49, 50, 50, 52, 47, 108, 97, 119, 115, 46, 70, 110, 69, 120, 97, 99, 116, 77, 105, 120, 65, 105, 114, 32, 108, 111, 111, 112, 46, 101, 120, 97, 109, 112, 108, 101, 47, 103, 48, 49, 50, 50, 52, 47, 108, 97, 119, 115, 46, 70, 110, 69, 120, 97, 99, 116, 83, 116, 101, 112, 115, 84, 111, 68, 114, 121, 32, 108, 111, 111, 112, 46, 101, 120, 97, 109, 112, 108, 101, 47, 103, 48, 49, 50, 50, 52, 47, 108, 97, 119, 115, 46, 70, 110, 69, 120, 97, 99, 116, 68, 101, 119, 72, 101, 97, 116]

def letters (l : List Nat) : List Char := l.map Char.ofNat

theorem head_reads : Try.prog.initOrder = String.ofList (letters w0 ++ Char.ofNat 32 :: (letters w1 ++ Char.ofNat 32 :: (letters w2 ++ Char.ofNat 32 :: letters w3))) := by kernel_rfl

theorem no_blank {l : List Nat} (h : l.all (fun n => Char.ofNat n != Char.ofNat 32) = true) : ∀ c ∈ letters l, c ≠ Char.ofNat 32 := by
  intro c hc
  obtain ⟨n, hn, rfl⟩ := List.mem_map.1 hc
  have := List.all_eq_true.1 h n hn
  simpa using this

theorem h0 : letters w0 = "harness".toList := by kernel_rfl

theorem h2 : letters w2 = "cut".toList := by kernel_rfl

theorem sums : isSumSigns (letters w1) = true := by kernel_rfl

theorem words : wordsSigns Try.prog.initOrder.toList = "harness".toList :: letters w1 :: "cut".toList :: wordsSigns (letters w3) := by
  rw [head_reads, String.toList_ofList, words_cons _ _ (no_blank (by decide +kernel)), words_cons _ _ (no_blank (by decide +kernel)), words_cons _ _ (no_blank (by decide +kernel)), h0, h2]

theorem behind : ∃ r, behindMainWord (wordsSigns Try.prog.initOrder.toList) = "cut".toList :: r := by
  refine ⟨wordsSigns (letters w3), ?_⟩
  rw [words]
  generalize wordsSigns (letters w3) = r
  have hs := sums
  generalize letters w1 = v at hs
  unfold behindMainWord
  simp [hs]

theorem not_later : Try.prog.laysLater = false := by kernel_rfl

theorem no_reflect : Try.prog.bearsReflect = false := by kernel_rfl

theorem no_doors : Try.prog.doorFits [] = true := by kernel_rfl

theorem strips (r : List (List Char)) : stripLifts liftWords ("cut".toList :: r) = ([], "cut".toList :: r) := by kernel_rfl

theorem may_enter_of (P : Program) (r : List (List Char)) (h : behindMainWord (wordsSigns P.initOrder.toList) = "cut".toList :: r) (h1 : P.laysLater = false) (h2 : P.bearsReflect = false) (h3 : P.doorFits [] = true) : P.mayEnter = true := by
  unfold Program.mayEnter
  rw [h]
  dsimp only
  rw [strips, h1, h2, h3]
  kernel_rfl

theorem lifts_final_of (P : Program) (r : List (List Char)) (h : behindMainWord (wordsSigns P.initOrder.toList) = "cut".toList :: r) : P.liftsFinal = false := by
  unfold Program.liftsFinal Program.headLifts
  rw [h]
  dsimp only
  rw [strips]
  kernel_rfl

theorem made_of (P : Program) (r : List (List Char)) (h : behindMainWord (wordsSigns P.initOrder.toList) = "cut".toList :: r) : P.make = some .cut := by
  unfold Program.make
  rw [h]
  kernel_rfl

theorem may_enter : Try.prog.mayEnter = true := let ⟨r, h⟩ := behind; may_enter_of _ r h not_later no_reflect no_doors

theorem lifts_final : Try.prog.liftsFinal = false := let ⟨r, h⟩ := behind; lifts_final_of _ r h

theorem made : Try.prog.make = some .cut := let ⟨r, h⟩ := behind; made_of _ r h

theorem laid : laidOutB Try.prog = true := by kernel_rfl

theorem rowed : mapsRowed Try.prog = true := by kernel_rfl

theorem no_stops : Try.prog.stops = [] := by kernel_rfl

theorem no_knobs : Try.prog.stopKnobs = [] := by kernel_rfl

theorem plain_keys : Try.prog.plainKeys = true := by kernel_rfl

theorem stops_heard : Try.prog.stopsHeard = true := by kernel_rfl

theorem arr2 {α : Type} {cs : Array α} (h : cs.size = 2) : ∃ c0 c1, cs = #[c0, c1] := by
  obtain ⟨l⟩ := cs
  match l, h with
  | [a, b], _ => exact ⟨a, b, rfl⟩

theorem own : ownKnob Try.prog.godebug = none := by kernel_rfl

theorem cells20 : Try.prog.cellsOf 25 = 20 := by kernel_rfl

theorem types20 : Try.prog.cellTypes Try.prog.depth 25 = some (List.replicate 20 24) := by kernel_rfl

theorem rda : Try.prog.readableRec 25 = true ∧ 25 < Try.prog.types.size := ⟨by kernel_rfl, of_decide_eq_true (by kernel_rfl)⟩

theorem rdf : Try.prog.readableRec 24 = true ∧ 24 < Try.prog.types.size := ⟨by kernel_rfl, of_decide_eq_true (by kernel_rfl)⟩

theorem rdi : Try.prog.readableRec 2 = true ∧ 2 < Try.prog.types.size := ⟨by kernel_rfl, of_decide_eq_true (by kernel_rfl)⟩
end Go.Proofs.Ytgocemjopmgnaaa

namespace Go.Proofs.Ytgocemjopmgnaaa.fnExactSameSizes
open Go.RowKit Go.Fl Go.ChangeShapes Go.WideShapes Go.ChangeAt

theorem closed : joinedFacts Try.prog 7 Try.f7 Rows.fnExactSameSizesSpec Rows.fnExactSameSizesRow = true := by
  unfold joinedFacts
  simp only [Bool.and_eq_true]
  exact ⟨⟨⟨⟨⟨⟨⟨⟨⟨⟨⟨⟨⟨⟨⟨⟨⟨⟨⟨⟨⟨⟨⟨⟨⟨⟨⟨⟨⟨⟨⟨(by as_aux_lemma => kernel_rfl),
    laid⟩,
    rowed⟩,
    (by as_aux_lemma => kernel_rfl)⟩,
    (by as_aux_lemma => kernel_rfl)⟩,
    (by as_aux_lemma => kernel_rfl)⟩,
    (by rw [no_stops]; rfl)⟩,
    (by as_aux_lemma => kernel_rfl)⟩,
    (by rw [no_knobs]; rfl)⟩,
    (by as_aux_lemma => kernel_rfl)⟩,
    (by as_aux_lemma => kernel_rfl)⟩,
    (by as_aux_lemma => kernel_rfl)⟩,
    (by as_aux_lemma => kernel_rfl)⟩,
    (by as_aux_lemma => kernel_rfl)⟩,
    (by as_aux_lemma => kernel_rfl)⟩,
    (by as_aux_lemma => kernel_rfl)⟩,
    (by as_aux_lemma => kernel_rfl)⟩,
    (by as_aux_lemma => kernel_rfl)⟩,
    (by as_aux_lemma => kernel_rfl)⟩,
    (by as_aux_lemma => kernel_rfl)⟩,
    (by as_aux_lemma => kernel_rfl)⟩,
    (by as_aux_lemma => kernel_rfl)⟩,
    (show (Rows.fnExactSameSizesRow.plainKeys == Try.prog.plainKeys) = true by rw [plain_keys]; rfl)⟩,
    (by as_aux_lemma => kernel_rfl)⟩,
    stops_heard⟩,
    may_enter⟩,
    (show (Rows.fnExactSameSizesRow.lifted == Try.prog.liftsFinal) = true by rw [lifts_final]; rfl)⟩,
    (show (Try.prog.make == some Rows.fnExactSameSizesRow.make) = true by rw [made]; rfl)⟩,
    (by as_aux_lemma => kernel_rfl)⟩,
    (by as_aux_lemma => kernel_rfl)⟩,
    (by as_aux_lemma => kernel_rfl)⟩,
    (by as_aux_lemma => kernel_rfl)⟩

set_option maxRecDepth 100000 in
theorem lifted (os : Os) (started : os.Started) (H : Type) (enc : TypeId × Value → H) :
    ReturnsInHanded {} Try.checked os 7 .any (Rows.fnExactSameSizesSpec.pre6 enc Try.prog Try.f7 Rows.fnExactSameSizesRow.domain false) (Rows.fnExactSameSizesSpec.post enc Try.prog Try.f7 false true false false) := by
  refine LawFrame.lifted (C := Try.checked) (fn := Try.f7) (n := 2) (tb := 4) started own (by kernel_rfl) Try.func7 laid ?_ rfl rfl ?_ rfl Try.underlying4
    (ChangeSpec.witness6 (enc := enc) (C := Try.checked) false ⟨#[], #[.agg (Array.replicate 20 (.float .f32 0)), .agg (Array.replicate 20 (.float .f32 0))], []⟩ 8 (by kernel_rfl) (by kernel_rfl) (by kernel_rfl) (by kernel_rfl)) ?_
  · intro t ht
    simp only [Try.params7, List.mem_cons, List.not_mem_nil, or_false] at ht
    rcases ht with rfl | rfl <;> first | exact rda | exact rdf | exact rdi
  · intro ds hd
    match ds, hd with
    | [_, _], _ => rfl
  · intro W base args ds ps hval hn _
    obtain ⟨v0, v1, rfl⟩ : ∃ v0 v1, args = #[v0, v1] := arr2 hn
    obtain ⟨c0, rfl, hb0⟩ := open_fls Try.underlying25 Try.underlying24 cells20 types20 (hval 0 25 v0 rfl rfl)
    obtain ⟨c1, rfl, hb1⟩ := open_fls Try.underlying25 Try.underlying24 cells20 types20 (hval 1 25 v1 rfl rfl)
    exact lawSameSizes c0 hb0 c1 hb1 W

theorem over : Rows.fnExactSameSizesRow.holds Try.pinned (OpenSpec.ofChange Rows.fnExactSameSizesSpec) :=
  OpenClaim.holds_of_wide 7 Try.f7 rfl rfl rfl rfl rfl rfl rfl ⟨rfl, rfl, rfl, rfl, rfl⟩ rfl rfl rfl rfl rfl (by kernel_rfl) Try.func7 closed
    (of_decide_eq_true (by kernel_rfl)) (by unfold Func.isWrapper; rw [if_neg (by decide +kernel)]; exact ⟨rfl, rfl⟩)
    (fun os started H enc _ => lifted os started H enc)

theorem proved : Rows.FnExactSameSizesSaid := over
#print axioms proved
end Go.Proofs.Ytgocemjopmgnaaa.fnExactSameSizes
