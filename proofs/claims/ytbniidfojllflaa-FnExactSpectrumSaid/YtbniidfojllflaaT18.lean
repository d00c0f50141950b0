import Derived.Test.YtbniidfojllflaaT17
import Derived.Test.YtbniidfojllflaaLibB
namespace Go.Proofs.Ytbniidfojllflaa
open Go.RowKit Go.Fl

theorem sMassI (n : Int) (h0 : 0 ≤ n) (h1 : n < 20) (w : World) :
    Calls Try.prog 102 #[.int .i64 n] w fun e w' => e = .returned (.float .f32 (mass n.toNat)) ∧ w = w' := by
  obtain ⟨k, rfl⟩ := Int.eq_ofNat_of_zero_le h0
  exact sMass k (by omega) w

set_option maxRecDepth 100000 in
theorem sFor (x : Nat) (ha : amtB x = true) (h1 : ONE ≤ x) (w : World) :
    Calls Try.prog 110 #[.float .f32 x] w fun e w' => e = .returned (.int .i64 (forF x : Int)) ∧ w = w' := by
  have Ha := hid ha
  have H1 := hid h1
  clear ha h1
  go_enter Try.func110, Try.ntmps110
  go_wp2
  go_loop [3] (fun i => ∃ k : Nat, k ≤ 19 ∧ i = .int .i64 k ∧ Hid (mass k ≤ x)) (fun i => 20 - (intOf i).toNat)
  case atStart => exact ⟨0, by omega, rfl, H1⟩
  case round =>
    obtain ⟨k, hk, rfl, hm⟩ := hrel
    by_cases hlt : k < 19
    · by_cases hle : mass (k + 1) ≤ x
      · have ho := leq_t (mass_amt (k := k + 1) (by omega)) Ha.out hle
        have HL := hid hle
        clear hle
        have e1 : ((k : Int) + 1).toNat = k + 1 := by omega
        have E1 := hid e1
        clear e1
        go_wp2_with (go_at_call 102; refine (sMassI _ (by omega) (by omega) _).mono ?_; rintro e w' ⟨rfl, rfl⟩; rw [E1.out])
        go_round
        case rel => exact ⟨k + 1, by omega, by go_num, HL⟩
        case measure => simp [intOf]; omega
      · have hgt : x < mass (k + 1) := by omega
        have ho := leq_f (mass_amt (k := k + 1) (by omega)) Ha.out hgt
        have hf := hid (forF_eq (by omega) hm.out (.inr hgt))
        clear hle hgt
        have e1 : ((k : Int) + 1).toNat = k + 1 := by omega
        have E1 := hid e1
        clear e1
        go_wp2_with (go_at_call 102; refine (sMassI _ (by omega) (by omega) _).mono ?_; rintro e w' ⟨rfl, rfl⟩; rw [E1.out])
        go_ret
        exact ⟨by simp [hf.out], rfl⟩
    · obtain rfl : k = 19 := by omega
      have hf := hid (forF_eq (by omega) hm.out (.inl rfl))
      go_wp2
      go_ret
      exact ⟨by simp [hf.out], rfl⟩

theorem sClassFor_ok (x : Nat) (ha : amtB x = true) (h1 : ONE ≤ x) (w : World) :
    Calls Try.prog 64 #[.float .f32 x] w fun e w' => e = .returned (.tuple #[.int .i64 (forF x : Int), .int .i64 0]) ∧ w = w' := by
  have Hx := hid (amt_lt ha)
  have Hf := hid (amt_fin ha)
  have ho := geq_t ha (y := 1065353216) (by decide) h1
  have Ha := hid ha
  have H1 := hid h1
  clear ha h1
  go_enter Try.func64, Try.ntmps64
  go_wp2_with fail
  refine (sFinite_t x Hx.out Hf.out _).mono ?_
  rintro e w1 ⟨rfl, rfl⟩
  go_wp2_with fail
  refine (sFor x Ha.out H1.out _).mono ?_
  rintro e w1 ⟨rfl, rfl⟩
  go_wp2
  go_ret2
  exact ⟨rfl, rfl⟩

theorem sClassFor_bad (x : Nat) (hx : x < 4294967296) (hn : ¬ (amtB x = true ∧ ONE ≤ x)) (w : World) :
    Calls Try.prog 64 #[.float .f32 x] w fun e w' => e = .returned (.tuple #[.int .i64 0, .int .i64 2]) ∧ Below w.heap.size w w' := by
  have Hx := hid hx
  rcases hf : finB x with _ | _
  · have Hf := hid hf
    clear hf hx hn
    go_enter Try.func64, Try.ntmps64
    go_wp2_with fail
    refine (sFinite_f x Hx.out Hf.out _).mono ?_
    rintro e w1 ⟨rfl, hb⟩
    go_wp2
    go_ret2
    exact ⟨rfl, hb⟩
  · obtain ⟨_, ho⟩ := low_cases hx hf hn
    have Hf := hid hf
    clear hf hx hn
    go_enter Try.func64, Try.ntmps64
    go_wp2_with fail
    refine (sFinite_t x Hx.out Hf.out _).mono ?_
    rintro e w1 ⟨rfl, rfl⟩
    go_wp2
    go_ret2
    exact ⟨rfl, Below.refl _ _⟩

theorem iClassFor_bad (x : Nat) (hx : x < 4294967296) (hn : ¬ (amtB x = true ∧ ONE ≤ x)) (w : World) :
    Calls Try.prog 65 #[.float .f32 x] w fun e w' => e = .returned (.tuple #[.int .i64 0, .int .i64 2]) ∧ Below w.heap.size w w' := by
  have Hx := hid hx
  rcases hf : finB x with _ | _
  · have Hf := hid hf
    clear hf hx hn
    go_enter Try.func65, Try.ntmps65
    go_wp2_with fail
    go_step3
    go_wp2_with fail
    refine (isFinite_f x Hx.out Hf.out _).mono ?_
    rintro e w1 ⟨rfl, hb⟩
    go_wp2
    rw [Exit.noGoto_ret]
    go_ret2
    exact ⟨rfl, hb⟩
  · obtain ⟨ho, _⟩ := low_cases hx hf hn
    have Hf := hid hf
    clear hf hx hn
    go_enter Try.func65, Try.ntmps65
    go_wp2_with fail
    go_step3
    go_wp2_with fail
    refine (isFinite_t x Hx.out Hf.out _).mono ?_
    rintro e w1 ⟨rfl, rfl⟩
    go_wp2
    rw [Exit.noGoto_ret]
    go_ret2
    exact ⟨rfl, Below.refl _ _⟩

set_option maxRecDepth 100000 in
theorem iClassFor_ok (x : Nat) (ha : amtB x = true) (h1 : ONE ≤ x) (w : World) :
    Calls Try.prog 65 #[.float .f32 x] w fun e w' => e = .returned (.tuple #[.int .i64 (forF x : Int), .int .i64 0]) ∧ w = w' := by
  have Hx := hid (amt_lt ha)
  have Hf := hid (amt_fin ha)
  have ho := lt_f ha (y := 1065353216) (by decide) h1
  have Ha := hid ha
  have H1 := hid h1
  clear ha h1
  go_enter Try.func65, Try.ntmps65
  go_wp2_with fail
  go_step3
  go_wp2_with fail
  refine (isFinite_t x Hx.out Hf.out _).mono ?_
  rintro e w1 ⟨rfl, rfl⟩
  go_wp2_with fail
  go_step3
  go_wp2_with fail
  go_loop [4] (fun i => ∃ k : Nat, k ≤ 19 ∧ i = .int .i64 k ∧ Hid (k = 19 ∨ x < mass (k + 1))) (fun i => (intOf i).toNat)
  case atStart => exact ⟨19, by omega, rfl, hid (.inl rfl)⟩
  case round =>
    obtain ⟨k, hk, rfl, hm⟩ := hrel
    by_cases hlt : 0 < k
    · by_cases hle : mass k ≤ x
      · have hg := gt_f (mass_amt (k := k) (by omega)) Ha.out hle
        have hf := hid (forF_eq (by omega) hle hm.out)
        clear hle
        go_wp2_with (go_at_call 88; refine (iMass k (by omega) _).mono ?_; rintro e w' ⟨rfl, rfl⟩)
        rw [Exit.noGoto_ret]
        go_ret2
        exact ⟨by simp [hf.out], rfl⟩
      · have hgt : x < mass k := by omega
        have hg := gt_t (mass_amt (k := k) (by omega)) Ha.out hgt
        have HG := hid hgt
        clear hle hgt
        go_wp2_with (go_at_call 88; refine (iMass k (by omega) _).mono ?_; rintro e w' ⟨rfl, rfl⟩)
        go_round
        case rel => exact ⟨k - 1, by omega, by congr 1; omega, hid (.inr (by rw [show k - 1 + 1 = k by omega]; exact HG.out))⟩
        case measure => simp [intOf]; omega
    · obtain rfl : k = 0 := by omega
      have hf := hid (forF_eq (by omega) H1.out hm.out)
      go_wp2
      go_ret2
      exact ⟨by simp [hf.out], rfl⟩
set_option maxRecDepth 100000 in
theorem coreClassFor (x0 : Nat) (r0 : Int) (r1 : Int)
    (hS : ∀ w, Calls Try.prog 64 #[.float .f32 x0] w fun e w' => e = .returned (.tuple #[.int .i64 r0, .int .i64 r1]) ∧ Below w.heap.size w w')
    (hI : ∀ w, Calls Try.prog 65 #[.float .f32 x0] w fun e w' => e = .returned (.tuple #[.int .i64 r0, .int .i64 r1]) ∧ Below w.heap.size w w') (w : World) :
    Calls Try.prog 17 #[.float .f32 x0] w fun e w' => e = .returned (.bool true) ∧ Below w.heap.size w w' := by
  have b0 := Below.refl w.heap.size w
  have HS := hid hS
  have HI := hid hI
  clear hS hI
  go_enter Try.func17, Try.ntmps17
  go_wp2_with fail
  refine (HS.out _).mono ?_
  rintro e v0 ⟨rfl, hbv0⟩
  have bv0 := stp b0 (Nat.le_refl _) hbv0
  go_wp2_with fail
  refine (HI.out _).mono ?_
  rintro e v1 ⟨rfl, hbv1⟩
  have bv1 := stp bv0 (Nat.le_refl _) hbv1
  go_wp2
  go_ret
  exact ⟨rfl, bv1⟩

theorem lawClassFor (x : Nat) (hx : x < 4294967296) (w : World) :
    Calls Try.prog 17 #[.float .f32 x] w fun e w' => e = .returned (.bool true) ∧ Below w.heap.size w w' := by
  by_cases h : amtB x = true ∧ ONE ≤ x
  · exact coreClassFor x (forF x) 0 (fun w => (sClassFor_ok x h.1 h.2 w).mono fun _ _ ⟨a, b⟩ => ⟨a, b ▸ Below.refl _ _⟩) (fun w => (iClassFor_ok x h.1 h.2 w).mono fun _ _ ⟨a, b⟩ => ⟨a, b ▸ Below.refl _ _⟩) w
  · exact coreClassFor x 0 2 (sClassFor_bad x hx h) (iClassFor_bad x hx h) w
end Go.Proofs.Ytbniidfojllflaa
