import Derived.Test.YtbniidfojllflaaT9
namespace Go.Proofs.Ytbniidfojllflaa
open Go.RowKit Go.Fl

theorem iTold_t (x : Nat) (hx : x < 4294967296) (h : finB x = true) (w : World) :
    Calls Try.prog 81 #[.float .f32 x] w fun e w' => e = .returned (.tuple #[.float .f32 x, .int .i64 0]) ∧ w = w' := by
  have H := hid h
  have Hx := hid hx
  clear h hx
  go_enter Try.func81, Try.ntmps81
  go_wp2_with (go_at_call 91; refine (isFinite_t x Hx.out H.out _).mono ?_; rintro e w' ⟨rfl, rfl⟩)
  go_ret2
  exact ⟨rfl, rfl⟩

theorem iTold_f (x : Nat) (hx : x < 4294967296) (h : finB x = false) (w : World) :
    Calls Try.prog 81 #[.float .f32 x] w fun e w' => e = .returned (.tuple #[.float .f32 0, .int .i64 4]) ∧ Below w.heap.size w w' := by
  have H := hid h
  have Hx := hid hx
  clear h hx
  go_enter Try.func81, Try.ntmps81
  go_wp2_with (go_at_call 91; refine (isFinite_f x Hx.out H.out _).mono ?_; rintro e w' ⟨rfl, hb⟩)
  go_ret2
  exact ⟨rfl, hb⟩

theorem iTold (x : Nat) (hx : x < 4294967296) (w : World) :
    Calls Try.prog 81 #[.float .f32 x] w fun e w' => e = .returned (told x) ∧ Below w.heap.size w w' := by
  rcases h : finB x with _ | _
  · rw [told_f h]; exact iTold_f x hx h w
  · rw [told_t h]; exact (iTold_t x hx h w).mono fun e w' ⟨a, b⟩ => ⟨a, b ▸ Below.refl _ _⟩

theorem sTold_t (x : Nat) (hx : x < 4294967296) (h : finB x = true) (w : World) :
    Calls Try.prog 107 #[.float .f32 x] w fun e w' => e = .returned (.tuple #[.float .f32 x, .int .i64 0]) ∧ w = w' := by
  have H := hid h
  have Hx := hid hx
  clear h hx
  go_enter Try.func107, Try.ntmps107
  go_wp2_with (go_at_call 95; refine (sFinite_t x Hx.out H.out _).mono ?_; rintro e w' ⟨rfl, rfl⟩)
  go_ret2
  exact ⟨rfl, rfl⟩

theorem sTold_f (x : Nat) (hx : x < 4294967296) (h : finB x = false) (w : World) :
    Calls Try.prog 107 #[.float .f32 x] w fun e w' => e = .returned (.tuple #[.float .f32 0, .int .i64 4]) ∧ Below w.heap.size w w' := by
  have H := hid h
  have Hx := hid hx
  clear h hx
  go_enter Try.func107, Try.ntmps107
  go_wp2_with (go_at_call 95; refine (sFinite_f x Hx.out H.out _).mono ?_; rintro e w' ⟨rfl, hb⟩)
  go_ret2
  exact ⟨rfl, hb⟩

theorem sTold (x : Nat) (hx : x < 4294967296) (w : World) :
    Calls Try.prog 107 #[.float .f32 x] w fun e w' => e = .returned (told x) ∧ Below w.heap.size w w' := by
  rcases h : finB x with _ | _
  · rw [told_f h]; exact sTold_f x hx h w
  · rw [told_t h]; exact (sTold_t x hx h w).mono fun e w' ⟨a, b⟩ => ⟨a, b ▸ Below.refl _ _⟩

/-- The mass of a class, as a word. -/
theorem iMass (k : Nat) (hk : k < 20) (w : World) :
    Calls Try.prog 88 #[.int .i64 (k : Int)] w fun e w' => e = .returned (.float .f32 (mass k)) ∧ w = w' := by
  have H : k = 0 ∨ k = 1 ∨ k = 2 ∨ k = 3 ∨ k = 4 ∨ k = 5 ∨ k = 6 ∨ k = 7 ∨ k = 8 ∨ k = 9 ∨ k = 10 ∨ k = 11 ∨ k = 12 ∨ k = 13 ∨ k = 14 ∨ k = 15 ∨ k = 16 ∨ k = 17 ∨ k = 18 ∨ k = 19 := by omega
  rcases H with rfl | rfl | rfl | rfl | rfl | rfl | rfl | rfl | rfl | rfl | rfl | rfl | rfl | rfl | rfl | rfl | rfl | rfl | rfl | rfl
  all_goals
    go_enter Try.func88, Try.ntmps88
    go_wp2
    go_ret
    exact ⟨rfl, rfl⟩
end Go.Proofs.Ytbniidfojllflaa
