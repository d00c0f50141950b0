import Derived.Test.YtbniidfojllflaaFlW
/- Pure facts on signs, infinities and NaNs of single words, and on their widening. No program. -/
namespace Go.Fl
open Ieee

/-- What the lower 31 bits of a word are. -/
def mg (x : Nat) : Nat := x % 2147483648

theorem read_sign {x : Nat} (hx : x < 4294967296) : S.read x = match S.read (mg x) with
    | .number _ m e => .number (decide (2147483648 ≤ x)) m e
    | .infinity _ => .infinity (decide (2147483648 ≤ x))
    | .nan _ t => .nan (decide (2147483648 ≤ x)) t := by
  unfold mg Format.read
  simp only [sw_S, bin_S, infRung_S, Nat.mod_mod]
  have hn : (x / 2147483648 % 2 == 1) = decide (2147483648 ≤ x) := by
    by_cases h : 2147483648 ≤ x
    · rw [show x / 2147483648 = 1 by omega, decide_eq_true h]; rfl
    · rw [show x / 2147483648 = 0 by omega, decide_eq_false h]; rfl
  rw [hn]
  by_cases h1 : x % 2147483648 < 8388608
  · simp [h1]
  · by_cases h2 : x % 2147483648 < 2139095040
    · simp [h1, h2]
    · by_cases h3 : x % 2147483648 = 2139095040 <;> simp [h3]
      simp [h1, h2]

theorem read_signD {x : Nat} (hx : x < 18446744073709551616) : D.read x = match D.read (x % 9223372036854775808) with
    | .number _ m e => .number (decide (9223372036854775808 ≤ x)) m e
    | .infinity _ => .infinity (decide (9223372036854775808 ≤ x))
    | .nan _ t => .nan (decide (9223372036854775808 ≤ x)) t := by
  unfold Format.read
  simp only [sw_D, bin_D, infRung_D, Nat.mod_mod]
  have hn : (x / 9223372036854775808 % 2 == 1) = decide (9223372036854775808 ≤ x) := by
    by_cases h : 9223372036854775808 ≤ x
    · rw [show x / 9223372036854775808 = 1 by omega, decide_eq_true h]; rfl
    · rw [show x / 9223372036854775808 = 0 by omega, decide_eq_false h]; rfl
  rw [hn]
  by_cases h1 : x % 9223372036854775808 < 4503599627370496
  · simp [h1]
  · by_cases h2 : x % 9223372036854775808 < 9218868437227405312
    · simp [h1, h2]
    · by_cases h3 : x % 9223372036854775808 = 9218868437227405312 <;> simp [h3]
      simp [h1, h2]

theorem read_nan {x : Nat} (hx : INF < mg x) : ∃ s t, S.read x = .nan s t := by
  rw [INF_val] at hx
  unfold mg at hx
  unfold Format.read
  simp only [sw_S, bin_S, infRung_S]
  rw [if_neg (by omega), if_neg (by omega), if_neg (by omega)]
  exact ⟨_, _, rfl⟩

theorem read_nanD {x : Nat} (hx : DINF < x % 9223372036854775808) : ∃ s t, D.read x = .nan s t := by
  rw [DINF_val] at hx
  unfold Format.read
  simp only [sw_D, bin_D, infRung_D]
  rw [if_neg (by omega), if_neg (by omega), if_neg (by omega)]
  exact ⟨_, _, rfl⟩

theorem mg_lt (x : Nat) : mg x < 2147483648 := Nat.mod_lt _ (by decide)

/-- A finite word of either sign reads as a number. -/
theorem read_fin {x : Nat} (hx : x < 4294967296) (h : mg x < INF) : ∃ m e, S.read (mg x) = .number false m e ∧ S.read x = .number (decide (2147483648 ≤ x)) m e := by
  obtain ⟨m, e, h1⟩ := read_lt h
  exact ⟨m, e, h1, by rw [read_sign hx, h1]⟩

theorem write_sign (s : Bool) (m : Nat) (e : Int) : D.write (.number s m e) = (if s then 9223372036854775808 else 0) + D.write (.number false m e) := by
  cases s
  · simp
  · show D.nearest true m e = _ + D.nearest false m e
    unfold Format.nearest
    split
    · simp [Format.word, sw_D]
    · simp only [Toward.cut, Format.word, sw_D]
      simp

theorem wid_fin {x : Nat} (hx : x < 4294967296) (h : mg x < INF) : wid x = (if 2147483648 ≤ x then 9223372036854775808 else 0) + wid (mg x) := by
  obtain ⟨m, e, h1, h2⟩ := read_fin hx h
  unfold wid
  rw [h1, h2, write_sign]
  by_cases hs : 2147483648 ≤ x <;> simp [hs]

theorem order_self {m : Nat} {e : Int} {s : Bool} {x : Nat} (h : D.read x = .number s m e) : D.order x x = some .eq := by
  unfold Format.order
  rw [h]
  simp [Datum.order]

theorem order_inf {s : Bool} {x : Nat} (h : D.read x = .infinity s) : D.order x x = some .eq := by
  unfold Format.order
  rw [h]
  simp [Datum.order]

theorem order_nan {s : Bool} {t x y : Nat} (h : D.read x = .nan s t) : D.order x y = none := by
  unfold Format.order
  rw [h]
  rfl

theorem read_wid_fin {x : Nat} (hx : x < 4294967296) (h : mg x < INF) : wid (mg x) < DINF ∧ wid x % 9223372036854775808 = wid (mg x) ∧ ∃ m e, D.read (wid x) = .number (decide (2147483648 ≤ x)) m e := by
  obtain ⟨a, _⟩ := wid_val h
  have a' := a
  rw [DINF_val] at a'
  have hw := wid_fin hx h
  have e1 : wid x % 9223372036854775808 = wid (mg x) := by rw [hw]; split <;> omega
  refine ⟨a, e1, ?_⟩
  obtain ⟨m, e, h1⟩ := read_ltD a
  refine ⟨m, e, ?_⟩
  rw [read_signD (by rw [hw]; split <;> omega), e1, h1]
  have : (9223372036854775808 ≤ wid x) ↔ 2147483648 ≤ x := by rw [hw]; split <;> omega
  simp [this]

end Go.Fl
