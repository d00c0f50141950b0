import Derived.Laws.FloatArith
import Derived.ProofKit
import Derived.WalkKit
import Derived.WalkLawsBesides
import Derived.WalkSpells
import Derived.Deep.RegionHeld3
import Derived.ChangeKeysEq
import Derived.Laws.BitsAllLaws
import Derived.Deep.MidRow
import Derived.Deep.WholeRow
import Derived.StillTailTactics
import Derived.Deep.Slices
import Derived.ChangeSame
import Derived.OrdersIn
import Derived.ControlIn
import Derived.RangeFuncSeq
import Derived.RangeFuncNested
import Derived.ArgAppend
import Derived.OwnWalkIn
import Derived.TacticsInMore
import Derived.Below
import Derived.Laws.AppendOwn
import Derived.Laws.ComplexArith
import Derived.Deep.Strs
import Derived.Laws.IdiomStrings
import Derived.Laws.Bits64b
import Derived.Deep.QuietTactic
import Derived.BigQuiet
import Derived.OpenShut
import Derived.Stop.LaidErr
import Derived.LaidMore
import Derived.Handed
import Derived.LaidHandle
import Derived.Stop.Joined
import Derived.MakeChecks
import Derived.Lib.LaidTab
import Derived.StillTail
import Derived.Shelf.Strings.OnBuilder
import Derived.Lib.Join
import Derived.RangeFuncLeaves
import Derived.RangeFuncBox
import Derived.MapKept
import Derived.Lib.ItoaNum
import Derived.Lib.ItoaLen
import Derived.Lib.ItoaMem
import Derived.Shelf.Strconv.Itoa4
import Derived.Lib.AppendIntMem
import Derived.Shelf.Strings.BuilderK
import Derived.HandedShaped
import Derived.Shelf.Vars
import Derived.Lay
import Derived.SevenTiedAt
/- What the law ColumnText leans on, of no program: words of singles and doubles, blocks of memory, regions. -/
/- Pure facts on single-precision words. No program. -/
namespace Go.Fl
open Ieee

abbrev S : Ieee.Format := Ieee.single

/-- The word of positive infinity: a word below it is a finite number that is at least +0. -/
def INF : Nat := 0x7f800000

theorem INF_val : INF = 2139095040 := rfl
theorem infRung_S : S.infRung = 2139095040 := by decide
theorem sw_S : S.signWeight = 2147483648 := by decide
theorem bin_S : S.binade = 8388608 := by decide

def NN (d : Datum) : Prop := (∃ m e, d = .number false m e) ∨ d = .infinity false

theorem NN_number {s : Bool} {m : Nat} {e : Int} (h : s = false) : NN (.number s m e) := by subst h; exact .inl ⟨_, _, rfl⟩

theorem read_lt {x : Nat} (h : x < INF) : ∃ m e, S.read x = .number false m e := by
  rw [INF_val] at h
  have hd : x / 2147483648 = 0 := Nat.div_eq_of_lt (by omega)
  have hm : x % 2147483648 = x := Nat.mod_eq_of_lt (by omega)
  unfold Format.read
  simp only [sw_S, bin_S, infRung_S, hd, hm]
  by_cases h1 : x < 8388608
  · simp [h1]
  · simp [h1, h]

theorem read_INF : S.read INF = .infinity false := by decide

theorem read_nn {x : Nat} (h : x ≤ INF) : NN (S.read x) := by
  rcases Nat.lt_or_eq_of_le h with h | h
  · exact .inl (read_lt h)
  · subst h; exact .inr read_INF

theorem write_nn {d : Datum} (h : NN d) : S.write d ≤ INF := by
  rw [INF_val]
  rcases h with ⟨m, e, rfl⟩ | rfl
  · show S.nearest false m e ≤ _
    unfold Format.nearest
    split
    · simp [Format.word]
    · simp only [Format.word]
      have := Nat.min_le_right (((max (e + m.log2 - S.fractionBits) S.leastPlace) - S.leastPlace).toNat * S.binade + Toward.even.cut false (m <<< (e - max (e + m.log2 - S.fractionBits) S.leastPlace).toNat) ((max (e + m.log2 - S.fractionBits) S.leastPlace) - e).toNat) S.infRung
      rw [infRung_S] at this ⊢
      simpa using this
  · decide

theorem add_nn {x y : Nat} (hx : x ≤ INF) (hy : y ≤ INF) : ∃ r, S.add x y = some r ∧ r ≤ INF := by
  unfold Format.add
  rcases read_nn hx with ⟨m, e, h1⟩ | h1 <;> rcases read_nn hy with ⟨n, f, h2⟩ | h2 <;> rw [h1, h2]
  · refine ⟨_, rfl, write_nn (NN_number ?_)⟩
    simp only [signed, Bool.false_eq_true, if_false]
    split
    · rfl
    · refine decide_eq_false ?_
      have h1 : (0 : Int) ≤ ((m <<< (e - min e f).toNat : Nat) : Int) := Int.natCast_nonneg _
      have h2 : (0 : Int) ≤ ((n <<< (f - min e f).toNat : Nat) : Int) := Int.natCast_nonneg _
      intro h; exact absurd (Int.add_nonneg h1 h2) (Int.not_le.2 h)
  · exact ⟨_, rfl, write_nn (.inr rfl)⟩
  · exact ⟨_, rfl, write_nn (.inr rfl)⟩
  · exact ⟨_, rfl, write_nn (.inr (by simp))⟩

theorem mul_nn {x y : Nat} (hx : x < INF) (hy : y < INF) : ∃ r, S.mul x y = some r ∧ r ≤ INF := by
  unfold Format.mul
  obtain ⟨m, e, h1⟩ := read_lt hx
  obtain ⟨n, f, h2⟩ := read_lt hy
  rw [h1, h2]
  exact ⟨_, rfl, write_nn (.inl ⟨_, _, rfl⟩)⟩

theorem sub_fin {x y : Nat} (hx : x < INF) (hy : y < INF) : ∃ r, S.sub x y = some r ∧ r < 2 ^ 32 := by
  obtain ⟨m, e, h1⟩ := read_lt hx
  obtain ⟨n, f, h2⟩ := read_lt hy
  have : ∃ r, S.sub x y = some r := by
    unfold Format.sub
    rw [h1, h2]
    exact ⟨_, rfl⟩
  obtain ⟨r, hr⟩ := this
  exact ⟨r, hr, S.sub_lt hr⟩

theorem sub_self {x : Nat} (hx : x < INF) : S.sub x x = some 0 := by
  obtain ⟨m, e, h1⟩ := read_lt hx
  unfold Format.sub
  rw [h1]
  simp [Datum.opposite, Datum.sum, signed, Int.add_right_neg, Format.write, Format.nearest, Format.word]

/-- A finite word's magnitude in units of the least subnormal number. -/
def val (x : Nat) : Nat := if x < 8388608 then x else (8388608 + x % 8388608) * 2 ^ (x / 8388608 - 1)

theorem val_lt {x y : Nat} (h : x < y) : val x < val y := by
  unfold val
  by_cases h1 : y < 8388608
  · rw [if_pos (by omega), if_pos h1]; exact h
  rw [if_neg h1]
  by_cases h2 : x < 8388608
  · rw [if_pos h2]
    have : 0 < 2 ^ (y / 8388608 - 1) := Nat.two_pow_pos _
    calc x < 8388608 + y % 8388608 := by omega
      _ ≤ _ := Nat.le_mul_of_pos_right _ this
  rw [if_neg h2]
  by_cases h3 : x / 8388608 = y / 8388608
  · rw [h3]
    exact Nat.mul_lt_mul_of_pos_right (by omega) (Nat.two_pow_pos _)
  · have h4 : x / 8388608 < y / 8388608 := by omega
    obtain ⟨d, hd⟩ : ∃ d, y / 8388608 - 1 = (x / 8388608 - 1) + 1 + d := ⟨y / 8388608 - 1 - (x / 8388608 - 1) - 1, by omega⟩
    rw [hd, Nat.pow_add, Nat.pow_succ]
    have hp : 0 < 2 ^ (x / 8388608 - 1) := Nat.two_pow_pos _
    have hq : 0 < 2 ^ d := Nat.two_pow_pos _
    calc (8388608 + x % 8388608) * 2 ^ (x / 8388608 - 1) < 16777216 * 2 ^ (x / 8388608 - 1) := Nat.mul_lt_mul_of_pos_right (by omega) hp
      _ = 8388608 * (2 ^ (x / 8388608 - 1) * 2) := by omega
      _ ≤ 8388608 * (2 ^ (x / 8388608 - 1) * 2 * 2 ^ d) := Nat.mul_le_mul_left _ (Nat.le_mul_of_pos_right _ hq)
      _ ≤ _ := Nat.mul_le_mul_right _ (by omega)

theorem read_val {x : Nat} (h : x < INF) : ∃ m k, S.read x = .number false m (-149 + (k : Nat)) ∧ val x = m * 2 ^ k := by
  rw [INF_val] at h
  have hd : x / 2147483648 = 0 := Nat.div_eq_of_lt (by omega)
  have hm : x % 2147483648 = x := Nat.mod_eq_of_lt (by omega)
  unfold Format.read val
  simp only [sw_S, bin_S, infRung_S, hd, hm]
  by_cases h1 : x < 8388608
  · refine ⟨x, 0, ?_, ?_⟩
    · simp [h1]; decide
    · simp [h1]
  · refine ⟨8388608 + x % 8388608, x / 8388608 - 1, ?_, ?_⟩
    · simp [h1, h]; decide
    · rw [if_neg h1]

theorem compare_mul (a b k : Nat) (h : 0 < k) : compare (a * k) (b * k) = compare a b := by
  simp only [compare, compareOfLessAndEq, Nat.mul_lt_mul_right h]
  have : a * k = b * k ↔ a = b := ⟨fun e => Nat.eq_of_mul_eq_mul_right h e, fun e => by rw [e]⟩
  simp only [this]

theorem compare_val (x y : Nat) : compare (val x) (val y) = compare x y := by
  rcases Nat.lt_trichotomy x y with h | h | h
  · rw [Nat.compare_eq_lt.2 h, Nat.compare_eq_lt.2 (val_lt h)]
  · subst h; simp
  · rw [Nat.compare_eq_gt.2 h, Nat.compare_eq_gt.2 (val_lt h)]

theorem compare_cast (a b : Nat) : compare (a : Int) (b : Int) = compare a b := by
  simp only [compare, compareOfLessAndEq, Int.ofNat_lt, Int.ofNat_inj]

/-- Two finite words that are at least +0 stand to each other as their bits do. -/
theorem order_lt {x y : Nat} (hx : x < INF) (hy : y < INF) : S.order x y = some (compare x y) := by
  obtain ⟨m, j, h1, v1⟩ := read_val hx
  obtain ⟨n, k, h2, v2⟩ := read_val hy
  unfold Format.order
  rw [h1, h2, ← compare_val x y, v1, v2]
  simp only [Datum.order, signed]
  congr 1
  simp only [Bool.false_eq_true, if_false, Nat.shiftLeft_eq, compare_cast]
  rcases Nat.le_total j k with h | h
  · have e1 : (-149 + (j : Int) - min (-149 + (j : Int)) (-149 + k)).toNat = 0 := by omega
    have e2 : (-149 + (k : Int) - min (-149 + (j : Int)) (-149 + k)).toNat = k - j := by omega
    rw [e1, e2]
    obtain ⟨d, rfl⟩ : ∃ d, k = j + d := ⟨k - j, by omega⟩
    rw [show j + d - j = d by omega, Nat.pow_add, show n * (2 ^ j * 2 ^ d) = n * 2 ^ d * 2 ^ j by rw [Nat.mul_comm (2 ^ j), Nat.mul_assoc], compare_mul _ _ _ (Nat.two_pow_pos _)]
    simp
  · have e1 : (-149 + (j : Int) - min (-149 + (j : Int)) (-149 + k)).toNat = j - k := by omega
    have e2 : (-149 + (k : Int) - min (-149 + (j : Int)) (-149 + k)).toNat = 0 := by omega
    rw [e1, e2]
    obtain ⟨d, rfl⟩ : ∃ d, j = k + d := ⟨j - k, by omega⟩
    rw [show k + d - k = d by omega, Nat.pow_add, show m * (2 ^ k * 2 ^ d) = m * 2 ^ d * 2 ^ k by rw [Nat.mul_comm (2 ^ k), Nat.mul_assoc], compare_mul _ _ _ (Nat.two_pow_pos _)]
    simp

end Go.Fl
/- Pure facts on double-precision words. No program. -/
namespace Go.Fl
open Ieee

abbrev D : Ieee.Format := Ieee.double
def DINF : Nat := 0x7ff0000000000000
theorem DINF_val : DINF = 9218868437227405312 := rfl
theorem infRung_D : D.infRung = 9218868437227405312 := by decide
theorem sw_D : D.signWeight = 9223372036854775808 := by decide
theorem bin_D : D.binade = 4503599627370496 := by decide

theorem read_ltD {x : Nat} (h : x < DINF) : ∃ m e, D.read x = .number false m e := by
  rw [DINF_val] at h
  have hd : x / 9223372036854775808 = 0 := Nat.div_eq_of_lt (by omega)
  have hm : x % 9223372036854775808 = x := Nat.mod_eq_of_lt (by omega)
  unfold Format.read
  simp only [sw_D, bin_D, infRung_D, hd, hm]
  by_cases h1 : x < 4503599627370496
  · simp [h1]
  · simp [h1, h]

theorem read_DINF : D.read DINF = .infinity false := by decide

theorem read_nnD {x : Nat} (h : x ≤ DINF) : NN (D.read x) := by
  rcases Nat.lt_or_eq_of_le h with h | h
  · exact .inl (read_ltD h)
  · subst h; exact .inr read_DINF

theorem write_nnD {d : Datum} (h : NN d) : D.write d ≤ DINF := by
  rw [DINF_val]
  rcases h with ⟨m, e, rfl⟩ | rfl
  · show D.nearest false m e ≤ _
    unfold Format.nearest
    split
    · simp [Format.word]
    · simp only [Format.word]
      have := Nat.min_le_right (((max (e + m.log2 - D.fractionBits) D.leastPlace) - D.leastPlace).toNat * D.binade + Toward.even.cut false (m <<< (e - max (e + m.log2 - D.fractionBits) D.leastPlace).toNat) ((max (e + m.log2 - D.fractionBits) D.leastPlace) - e).toNat) D.infRung
      rw [infRung_D] at this ⊢
      simpa using this
  · decide

theorem add_nnD {x y : Nat} (hx : x ≤ DINF) (hy : y ≤ DINF) : ∃ r, D.add x y = some r ∧ r ≤ DINF := by
  unfold Format.add
  rcases read_nnD hx with ⟨m, e, h1⟩ | h1 <;> rcases read_nnD hy with ⟨n, f, h2⟩ | h2 <;> rw [h1, h2]
  · refine ⟨_, rfl, write_nnD (NN_number ?_)⟩
    simp only [signed, Bool.false_eq_true, if_false]
    split
    · rfl
    · refine decide_eq_false ?_
      have h1 : (0 : Int) ≤ ((m <<< (e - min e f).toNat : Nat) : Int) := Int.natCast_nonneg _
      have h2 : (0 : Int) ≤ ((n <<< (f - min e f).toNat : Nat) : Int) := Int.natCast_nonneg _
      intro h; exact absurd (Int.add_nonneg h1 h2) (Int.not_le.2 h)
  · exact ⟨_, rfl, write_nnD (.inr rfl)⟩
  · exact ⟨_, rfl, write_nnD (.inr rfl)⟩
  · exact ⟨_, rfl, write_nnD (.inr (by simp))⟩

theorem mul_nnD {x y : Nat} (hx : x < DINF) (hy : y < DINF) : ∃ r, D.mul x y = some r ∧ r ≤ DINF := by
  unfold Format.mul
  obtain ⟨m, e, h1⟩ := read_ltD hx
  obtain ⟨n, f, h2⟩ := read_ltD hy
  rw [h1, h2]
  exact ⟨_, rfl, write_nnD (.inl ⟨_, _, rfl⟩)⟩

theorem sub_finD {x y : Nat} (hx : x < DINF) (hy : y < DINF) : ∃ r, D.sub x y = some r ∧ r < 2 ^ 64 := by
  obtain ⟨m, e, h1⟩ := read_ltD hx
  obtain ⟨n, f, h2⟩ := read_ltD hy
  have : ∃ r, D.sub x y = some r := by
    unfold Format.sub
    rw [h1, h2]
    exact ⟨_, rfl⟩
  obtain ⟨r, hr⟩ := this
  exact ⟨r, hr, D.sub_lt hr⟩

theorem sub_selfD {x : Nat} (hx : x < DINF) : D.sub x x = some 0 := by
  obtain ⟨m, e, h1⟩ := read_ltD hx
  unfold Format.sub
  rw [h1]
  simp [Datum.opposite, Datum.sum, signed, Int.add_right_neg, Format.write, Format.nearest, Format.word]

/-- A finite word's magnitude in units of the least subnormal number. -/
def valD (x : Nat) : Nat := if x < 4503599627370496 then x else (4503599627370496 + x % 4503599627370496) * 2 ^ (x / 4503599627370496 - 1)

theorem val_ltD {x y : Nat} (h : x < y) : valD x < valD y := by
  unfold valD
  by_cases h1 : y < 4503599627370496
  · rw [if_pos (by omega), if_pos h1]; exact h
  rw [if_neg h1]
  by_cases h2 : x < 4503599627370496
  · rw [if_pos h2]
    have : 0 < 2 ^ (y / 4503599627370496 - 1) := Nat.two_pow_pos _
    calc x < 4503599627370496 + y % 4503599627370496 := by omega
      _ ≤ _ := Nat.le_mul_of_pos_right _ this
  rw [if_neg h2]
  by_cases h3 : x / 4503599627370496 = y / 4503599627370496
  · rw [h3]
    exact Nat.mul_lt_mul_of_pos_right (by omega) (Nat.two_pow_pos _)
  · have h4 : x / 4503599627370496 < y / 4503599627370496 := by omega
    obtain ⟨d, hd⟩ : ∃ d, y / 4503599627370496 - 1 = (x / 4503599627370496 - 1) + 1 + d := ⟨y / 4503599627370496 - 1 - (x / 4503599627370496 - 1) - 1, by omega⟩
    rw [hd, Nat.pow_add, Nat.pow_succ]
    have hp : 0 < 2 ^ (x / 4503599627370496 - 1) := Nat.two_pow_pos _
    have hq : 0 < 2 ^ d := Nat.two_pow_pos _
    calc (4503599627370496 + x % 4503599627370496) * 2 ^ (x / 4503599627370496 - 1) < 9007199254740992 * 2 ^ (x / 4503599627370496 - 1) := Nat.mul_lt_mul_of_pos_right (by omega) hp
      _ = 4503599627370496 * (2 ^ (x / 4503599627370496 - 1) * 2) := by omega
      _ ≤ 4503599627370496 * (2 ^ (x / 4503599627370496 - 1) * 2 * 2 ^ d) := Nat.mul_le_mul_left _ (Nat.le_mul_of_pos_right _ hq)
      _ ≤ _ := Nat.mul_le_mul_right _ (by omega)

theorem read_valD {x : Nat} (h : x < DINF) : ∃ m k, D.read x = .number false m (-1074 + (k : Nat)) ∧ valD x = m * 2 ^ k := by
  rw [DINF_val] at h
  have hd : x / 9223372036854775808 = 0 := Nat.div_eq_of_lt (by omega)
  have hm : x % 9223372036854775808 = x := Nat.mod_eq_of_lt (by omega)
  unfold Format.read valD
  simp only [sw_D, bin_D, infRung_D, hd, hm]
  by_cases h1 : x < 4503599627370496
  · refine ⟨x, 0, ?_, ?_⟩
    · simp [h1]; decide
    · simp [h1]
  · refine ⟨4503599627370496 + x % 4503599627370496, x / 4503599627370496 - 1, ?_, ?_⟩
    · simp [h1, h]; decide
    · rw [if_neg h1]

theorem compare_valD (x y : Nat) : compare (valD x) (valD y) = compare x y := by
  rcases Nat.lt_trichotomy x y with h | h | h
  · rw [Nat.compare_eq_lt.2 h, Nat.compare_eq_lt.2 (val_ltD h)]
  · subst h; simp
  · rw [Nat.compare_eq_gt.2 h, Nat.compare_eq_gt.2 (val_ltD h)]

/-- Two finite words that are at least +0 stand to each other as their bits do. -/
theorem order_ltD {x y : Nat} (hx : x < DINF) (hy : y < DINF) : D.order x y = some (compare x y) := by
  obtain ⟨m, j, h1, v1⟩ := read_valD hx
  obtain ⟨n, k, h2, v2⟩ := read_valD hy
  unfold Format.order
  rw [h1, h2, ← compare_valD x y, v1, v2]
  simp only [Datum.order, signed]
  congr 1
  simp only [Bool.false_eq_true, if_false, Nat.shiftLeft_eq, compare_cast]
  rcases Nat.le_total j k with h | h
  · have e1 : (-1074 + (j : Int) - min (-1074 + (j : Int)) (-1074 + k)).toNat = 0 := by omega
    have e2 : (-1074 + (k : Int) - min (-1074 + (j : Int)) (-1074 + k)).toNat = k - j := by omega
    rw [e1, e2]
    obtain ⟨d, rfl⟩ : ∃ d, k = j + d := ⟨k - j, by omega⟩
    rw [show j + d - j = d by omega, Nat.pow_add, show n * (2 ^ j * 2 ^ d) = n * 2 ^ d * 2 ^ j by rw [Nat.mul_comm (2 ^ j), Nat.mul_assoc], compare_mul _ _ _ (Nat.two_pow_pos _)]
    simp
  · have e1 : (-1074 + (j : Int) - min (-1074 + (j : Int)) (-1074 + k)).toNat = j - k := by omega
    have e2 : (-1074 + (k : Int) - min (-1074 + (j : Int)) (-1074 + k)).toNat = 0 := by omega
    rw [e1, e2]
    obtain ⟨d, rfl⟩ : ∃ d, j = k + d := ⟨j - k, by omega⟩
    rw [show k + d - k = d by omega, Nat.pow_add, show m * (2 ^ k * 2 ^ d) = m * 2 ^ d * 2 ^ k by rw [Nat.mul_comm (2 ^ k), Nat.mul_assoc], compare_mul _ _ _ (Nat.two_pow_pos _)]
    simp

end Go.Fl
/- Pure facts on widening a single to a double. No program. -/
namespace Go.Fl
open Ieee

def wid (x : Nat) : Nat := D.write (S.read x)
def WEXP : Nat := 925

theorem read_val_bd {x : Nat} (h : x < INF) : ∃ m k, S.read x = .number false m (-149 + (k : Nat)) ∧ val x = m * 2 ^ k ∧ m < 16777216 ∧ k ≤ 253 := by
  rw [INF_val] at h
  have hd : x / 2147483648 = 0 := Nat.div_eq_of_lt (by omega)
  have hm : x % 2147483648 = x := Nat.mod_eq_of_lt (by omega)
  unfold Format.read val
  simp only [sw_S, bin_S, infRung_S, hd, hm]
  by_cases h1 : x < 8388608
  · refine ⟨x, 0, ?_, ?_, by omega, by omega⟩
    · simp [h1]; decide
    · simp [h1]
  · refine ⟨8388608 + x % 8388608, x / 8388608 - 1, ?_, ?_, by omega, by omega⟩
    · simp [h1, h]; decide
    · rw [if_neg h1]

theorem cut_zero (n : Nat) : Toward.even.cut false n 0 = n := by
  simp [Toward.cut, Nat.mod_one]

theorem lp_D : D.leastPlace = -1074 := by decide
theorem fb_D : D.fractionBits = 52 := by decide

theorem write_exact {m k : Nat} (hm0 : m ≠ 0) (hm : m < 16777216) (hk : k ≤ 253) :
    D.write (.number false m (-149 + (k : Nat))) = (k + m.log2 + 873) * 4503599627370496 + m * 2 ^ (52 - m.log2) ∧
    4503599627370496 ≤ m * 2 ^ (52 - m.log2) ∧ m * 2 ^ (52 - m.log2) < 9007199254740992 ∧ m.log2 ≤ 23 := by
  have hL : m.log2 ≤ 23 := by
    have : m.log2 < 24 := (Nat.log2_lt hm0).2 (by omega)
    omega
  have h1 : 2 ^ m.log2 ≤ m := Nat.log2_self_le hm0
  have h2 : m < 2 ^ (m.log2 + 1) := Nat.lt_log2_self
  have hk1 : 4503599627370496 ≤ m * 2 ^ (52 - m.log2) := by
    calc 4503599627370496 = 2 ^ m.log2 * 2 ^ (52 - m.log2) := by rw [← Nat.pow_add, show m.log2 + (52 - m.log2) = 52 by omega]
      _ ≤ _ := Nat.mul_le_mul_right _ h1
  have hk2 : m * 2 ^ (52 - m.log2) < 9007199254740992 := by
    calc m * 2 ^ (52 - m.log2) < 2 ^ (m.log2 + 1) * 2 ^ (52 - m.log2) := Nat.mul_lt_mul_of_pos_right h2 (Nat.two_pow_pos _)
      _ = 9007199254740992 := by rw [← Nat.pow_add, show m.log2 + 1 + (52 - m.log2) = 53 by omega]
  refine ⟨?_, hk1, hk2, hL⟩
  show D.nearest false m _ = _
  unfold Format.nearest
  rw [if_neg hm0]
  have e1 : max (-149 + (k : Int) + (m.log2 : Int) - (D.fractionBits : Nat)) D.leastPlace = (k : Int) + m.log2 - 201 := by
    rw [lp_D, fb_D]; omega
  simp only [e1]
  rw [show (-149 + (k : Int) - ((k : Int) + m.log2 - 201)).toNat = 52 - m.log2 by omega,
    show ((k : Int) + m.log2 - 201 - (-149 + (k : Int))).toNat = 0 by omega, cut_zero, lp_D, Nat.shiftLeft_eq,
    show ((k : Int) + m.log2 - 201 - -1074).toNat = k + m.log2 + 873 by omega, bin_D, infRung_D]
  have : min ((k + m.log2 + 873) * 4503599627370496 + m * 2 ^ (52 - m.log2)) 9218868437227405312 = (k + m.log2 + 873) * 4503599627370496 + m * 2 ^ (52 - m.log2) := by
    apply Nat.min_eq_left
    omega
  rw [this]
  simp [Format.word]

theorem wid_val {x : Nat} (h : x < INF) : wid x < DINF ∧ valD (wid x) = val x * 2 ^ WEXP := by
  obtain ⟨m, k, h1, hv, hm, hk⟩ := read_val_bd h
  unfold wid
  rw [h1, hv, DINF_val]
  by_cases hm0 : m = 0
  · subst hm0
    have e : D.write (.number false 0 (-149 + (k : Nat))) = 0 := by simp [Format.write, Format.nearest, Format.word]
    rw [e]
    exact ⟨by decide, by simp [valD]⟩
  obtain ⟨e, a, b, hL⟩ := write_exact hm0 hm hk
  rw [e]
  generalize hK : m * 2 ^ (52 - m.log2) = K at *
  refine ⟨by omega, ?_⟩
  unfold valD
  rw [if_neg (by omega), show ((k + m.log2 + 873) * 4503599627370496 + K) % 4503599627370496 = K - 4503599627370496 by omega,
    show ((k + m.log2 + 873) * 4503599627370496 + K) / 4503599627370496 = k + m.log2 + 874 by omega,
    show 4503599627370496 + (K - 4503599627370496) = K by omega, ← hK, Nat.mul_assoc, ← Nat.pow_add, Nat.mul_assoc, ← Nat.pow_add]
  have hW : WEXP = 925 := rfl
  rw [show 52 - m.log2 + (k + m.log2 + 874 - 1) = k + WEXP by omega]

/-- The two formats agree on how finite words stand to each other. -/
theorem order_wid {x y : Nat} (hx : x < INF) (hy : y < INF) : D.order (wid x) (wid y) = some (compare x y) := by
  obtain ⟨a, b⟩ := wid_val hx
  obtain ⟨c, d⟩ := wid_val hy
  rw [order_ltD a c, ← compare_valD, b, d, compare_mul _ _ _ (Nat.two_pow_pos _), compare_val]

end Go.Fl
/- Pure facts on signs, infinities and NaNs of single words, and on their widening. No program. -/
namespace Go.Fl
open Ieee

/-- What the lower 31 bits of a word are. -/
def mg (x : Nat) : Nat := x % 2147483648

theorem read_sign {x : Nat} (hx : x < 4294967296) : S.read x = match S.read (mg x) with
    | .number _ m e => .number (decide (2147483648 ≤ x)) m e
    | .infinity _ => .infinity (decide (2147483648 ≤ x))
    | .nan _ t => .nan (decide (2147483648 ≤ x)) t := by
  unfold mg Format.read
  simp only [sw_S, bin_S, infRung_S, Nat.mod_mod]
  have hn : (x / 2147483648 % 2 == 1) = decide (2147483648 ≤ x) := by
    by_cases h : 2147483648 ≤ x
    · rw [show x / 2147483648 = 1 by omega, decide_eq_true h]; rfl
    · rw [show x / 2147483648 = 0 by omega, decide_eq_false h]; rfl
  rw [hn]
  by_cases h1 : x % 2147483648 < 8388608
  · simp [h1]
  · by_cases h2 : x % 2147483648 < 2139095040
    · simp [h1, h2]
    · by_cases h3 : x % 2147483648 = 2139095040 <;> simp [h3]
      simp [h1, h2]

theorem read_signD {x : Nat} (hx : x < 18446744073709551616) : D.read x = match D.read (x % 9223372036854775808) with
    | .number _ m e => .number (decide (9223372036854775808 ≤ x)) m e
    | .infinity _ => .infinity (decide (9223372036854775808 ≤ x))
    | .nan _ t => .nan (decide (9223372036854775808 ≤ x)) t := by
  unfold Format.read
  simp only [sw_D, bin_D, infRung_D, Nat.mod_mod]
  have hn : (x / 9223372036854775808 % 2 == 1) = decide (9223372036854775808 ≤ x) := by
    by_cases h : 9223372036854775808 ≤ x
    · rw [show x / 9223372036854775808 = 1 by omega, decide_eq_true h]; rfl
    · rw [show x / 9223372036854775808 = 0 by omega, decide_eq_false h]; rfl
  rw [hn]
  by_cases h1 : x % 9223372036854775808 < 4503599627370496
  · simp [h1]
  · by_cases h2 : x % 9223372036854775808 < 9218868437227405312
    · simp [h1, h2]
    · by_cases h3 : x % 9223372036854775808 = 9218868437227405312 <;> simp [h3]
      simp [h1, h2]

theorem read_nan {x : Nat} (hx : INF < mg x) : ∃ s t, S.read x = .nan s t := by
  rw [INF_val] at hx
  unfold mg at hx
  unfold Format.read
  simp only [sw_S, bin_S, infRung_S]
  rw [if_neg (by omega), if_neg (by omega), if_neg (by omega)]
  exact ⟨_, _, rfl⟩

theorem read_nanD {x : Nat} (hx : DINF < x % 9223372036854775808) : ∃ s t, D.read x = .nan s t := by
  rw [DINF_val] at hx
  unfold Format.read
  simp only [sw_D, bin_D, infRung_D]
  rw [if_neg (by omega), if_neg (by omega), if_neg (by omega)]
  exact ⟨_, _, rfl⟩

theorem mg_lt (x : Nat) : mg x < 2147483648 := Nat.mod_lt _ (by decide)

/-- A finite word of either sign reads as a number. -/
theorem read_fin {x : Nat} (hx : x < 4294967296) (h : mg x < INF) : ∃ m e, S.read (mg x) = .number false m e ∧ S.read x = .number (decide (2147483648 ≤ x)) m e := by
  obtain ⟨m, e, h1⟩ := read_lt h
  exact ⟨m, e, h1, by rw [read_sign hx, h1]⟩

theorem write_sign (s : Bool) (m : Nat) (e : Int) : D.write (.number s m e) = (if s then 9223372036854775808 else 0) + D.write (.number false m e) := by
  cases s
  · simp
  · show D.nearest true m e = _ + D.nearest false m e
    unfold Format.nearest
    split
    · simp [Format.word, sw_D]
    · simp only [Toward.cut, Format.word, sw_D]
      simp

theorem wid_fin {x : Nat} (hx : x < 4294967296) (h : mg x < INF) : wid x = (if 2147483648 ≤ x then 9223372036854775808 else 0) + wid (mg x) := by
  obtain ⟨m, e, h1, h2⟩ := read_fin hx h
  unfold wid
  rw [h1, h2, write_sign]
  by_cases hs : 2147483648 ≤ x <;> simp [hs]

theorem order_self {m : Nat} {e : Int} {s : Bool} {x : Nat} (h : D.read x = .number s m e) : D.order x x = some .eq := by
  unfold Format.order
  rw [h]
  simp [Datum.order]

theorem order_inf {s : Bool} {x : Nat} (h : D.read x = .infinity s) : D.order x x = some .eq := by
  unfold Format.order
  rw [h]
  simp [Datum.order]

theorem order_nan {s : Bool} {t x y : Nat} (h : D.read x = .nan s t) : D.order x y = none := by
  unfold Format.order
  rw [h]
  rfl

theorem read_wid_fin {x : Nat} (hx : x < 4294967296) (h : mg x < INF) : wid (mg x) < DINF ∧ wid x % 9223372036854775808 = wid (mg x) ∧ ∃ m e, D.read (wid x) = .number (decide (2147483648 ≤ x)) m e := by
  obtain ⟨a, _⟩ := wid_val h
  have a' := a
  rw [DINF_val] at a'
  have hw := wid_fin hx h
  have e1 : wid x % 9223372036854775808 = wid (mg x) := by rw [hw]; split <;> omega
  refine ⟨a, e1, ?_⟩
  obtain ⟨m, e, h1⟩ := read_ltD a
  refine ⟨m, e, ?_⟩
  rw [read_signD (by rw [hw]; split <;> omega), e1, h1]
  have : (9223372036854775808 ≤ wid x) ↔ 2147483648 ≤ x := by rw [hw]; split <;> omega
  simp [this]

end Go.Fl
/- Arrays of twenty single-precision numbers as values. No program. -/
namespace Go.Fl
open Go.RowKit

def fls (c : Nat → Nat) : Array Value := Array.ofFn (n := 20) fun i => Value.float .f32 (c i.val)

@[simp, go_sem] theorem fls_size (c : Nat → Nat) : (fls c).size = 20 := by simp [fls]

theorem fls_get (c : Nat → Nat) {k : Nat} (h : k < 20) : (fls c)[k]? = some (.float .f32 (c k)) := by
  simp [fls, h]

theorem fls_none (c : Nat → Nat) {k : Nat} (h : 20 ≤ k) : (fls c)[k]? = none := by
  simp [fls]; omega

theorem fls_ext {c d : Nat → Nat} (h : ∀ i, i < 20 → c i = d i) : fls c = fls d := by
  unfold fls
  congr 1
  funext i
  rw [h i.val i.isLt]

def upd (c : Nat → Nat) (k x : Nat) : Nat → Nat := fun i => if i = k then x else c i

theorem fls_set (c : Nat → Nat) (k x : Nat) : (fls c).setIfInBounds k (.float .f32 x) = fls (upd c k x) := by
  apply Array.ext_getElem?
  intro i
  rw [Array.getElem?_setIfInBounds]
  by_cases hi : i < 20
  · rw [fls_get _ hi, fls_get _ hi, fls_size]
    by_cases h : k = i
    · subst h; simp [upd, hi]
    · simp [h, upd, Ne.symm h]
  · rw [fls_none _ (by omega), fls_none _ (by omega), fls_size]
    by_cases h : k = i
    · subst h; simp [hi]
    · simp [h]

theorem fls_of_array {cs : Array Value} (hs : cs.size = 20) (h : ∀ i : Nat, i < 20 → ∃ b, cs[i]? = some (.float .f32 b) ∧ b < 4294967296) :
    ∃ c : Nat → Nat, cs = fls c ∧ ∀ i, i < 20 → c i < 4294967296 := by
  refine ⟨fun i => match cs[i]? with | some (.float _ b) => b | _ => 0, ?_, ?_⟩
  · apply Array.ext
    · simp [hs]
    · intro i h1 h2
      rw [hs] at h1
      obtain ⟨b, hb, _⟩ := h i h1
      have hb' := hb
      rw [Array.getElem?_eq_getElem (by omega)] at hb'
      simp only [fls, Array.getElem_ofFn, hb]
      exact Option.some.inj hb'
  · intro i hi
    obtain ⟨b, hb, hl⟩ := h i hi
    simp only [hb]
    exact hl

theorem open_fls {P : Program} {w : World} {r : Reach} {b0 : Nat} {t e : TypeId} {v : Value} (ht : P.underlying t = some (.array 20 e)) (he : P.underlying e = some (.float .f32))
    (hc : P.cellsOf t = 20) (hct : P.cellTypes P.depth t = some (List.replicate 20 e)) (h : Value.okWide P w r b0 t v) :
    ∃ c : Nat → Nat, v = .agg (fls c) ∧ ∀ i, i < 20 → c i < 4294967296 := by
  simp only [Value.okWide, ht] at h
  obtain ⟨cs, rfl, hsz, ts, h1, h2, h3⟩ := h
  rw [hc] at hsz
  rw [hct] at h1
  obtain rfl := Option.some.inj h1
  have : ∀ i : Nat, i < 20 → ∃ b, cs[i]? = some (.float .f32 b) ∧ b < 4294967296 := by
    intro i hi
    have hv : cs[i]? = some (cs[i]'(by omega)) := Array.getElem?_eq_getElem (by omega)
    obtain ⟨u, hu, hok⟩ := h3 i _ hv
    have : u = e := by
      rw [List.length_replicate, Nat.mod_eq_of_lt hi, List.getElem?_replicate, if_pos hi] at hu
      exact (Option.some.inj hu).symm
    subst this
    rw [hv]
    generalize cs[i]'(by omega) = x at hok
    unfold Cell.okWide at hok
    rw [he] at hok
    cases x <;> simp [Cell.ok, he] at hok
    obtain ⟨rfl, hb⟩ := hok
    exact ⟨_, rfl, by simpa [FloatKind.has] using hb⟩
  obtain ⟨c, rfl, hb⟩ := fls_of_array hsz this
  exact ⟨c, rfl, hb⟩

theorem open_f32 {P : Program} {w : World} {r : Reach} {b0 : Nat} {t : TypeId} {v : Value} (ht : P.underlying t = some (.float .f32)) (h : Value.okWide P w r b0 t v) :
    ∃ b, v = .float .f32 b ∧ b < 4294967296 := by
  simp only [Value.okWide, ht, Cell.okWide] at h
  cases v <;> simp [Cell.ok, ht] at h
  obtain ⟨rfl, hb⟩ := h
  exact ⟨_, rfl, by simpa [FloatKind.has] using hb⟩

theorem open_i64 {P : Program} {w : World} {r : Reach} {b0 : Nat} {t : TypeId} {v : Value} (ht : P.underlying t = some (.int .i64)) (h : Value.okWide P w r b0 t v) :
    ∃ n, v = .int .i64 n ∧ -9223372036854775808 ≤ n ∧ n ≤ 9223372036854775807 := by
  simp only [Value.okWide, ht, Cell.okWide] at h
  cases v <;> simp [Cell.ok, ht] at h
  obtain ⟨rfl, hb⟩ := h
  exact ⟨_, rfl, by simpa [IntKind.has, IntKind.min, IntKind.max, IntKind.signed, IntKind.bits] using hb⟩
end Go.Fl
/- What the model draws where a single or a double is a NaN. No program. -/
namespace Go.Fl
open Ieee

def finB (x : Nat) : Bool := decide (mg x < INF)
def amtB (x : Nat) : Bool := decide (x < INF)

theorem finB_iff {x : Nat} : finB x = true ↔ mg x < INF := by simp [finB]
theorem amtB_iff {x : Nat} : amtB x = true ↔ x < INF := by simp [amtB]
theorem finB_iff' {x : Nat} : finB x = false ↔ INF ≤ mg x := by simp [finB]
theorem amtB_iff' {x : Nat} : amtB x = false ↔ INF ≤ x := by simp [amtB]
theorem amt_fin {x : Nat} (h : amtB x = true) : finB x = true := by
  rw [amtB_iff, INF_val] at h; rw [finB_iff, INF_val]; unfold mg; omega

section
variable {P : Program} (w : World)

/-- The cut of a drawn NaN. -/
theorem cut_nan32 (x y t : Nat) : INF < mg ((Question.nanBits .f32 x y).cut t) ∧ (Question.nanBits .f32 x y).cut t < 4294967296 := by
  simp only [Question.cut, INF_val]
  unfold mg
  have h1 : t % 2 < 2 := Nat.mod_lt _ (by decide)
  have h2 : (t / 2) % (2 ^ 23 - 1) < 2 ^ 23 - 1 := Nat.mod_lt _ (by decide)
  simp only [Nat.reducePow, Nat.reduceSub] at h2 ⊢
  generalize t % 2 = a at *
  generalize t / 2 % _ = b at *
  have : a = 0 ∨ a = 1 := by omega
  rcases this with rfl | rfl <;> omega

theorem cut_nanConv64 (x t : Nat) : DINF < (Question.nanConv .f64 x).cut t % 9223372036854775808 ∧ (Question.nanConv .f64 x).cut t < 18446744073709551616 := by
  simp only [Question.cut, DINF_val]
  have h1 : t % 2 < 2 := Nat.mod_lt _ (by decide)
  have h2 : (t / 2) % (2 ^ 52 - 1) < 2 ^ 52 - 1 := Nat.mod_lt _ (by decide)
  simp only [Nat.reducePow, Nat.reduceSub] at h2 ⊢
  generalize t % 2 = a at *
  generalize t / 2 % _ = b at *
  have : a = 0 ∨ a = 1 := by omega
  rcases this with rfl | rfl <;> omega

/-- An invalid operation on singles draws a NaN. -/
theorem run_arith_nan (op : BinOp) (hop : op = .add ∨ op = .sub ∨ op = .mul ∨ op = .quo) (t : TypeId) (x y : Nat) (h : floatBits op .f32 x y = none) :
    ∃ z, (binOp op t (.float .f32 x) (.float .f32 y)).run P w = .ok (.float .f32 z) w.drew ∧ INF < mg z ∧ z < 4294967296 := by
  refine ⟨(Question.nanBits .f32 x y).cut (w.tape w.drawn (.nanBits .f32 x y)), ?_, cut_nan32 _ _ _⟩
  unfold floatBits at h
  rcases hop with rfl | rfl | rfl | rfl <;> simp only at h <;> simp [binOp, Op.floatArith, h, Question.forced]

theorem run_conv_nan (src dst : TypeId) (x : Nat) (hs : (P.underlying src) = some (.float .f32)) (hd : P.underlying dst = some (.float .f64)) (h : INF < mg x) :
    ∃ z, (convert src dst (.float .f32 x)).run P w = .ok (.float .f64 z) w.drew ∧ DINF < z % 9223372036854775808 ∧ z < 18446744073709551616 := by
  refine ⟨(Question.nanConv .f64 x).cut (w.tape w.drawn (.nanConv .f64 x)), ?_, cut_nanConv64 _ _⟩
  obtain ⟨s, t, e⟩ := read_nan h
  have e' : FloatKind.f32.decode x = .nan s t := e
  simp [convert, run_underlying hs, run_underlying hd, Conv.floatToFloat, e', Question.forced]

/-- A single that is no NaN widens to one double. -/
theorem run_conv_wid (src dst : TypeId) (x : Nat) (hx : x < 4294967296) (hs : (P.underlying src) = some (.float .f32)) (hd : P.underlying dst = some (.float .f64)) (h : mg x < INF) :
    (convert src dst (.float .f32 x)).run P w = .ok (.float .f64 (wid x)) w := by
  refine run_convert_float_float w src dst .f32 .f64 x (wid x) (by rw [hs]; rfl) hd ?_
  obtain ⟨m, e, h1, h2⟩ := read_fin hx h
  obtain ⟨_, _, m', e', h3⟩ := read_wid_fin hx h
  unfold floatToFloatBits
  rw [if_neg (by decide)]
  have e1 : FloatKind.f32.decode x = .number (decide (2147483648 ≤ x)) m e := h2
  rw [e1]
  have e2 : FloatKind.f64.encode (.number (decide (2147483648 ≤ x)) m e) = wid x := by unfold wid; rw [h2]; rfl
  simp only [e2]
  have e3 : FloatKind.f64.decode (wid x) = .number (decide (2147483648 ≤ x)) m' e' := h3
  rw [e3]
  simp [Datum.isInfinity]

theorem run_conv_inf (src dst : TypeId) (x : Nat) (hx : x < 4294967296) (hs : (P.underlying src) = some (.float .f32)) (hd : P.underlying dst = some (.float .f64)) (h : mg x = INF) :
    ∃ z, (convert src dst (.float .f32 x)).run P w = .ok (.float .f64 z) w ∧ z % 9223372036854775808 = DINF ∧ z < 18446744073709551616 := by
  have e1 : FloatKind.f32.decode x = .infinity (decide (2147483648 ≤ x)) := by
    show S.read x = _
    rw [read_sign hx, h, read_INF]
  refine ⟨FloatKind.f64.encode (.infinity (decide (2147483648 ≤ x))), run_convert_float_float w src dst .f32 .f64 x _ (by rw [hs]; rfl) hd ?_, ?_, ?_⟩
  · unfold floatToFloatBits
    rw [if_neg (by decide), e1]
  · generalize decide (2147483648 ≤ x) = b
    cases b <;> decide
  · generalize decide (2147483648 ≤ x) = b
    cases b <;> decide
end
end Go.Fl
/- More pure facts: a number less itself; how a word stands to zero. No program. -/
namespace Go.Fl
open Ieee

theorem sub_self_fin {x : Nat} (hx : x < 4294967296) (h : finB x = true) : S.sub x x = some 0 := by
  obtain ⟨m, e, _, h2⟩ := read_fin hx (finB_iff.1 h)
  unfold Format.sub
  rw [h2]
  generalize decide (2147483648 ≤ x) = s
  cases s <;> simp [Datum.opposite, Datum.sum, signed, Int.add_right_neg, Int.add_left_neg, Format.write, Format.nearest, Format.word]

theorem sub_self_none {x : Nat} (hx : x < 4294967296) (h : finB x = false) : S.sub x x = none := by
  rw [finB_iff'] at h
  unfold Format.sub
  rcases Nat.lt_or_eq_of_le h with h | h
  · obtain ⟨s, t, e⟩ := read_nan h
    rw [e]; rfl
  · have e : S.read x = .infinity (decide (2147483648 ≤ x)) := by rw [read_sign hx, ← h, read_INF]
    rw [e]
    generalize decide (2147483648 ≤ x) = s
    cases s <;> rfl

theorem order_nan32 {x y : Nat} (h : INF < mg x) : S.order x y = none := by
  obtain ⟨s, t, e⟩ := read_nan h
  unfold Format.order
  rw [e]; rfl

theorem order_zero_pos {x : Nat} (h : x < INF) : S.order x 0 = some (compare x 0) := order_lt h (by decide)

theorem read_zero : S.read 0 = .number false 0 (-149) := by decide

/-- A finite word with the sign is not greater than zero. -/
theorem order_neg_zero {x : Nat} (hx : x < 4294967296) (h : finB x = true) (hs : 2147483648 ≤ x) : (S.order x 0 == some .gt) = false := by
  obtain ⟨m, e, _, h2⟩ := read_fin hx (finB_iff.1 h)
  unfold Format.order
  rw [h2, read_zero, decide_eq_true hs]
  simp only [Datum.order, signed, if_true, Bool.false_eq_true, if_false, Nat.zero_shiftLeft]
  generalize m <<< (e - min e (-149)).toNat = q
  have : compare (-(q : Int)) ((0 : Nat) : Int) ≠ .gt := by
    intro hgt
    have := Int.compare_eq_gt.1 hgt
    omega
  cases hc : compare (-(q : Int)) ((0 : Nat) : Int) <;> simp_all

def fadd (x y : Nat) : Nat := (S.add x y).getD 0
def fmul (x y : Nat) : Nat := (S.mul x y).getD 0
def fsub (x y : Nat) : Nat := (S.sub x y).getD 0
def fdiv (x y : Nat) : Nat := (S.div x y).getD 0

def nnB (x : Nat) : Bool := decide (x ≤ INF)
theorem nnB_iff {x : Nat} : nnB x = true ↔ x ≤ INF := by simp [nnB]
theorem amt_nn {x : Nat} (h : amtB x = true) : nnB x = true := by rw [amtB_iff] at h; rw [nnB_iff]; omega
theorem nn_amt {x : Nat} (h : nnB x = true) : amtB x = finB x := by
  rw [nnB_iff, INF_val] at h
  by_cases hx : x < INF
  · rw [amt_fin (amtB_iff.2 hx), amtB_iff.2 hx]
  · rw [INF_val] at hx
    rw [amtB_iff'.2 (by rw [INF_val]; omega), finB_iff'.2 (by unfold mg; rw [INF_val]; omega)]

theorem add_eq {x y : Nat} (hx : nnB x = true) (hy : nnB y = true) : S.add x y = some (fadd x y) ∧ nnB (fadd x y) = true := by
  obtain ⟨r, h, h'⟩ := add_nn (nnB_iff.1 hx) (nnB_iff.1 hy)
  unfold fadd
  rw [h]
  exact ⟨rfl, nnB_iff.2 h'⟩
theorem mul_eq {x y : Nat} (hx : amtB x = true) (hy : amtB y = true) : S.mul x y = some (fmul x y) ∧ nnB (fmul x y) = true := by
  obtain ⟨r, h, h'⟩ := mul_nn (amtB_iff.1 hx) (amtB_iff.1 hy)
  unfold fmul
  rw [h]
  exact ⟨rfl, nnB_iff.2 h'⟩

section
variable {P : Program}
theorem run_add (t : TypeId) {x y : Nat} (hx : nnB x = true) (hy : nnB y = true) (w : World) : (binOp .add t (.float .f32 x) (.float .f32 y)).run P w = .ok (.float .f32 (fadd x y)) w :=
  run_float_arith w .add t .f32 x y _ (add_eq hx hy).1
theorem run_mul (t : TypeId) {x y : Nat} (hx : amtB x = true) (hy : amtB y = true) (w : World) : (binOp .mul t (.float .f32 x) (.float .f32 y)).run P w = .ok (.float .f32 (fmul x y)) w :=
  run_float_arith w .mul t .f32 x y _ (mul_eq hx hy).1
end
end Go.Fl
namespace Go.Fl
/-- Sums from the class 0 on. -/
def sumF (c : Nat → Nat) : Nat → Nat
  | 0 => c 0
  | k + 1 => fadd (sumF c k) (c (k + 1))

theorem sumF_nn {c : Nat → Nat} : ∀ (k : Nat), (∀ i, i ≤ k → nnB (c i) = true) → nnB (sumF c k) = true
  | 0, h => h 0 (Nat.le_refl _)
  | k + 1, h => (add_eq (sumF_nn k (fun i hi => h i (by omega))) (h (k + 1) (Nat.le_refl _))).2

/-- What is told of a number that would be returned. -/
def told (x : Nat) : Value := if finB x = true then .tuple #[.float .f32 x, .int .i64 0] else .tuple #[.float .f32 0, .int .i64 4]

theorem told_t {x : Nat} (h : finB x = true) : told x = .tuple #[.float .f32 x, .int .i64 0] := if_pos h
theorem told_f {x : Nat} (h : finB x = false) : told x = .tuple #[.float .f32 0, .int .i64 4] := if_neg (by simp [h])
theorem nn_lt {x : Nat} (h : nnB x = true) : x < 4294967296 := by rw [nnB_iff, INF_val] at h; omega
theorem amt_lt {x : Nat} (h : amtB x = true) : x < 4294967296 := by rw [amtB_iff, INF_val] at h; omega
end Go.Fl
namespace Go.Fl
/-- The word of 2 to the power k. -/
def mass (k : Nat) : Nat := (127 + k) * 8388608
theorem mass_amt {k : Nat} (hk : k < 20) : amtB (mass k) = true := by rw [amtB_iff, INF_val]; unfold mass; omega
end Go.Fl
namespace Go.Fl
/-- Sums from the class a on. -/
def sumA (c : Nat → Nat) (a : Nat) : Nat → Nat
  | 0 => c a
  | k + 1 => fadd (sumA c a k) (c (a + k + 1))

theorem sumA_zero (c : Nat → Nat) : ∀ k, sumA c 0 k = sumF c k
  | 0 => rfl
  | k + 1 => by
    show fadd (sumA c 0 k) (c (0 + k + 1)) = fadd (sumF c k) (c (k + 1))
    rw [sumA_zero c k, Nat.zero_add]

theorem sumA_nn {c : Nat → Nat} {a : Nat} : ∀ (k : Nat), (∀ i, i ≤ a + k → nnB (c i) = true) → nnB (sumA c a k) = true
  | 0, h => h a (Nat.le_refl _)
  | k + 1, h => (add_eq (sumA_nn k (fun i hi => h i (by omega))) (h (a + k + 1) (Nat.le_refl _))).2

/-- The water of each class. -/
def wat (c : Nat → Nat) : Nat → Nat := fun k => fmul (c k) (mass k)
theorem wat_nn {c : Nat → Nat} {k : Nat} (hk : k < 20) (h : amtB (c k) = true) : nnB (wat c k) = true := (mul_eq h (mass_amt hk)).2
end Go.Fl
/- Runs of operations over arrays of twenty singles. No program. -/
namespace Go.Fl
open Go.RowKit

section
variable {P : Program}

theorem run_part_one {e : TypeId} {d : TypeDesc} (he : P.underlying e = some d) (hd : (match d with | .struct _ | .array _ _ => true | _ => false) = false) (cs : Array Value) (off : Nat) (v : Value) (hv : cs[off]? = some v) (w : World) :
    (part e cs off).run P w = .ok v w := by
  have hagg : (isAgg e).run P w = .ok false w := by
    unfold isAgg
    rw [Sem.run_bind, run_underlying he w]
    cases d <;> simp_all
  simp [part, Sem.run_bind, hagg, hv]

theorem run_index_arr {T e : TypeId} {d : TypeDesc} {n : Nat} (hT : P.underlying T = some (.array n e)) (he : P.underlying e = some d) (hd : (match d with | .struct _ | .array _ _ => true | _ => false) = false)
    {i : TypeInfo} (hi : P.info? e = some i) (hi1 : i.size = 1) (cs : Array Value) (k : Nat) (hk : k < n) (v : Value) (hv : cs[k]? = some v) (w : World) :
    (Instr.index T (.agg cs) (.int .i64 (k : Int))).run P w = .ok v w := by
  have hs : (sizeOf e).run P w = .ok 1 w := by simp [sizeOf, typeInfo, Sem.run_bind, hi, hi1]
  simp only [Instr.index, asIntOf, Sem.run_bind, Sem.run_pure, Result.andThen_ok, run_underlying hT w]
  have h0 : (0 : Int) ≤ (k : Int) ∧ (k : Int) < (n : Int) := ⟨by omega, by omega⟩
  rw [if_pos h0, Sem.run_bind, hs]
  simp only [Result.andThen_ok, Int.toNat_natCast, Nat.mul_one]
  exact run_part_one he hd cs k v hv w
end
end Go.Fl
/- A block that holds an array of twenty singles; how it fares. No program. -/
namespace Go.Fl
open Go.RowKit

/-- The block g is an array of twenty singles. -/
def arrAt (w : World) (g : Nat) (c : Nat → Nat) (T : TypeId) : Prop := w.heap[g]? = some (.cells (fls c) T (0, 0))

variable {w w' : World} {g B : Nat} {c d : Nat → Nat} {T : TypeId}
theorem arrAt.cell (h : arrAt w g c T) {k : Nat} (hk : k < 20) : w.cell? ⟨g, k, none⟩ = some (.float .f32 (c k)) := by
  rw [cell_of_row w g k _ _ _ h, fls_get c hk]
theorem arrAt.frozen (h : arrAt w g c T) (k : Nat) : w.frozen? ⟨g, k, none⟩ = false := frozen_of_row w g k _ _ h
theorem arrAt.set (h : arrAt w g c T) (k x : Nat) : arrAt (w.setCell ⟨g, k, none⟩ (.float .f32 x)) g (upd c k x) T := by
  unfold arrAt
  rw [heap_setCell_same w g k _ _ _ h, fls_set]
theorem arrAt.setOther (h : arrAt w g c T) {a : Addr} (ha : g ≠ a.block) (v : Value) : arrAt (w.setCell a v) g c T := by
  unfold arrAt
  rw [heap_setCell_other w a g v ha]
  exact h
theorem arrAt.setRow (h : arrAt w g c T) (d : Nat → Nat) : arrAt (w.setRow g (fls d)) g d T := setRow_heap w g _ _ _ _ h
theorem arrAt.setRowOther (h : arrAt w g c T) {k : Nat} (hk : g ≠ k) (cs : Array Value) : arrAt (w.setRow k cs) g c T := by
  unfold arrAt
  rw [setRow_other w k g cs hk]
  exact h
theorem arrAt.lt (h : arrAt w g c T) : g < w.heap.size := by
  unfold arrAt at h
  by_cases hlt : g < w.heap.size
  · exact hlt
  · rw [Array.getElem?_eq_none (by omega)] at h
    cases h
theorem arrAt.alloc (h : arrAt w g c T) (o : Obj) : arrAt (w.alloc o) g c T := by
  have := h.lt
  unfold arrAt
  rw [Below.heap_alloc w o g this]
  exact h
theorem arrAt.new (w : World) (c : Nat → Nat) (T : TypeId) : arrAt (w.alloc (.cells (fls c) T)) w.heap.size c T := heap_alloc_new _ _
theorem arrAt.below (h : arrAt w g c T) (hb : Below B w w') (hg : g < B) : arrAt w' g c T := by
  unfold arrAt
  rw [hb.block g hg]
  exact h
theorem arrAt.ext (h : arrAt w g c T) (he : ∀ i, i < 20 → c i = d i) : arrAt w g d T := by
  unfold arrAt
  rw [← fls_ext he]
  exact h
theorem arrAt.drew (h : arrAt w g c T) : arrAt w.drew g c T := h

@[go_sem] theorem run_store_float {P : Program} {w : World} {a : Addr} {m : Mode} (k : FloatKind) (b : Nat) : (store a (.float k b) m).run P w = stored P w a (.float k b) m := run_store P w a _ m rfl

@[go_sem] theorem zeros20 : (#[Value.float .f32 0, Value.float .f32 0, Value.float .f32 0, Value.float .f32 0, Value.float .f32 0, Value.float .f32 0, Value.float .f32 0, Value.float .f32 0, Value.float .f32 0, Value.float .f32 0,
    Value.float .f32 0, Value.float .f32 0, Value.float .f32 0, Value.float .f32 0, Value.float .f32 0, Value.float .f32 0, Value.float .f32 0, Value.float .f32 0, Value.float .f32 0, Value.float .f32 0] : Array Value) = fls (fun _ => 0) := by
  apply Array.ext_getElem?
  intro i
  by_cases hi : i < 20
  · rw [fls_get _ hi]
    rcases i with _ | _ | _ | _ | _ | _ | _ | _ | _ | _ | _ | _ | _ | _ | _ | _ | _ | _ | _ | _ | i <;> first | rfl | omega
  · rw [fls_none _ (by omega), Array.getElem?_eq_none]
    simp; omega

theorem below_row {w0 : World} (hb : Below B w0 w) (hg : B ≤ g) (cs : Array Value) : Below B w0 (w.setRow g cs) :=
  hb.trans ⟨rfl, rfl, rfl, by simp, fun k hk => setRow_other w g k cs (by omega)⟩

theorem fls_one (c : Nat → Nat) : (fls c).all (·.oneCell') = true := by
  rw [Array.all_eq_true]
  intro i hi
  simp [fls, Value.oneCell']

def cut (c : Nat → Nat) (k : Nat) : Nat → Nat := fun i => if i < k then c i else 0
theorem cut_zero' (c : Nat → Nat) (i : Nat) : cut c 0 i = 0 := by simp [cut]
theorem cut_succ (c : Nat → Nat) (k i : Nat) : upd (cut c k) k (c k) i = cut c (k + 1) i := by
  unfold upd cut
  by_cases h : i = k
  · subst h; simp
  · rw [if_neg h]
    by_cases h2 : i < k
    · rw [if_pos h2, if_pos (by omega)]
    · rw [if_neg h2, if_neg (by omega)]
theorem cut_all (c : Nat → Nat) (i : Nat) (h : i < 20) : cut c 20 i = c i := if_pos h
end Go.Fl
namespace Go.Fl
open Go.RowKit
theorem arrAt.stay {w w' : World} {g : Nat} {c : Nat → Nat} {T : TypeId} (h : arrAt w g c T) (hb : Below w.heap.size w w') : arrAt w' g c T := h.below hb h.lt
theorem stp {B : Nat} {w a b : World} (h : Below B w a) (hB : B ≤ w.heap.size) (k : Below a.heap.size a b) : Below B w b := h.trans (k.mono (Nat.le_trans hB h.size))
theorem boxed (w : World) (o : Obj) : Below w.heap.size w (w.alloc o) := (Below.refl _ _).alloc (Nat.le_refl _) _
end Go.Fl
namespace Go.Fl
open Go.RowKit
section
variable {c : Nat → Nat} {T : TypeId}
theorem new1 (w : World) (o : Obj) (c : Nat → Nat) (T : TypeId) : arrAt ((w.alloc o).alloc (.cells (fls c) T)) (w.heap.size + 1) c T := by
  have := arrAt.new (w.alloc o) c T
  have e : (w.alloc o).heap.size = w.heap.size + 1 := by simp
  rwa [e] at this
theorem new2 (w : World) (o o' : Obj) (c : Nat → Nat) (T : TypeId) : arrAt (((w.alloc o).alloc o').alloc (.cells (fls c) T)) (w.heap.size + 1 + 1) c T := by
  have := arrAt.new ((w.alloc o).alloc o') c T
  have e : ((w.alloc o).alloc o').heap.size = w.heap.size + 1 + 1 := by simp
  rwa [e] at this
theorem boxed2 (w : World) (o o' : Obj) : Below w.heap.size w ((w.alloc o).alloc o') := (boxed w o).alloc (by simp) _
theorem boxed3 (w : World) (o o' o'' : Obj) : Below w.heap.size w (((w.alloc o).alloc o').alloc o'') := (boxed2 w o o').alloc (by simp; omega) _
end

section
variable {P : Program}
theorem results_row_tmp {fn : Func} {p u : Tmp} {ty : TypeId} (h : fn.results = #[.cell p ty, .tmp u]) (tmps : Array Value) (w : World) (g : Nat) (t : TypeId) (cs : Array Value) (fr : Nat × Nat) (d : TypeDesc)
    (hp : tmps.getD p undef = .pointer (some ⟨g, 0, none⟩)) (hg : w.heap[g]? = some (.cells cs t fr))
    (hu : P.underlying ty = some d) (hd : (match d with | .struct _ | .array _ _ => true | _ => false) = true) (hi : (P.info? ty).map (·.size) = some cs.size) :
    (results fn tmps).run P w = .ok (.tuple #[.agg cs, tmps.getD u undef]) w := by
  have hp' : tmps[p]?.getD undef = .pointer (some ⟨g, 0, none⟩) := by simpa using hp
  simp [results, h, hp', asAddr, run_loadVar_row w g t ty cs fr d hg hu hd hi]
theorem results_row_tmp2 {fn : Func} {p u v : Tmp} {ty : TypeId} (h : fn.results = #[.cell p ty, .tmp u, .tmp v]) (tmps : Array Value) (w : World) (g : Nat) (t : TypeId) (cs : Array Value) (fr : Nat × Nat) (d : TypeDesc)
    (hp : tmps.getD p undef = .pointer (some ⟨g, 0, none⟩)) (hg : w.heap[g]? = some (.cells cs t fr))
    (hu : P.underlying ty = some d) (hd : (match d with | .struct _ | .array _ _ => true | _ => false) = true) (hi : (P.info? ty).map (·.size) = some cs.size) :
    (results fn tmps).run P w = .ok (.tuple #[.agg cs, tmps.getD u undef, tmps.getD v undef]) w := by
  have hp' : tmps[p]?.getD undef = .pointer (some ⟨g, 0, none⟩) := by simpa using hp
  simp [results, h, hp', asAddr, run_loadVar_row w g t ty cs fr d hg hu hd hi]
end
end Go.Fl
namespace Go.Fl
/-- The first k places as f has them, the others as c has them. -/
def prt (f c : Nat → Nat) (k : Nat) : Nat → Nat := fun i => if i < k then f i else c i
theorem part_zero (f c : Nat → Nat) (i : Nat) : prt f c 0 i = c i := by simp [prt]
theorem part_here (f c : Nat → Nat) (k : Nat) : prt f c k k = c k := by simp [prt]
theorem part_succ (f c : Nat → Nat) (k i : Nat) : upd (prt f c k) k (f k) i = prt f c (k + 1) i := by
  unfold upd prt
  by_cases h : i = k
  · subst h; simp
  · rw [if_neg h]
    by_cases h2 : i < k
    · rw [if_pos h2, if_pos (by omega)]
    · rw [if_neg h2, if_neg (by omega)]
theorem part_all (f c : Nat → Nat) (i : Nat) (h : i < 20) : prt f c 20 i = f i := if_pos h
end Go.Fl
/- More pure facts: how words stand to each other; classes; a zero added. No program. -/
namespace Go.Fl
open Ieee

theorem val_zero : val 0 = 0 := by decide
theorem order_neg_pos {x y : Nat} (hx : x < 4294967296) (h : finB x = true) (hs : 2147483648 ≤ x) (hy0 : 0 < y) (hy : y < INF) : S.order x y = some .lt := by
  obtain ⟨m, e, _, h2⟩ := read_fin hx (finB_iff.1 h)
  obtain ⟨n, k, h3, hv⟩ := read_val hy
  have hpos : 0 < val y := by have := val_lt hy0; rw [val_zero] at this; exact this
  have hn : 0 < n := by
    rcases Nat.eq_zero_or_pos n with h0 | h0
    · rw [h0, Nat.zero_mul] at hv; omega
    · exact h0
  unfold Format.order
  rw [h2, h3, decide_eq_true hs]
  simp only [Datum.order, signed, if_true, Bool.false_eq_true, if_false]
  congr 1
  have hq : 0 < n <<< (-149 + (k : Int) - min e (-149 + k)).toNat := by
    rw [Nat.shiftLeft_eq]; exact Nat.mul_pos hn (Nat.two_pow_pos _)
  generalize m <<< (e - min e (-149 + (k : Int))).toNat = p
  generalize n <<< (-149 + (k : Int) - min e (-149 + k)).toNat = q at hq
  rw [Int.compare_eq_lt]
  omega

theorem lt_t {x y : Nat} (hx : amtB x = true) (hy : amtB y = true) (h : x < y) : (FloatKind.f32.format.order x y == some .lt) = true := by
  show (S.order x y == some .lt) = true
  rw [order_lt (amtB_iff.1 hx) (amtB_iff.1 hy), Nat.compare_eq_lt.2 h]; rfl
theorem lt_f {x y : Nat} (hx : amtB x = true) (hy : amtB y = true) (h : y ≤ x) : (FloatKind.f32.format.order x y == some .lt) = false := by
  show (S.order x y == some .lt) = false
  rw [order_lt (amtB_iff.1 hx) (amtB_iff.1 hy)]
  rcases Nat.lt_or_eq_of_le h with h | h
  · rw [Nat.compare_eq_gt.2 h]; rfl
  · rw [Nat.compare_eq_eq.2 h.symm]; rfl
theorem gt_t {x y : Nat} (hx : amtB x = true) (hy : amtB y = true) (h : y < x) : (FloatKind.f32.format.order x y == some .gt) = true := by
  show (S.order x y == some .gt) = true
  rw [order_lt (amtB_iff.1 hx) (amtB_iff.1 hy), Nat.compare_eq_gt.2 h]; rfl
theorem gt_f {x y : Nat} (hx : amtB x = true) (hy : amtB y = true) (h : x ≤ y) : (FloatKind.f32.format.order x y == some .gt) = false := by
  show (S.order x y == some .gt) = false
  rw [order_lt (amtB_iff.1 hx) (amtB_iff.1 hy)]
  rcases Nat.lt_or_eq_of_le h with h | h
  · rw [Nat.compare_eq_lt.2 h]; rfl
  · rw [Nat.compare_eq_eq.2 h]; rfl
theorem leq_t {x y : Nat} (hx : amtB x = true) (hy : amtB y = true) (h : x ≤ y) : (FloatKind.f32.format.order x y == some .lt || FloatKind.f32.format.order x y == some .eq) = true := by
  show (S.order x y == some .lt || S.order x y == some .eq) = true
  rw [order_lt (amtB_iff.1 hx) (amtB_iff.1 hy)]
  rcases Nat.lt_or_eq_of_le h with h | h
  · rw [Nat.compare_eq_lt.2 h]; rfl
  · rw [Nat.compare_eq_eq.2 h]; rfl
theorem leq_f {x y : Nat} (hx : amtB x = true) (hy : amtB y = true) (h : y < x) : (FloatKind.f32.format.order x y == some .lt || FloatKind.f32.format.order x y == some .eq) = false := by
  show (S.order x y == some .lt || S.order x y == some .eq) = false
  rw [order_lt (amtB_iff.1 hx) (amtB_iff.1 hy), Nat.compare_eq_gt.2 h]; rfl
theorem geq_t {x y : Nat} (hx : amtB x = true) (hy : amtB y = true) (h : y ≤ x) : (FloatKind.f32.format.order x y == some .gt || FloatKind.f32.format.order x y == some .eq) = true := by
  show (S.order x y == some .gt || S.order x y == some .eq) = true
  rw [order_lt (amtB_iff.1 hx) (amtB_iff.1 hy)]
  rcases Nat.lt_or_eq_of_le h with h | h
  · rw [Nat.compare_eq_gt.2 h]; rfl
  · rw [Nat.compare_eq_eq.2 h.symm]; rfl
theorem geq_f {x y : Nat} (hx : amtB x = true) (hy : amtB y = true) (h : x < y) : (FloatKind.f32.format.order x y == some .gt || FloatKind.f32.format.order x y == some .eq) = false := by
  show (S.order x y == some .gt || S.order x y == some .eq) = false
  rw [order_lt (amtB_iff.1 hx) (amtB_iff.1 hy), Nat.compare_eq_lt.2 h]; rfl

/-- One. -/
def ONE : Nat := 1065353216
/-- The class of a mass that is at least one. -/
def forF (x : Nat) : Nat := min 19 (x / 8388608 - 127)
theorem forF_lt (x : Nat) : forF x < 20 := by unfold forF; omega
theorem forF_eq {x k : Nat} (hk : k < 20) (h : mass k ≤ x) (hn : k = 19 ∨ x < mass (k + 1)) : forF x = k := by
  unfold mass at *; unfold forF
  omega

/-- Neither less than one nor finite: what a mass must not be. -/
theorem low_cases {x : Nat} (hx : x < 4294967296) (h : finB x = true) (hn : ¬ (amtB x = true ∧ ONE ≤ x)) :
    (FloatKind.f32.format.order x 1065353216 == some .lt) = true ∧ (FloatKind.f32.format.order x 1065353216 == some .gt || FloatKind.f32.format.order x 1065353216 == some .eq) = false := by
  by_cases ha : amtB x = true
  · have : x < 1065353216 := by
      have : ¬ ONE ≤ x := fun h => hn ⟨ha, h⟩
      unfold ONE at this; omega
    exact ⟨lt_t ha (by decide) this, geq_f ha (by decide) this⟩
  · have ha' : amtB x = false := by simpa using ha
    have hs : 2147483648 ≤ x := by
      rw [amtB_iff', INF_val] at ha'
      have := finB_iff.1 h
      rw [INF_val] at this
      unfold mg at this
      omega
    have ho : FloatKind.f32.format.order x 1065353216 = some .lt := order_neg_pos hx h hs (by decide) (by decide)
    rw [ho]
    exact ⟨rfl, rfl⟩
end Go.Fl
/- How words that are no NaN stand to themselves; one pattern for each NaN. No program. -/
namespace Go.Fl
open Ieee
def nanB (x : Nat) : Bool := decide (INF < mg x)
theorem order_self32 {x : Nat} (hx : x < 4294967296) (h : nanB x = false) : S.order x x = some .eq := by
  have h' : mg x ≤ INF := by simpa [nanB] using h
  rcases Nat.lt_or_eq_of_le h' with h1 | h1
  · obtain ⟨m, e, _, h2⟩ := read_fin hx h1
    unfold Format.order; rw [h2]; simp [Datum.order]
  · have e : S.read x = .infinity (decide (2147483648 ≤ x)) := by rw [read_sign hx, h1, read_INF]
    unfold Format.order; rw [e]; simp [Datum.order]
theorem neq_self (x : Nat) (hx : x < 4294967296) : (FloatKind.f32.format.order x x != some .eq) = nanB x := by
  show (S.order x x != some .eq) = _
  rcases h : nanB x with _ | _
  · rw [order_self32 hx h]; rfl
  · rw [order_nan32 (by simpa [nanB] using h)]; rfl
def nb (x : Nat) : Nat := if nanB x = true then 2143289344 else x
def sameB (a b : Nat) : Bool := if (nanB a || nanB b) = true then nanB a && nanB b else decide (a = b)
theorem sameB_nb (a b : Nat) : ((nb a : Int) == (nb b : Int)) = sameB a b := by
  have hc : nanB 2143289344 = true := by decide
  unfold nb sameB
  rcases ha : nanB a with _ | _ <;> rcases hb : nanB b with _ | _ <;> simp
  · by_cases e : a = b
    · subst e; simp
    · simp [e]; omega
  · intro e
    have : a = 2143289344 := by omega
    rw [this, hc] at ha; cases ha
  · intro e
    have : b = 2143289344 := by omega
    rw [this, hc] at hb; cases hb
end Go.Fl
/- Rounding to the nearest word never turns an order round. No program. -/
namespace Go.Fl
open Ieee

/-- 'cut' to the nearest whole number, ties to even: when is it at least j? -/
theorem cut_ge {n d j : Nat} (hj : 1 ≤ j) : j ≤ Toward.even.cut false n d ↔ (2 * j - 1) * 2 ^ d < 2 * n ∨ ((2 * j - 1) * 2 ^ d = 2 * n ∧ j % 2 = 0) := by
  unfold Toward.cut
  simp only [Nat.one_shiftLeft]
  by_cases hd : d ≤ n.log2 + 2
  · rw [Nat.min_eq_left hd]
    have hG : 0 < 2 ^ d := Nat.two_pow_pos d
    generalize 2 ^ d = G at hG
    have hn := Nat.div_add_mod n G
    have hr := Nat.mod_lt n hG
    generalize n / G = q at hn ⊢
    generalize n % G = r at hn hr ⊢
    subst hn
    have hmul : G * q = q * G := Nat.mul_comm _ _
    rw [hmul]
    rcases Nat.lt_trichotomy q (j - 1) with h | h | h
    · have h1 : (2 * q + 3) * G ≤ (2 * j - 1) * G := Nat.mul_le_mul_right G (by omega)
      have h2 : (2 * q + 3) * G = 2 * (q * G) + 3 * G := by rw [Nat.add_mul, Nat.mul_assoc]
      have hm : (decide (G < 2 * r) || (G == 2 * r && q % 2 == 1)).toNat ≤ 1 := Bool.toNat_le _
      constructor
      · intro h'; omega
      · intro h'; omega
    · subst h
      obtain ⟨p, rfl⟩ : ∃ p, j = p + 1 := ⟨j - 1, by omega⟩
      simp only [Nat.add_sub_cancel] at *
      have h2 : (2 * (p + 1) - 1) * G = 2 * (p * G) + G := by
        rw [show 2 * (p + 1) - 1 = 2 * p + 1 by omega, Nat.add_mul, Nat.mul_assoc, Nat.one_mul]
      rw [h2]
      by_cases c1 : G < 2 * r
      · simp [c1]; omega
      · by_cases c2 : G = 2 * r
        · by_cases c3 : p % 2 = 1
          · have : (p + 1) % 2 = 0 := by omega
            simp [c2, c3, this]; omega
          · have : ¬ (p + 1) % 2 = 0 := by omega
            have c3' : (p % 2 == 1) = false := by simpa using c3
            simp [c2, c3', this]; omega
        · have c2' : (G == 2 * r) = false := by simpa using c2
          simp [c1, c2']; omega
    · have h1 : (2 * j - 1) * G + G ≤ 2 * (q * G) := by
        have : (2 * j - 1 + 1) * G ≤ (2 * q) * G := Nat.mul_le_mul_right G (by omega)
        rw [Nat.add_mul, Nat.one_mul, Nat.mul_assoc] at this
        exact this
      constructor
      · intro _; left; omega
      · intro _; omega
  · rw [Nat.min_eq_right (by omega)]
    have hn : n < 2 ^ (n.log2 + 1) := Nat.lt_log2_self
    have h4 : 2 ^ (n.log2 + 2) = 2 * 2 ^ (n.log2 + 1) := by rw [Nat.pow_succ 2 (n.log2 + 1), Nat.mul_comm]
    have h5 : 2 ^ (n.log2 + 2) ≤ 2 ^ d := Nat.pow_le_pow_right (by decide) (by omega)
    have hdiv : n / 2 ^ (n.log2 + 2) = 0 := Nat.div_eq_of_lt (by omega)
    have hmod : n % 2 ^ (n.log2 + 2) = n := Nat.mod_eq_of_lt (by omega)
    rw [hdiv, hmod]
    have c1 : ¬ 2 ^ (n.log2 + 2) < 2 * n := by omega
    have c2 : ¬ 2 ^ (n.log2 + 2) = 2 * n := by omega
    have c2' : (2 ^ (n.log2 + 2) == 2 * n) = false := by simpa using c2
    simp only [c1, decide_false, c2', Bool.false_and, Bool.or_self, Bool.toNat_false, Nat.add_zero]
    have h6 : 1 * 2 ^ d ≤ (2 * j - 1) * 2 ^ d := Nat.mul_le_mul_right _ (by omega)
    constructor
    · intro h; omega
    · intro h; omega
end Go.Fl
namespace Go.Fl
open Ieee

theorem cut_mono {n d n' d' : Nat} (h : n * 2 ^ d' ≤ n' * 2 ^ d) : Toward.even.cut false n d ≤ Toward.even.cut false n' d' := by
  generalize hj : Toward.even.cut false n d = j
  rcases Nat.eq_zero_or_pos j with h0 | h0
  · rw [h0]; exact Nat.zero_le _
  have hle : j ≤ Toward.even.cut false n d := by rw [hj]; exact Nat.le_refl _
  have hG : 0 < 2 ^ d := Nat.two_pow_pos d
  have hG' : 0 < 2 ^ d' := Nat.two_pow_pos d'
  rw [cut_ge h0] at hle ⊢
  generalize 2 ^ d = G at *
  generalize 2 ^ d' = G' at *
  generalize 2 * j - 1 = q at *
  have key : q * G ≤ 2 * n → q * G' ≤ 2 * n' := by
    intro hq
    have h1 : q * G * G' ≤ 2 * n * G' := Nat.mul_le_mul_right G' hq
    have h2 : 2 * n * G' ≤ 2 * n' * G := by rw [Nat.mul_assoc, Nat.mul_assoc]; exact Nat.mul_le_mul_left 2 h
    have h3 : q * G' * G ≤ 2 * n' * G := by rw [show q * G' * G = q * G * G' by rw [Nat.mul_assoc, Nat.mul_comm G' G, ← Nat.mul_assoc]]; exact Nat.le_trans h1 h2
    exact Nat.le_of_mul_le_mul_right h3 hG
  rcases hle with h1 | ⟨h1, h2⟩
  · have h3 : q * G * G' < 2 * n * G' := Nat.mul_lt_mul_of_pos_right h1 hG'
    have h4 : 2 * n * G' ≤ 2 * n' * G := by rw [Nat.mul_assoc, Nat.mul_assoc]; exact Nat.mul_le_mul_left 2 h
    have h5 : q * G' * G < 2 * n' * G := by rw [show q * G' * G = q * G * G' by rw [Nat.mul_assoc, Nat.mul_comm G' G, ← Nat.mul_assoc]]; exact Nat.lt_of_lt_of_le h3 h4
    exact .inl (Nat.lt_of_mul_lt_mul_right h5)
  · rcases Nat.lt_or_eq_of_le (key (Nat.le_of_eq h1)) with h3 | h3
    · exact .inl h3
    · exact .inr ⟨h3, h2⟩

theorem cut_le {n d K : Nat} (h : n ≤ K * 2 ^ d) : Toward.even.cut false n d ≤ K := by
  refine Nat.le_of_not_lt fun hlt => ?_
  have := (cut_ge (n := n) (d := d) (j := K + 1) (by omega)).1 hlt
  have hG : 0 < 2 ^ d := Nat.two_pow_pos d
  generalize 2 ^ d = G at *
  have e : (2 * (K + 1) - 1) * G = 2 * (K * G) + G := by rw [show 2 * (K + 1) - 1 = 2 * K + 1 by omega, Nat.add_mul, Nat.mul_assoc, Nat.one_mul]
  rw [e] at this
  omega

theorem le_cut {n d K : Nat} (h : K * 2 ^ d ≤ n) : K ≤ Toward.even.cut false n d := by
  rcases Nat.eq_zero_or_pos K with h0 | h0
  · rw [h0]; exact Nat.zero_le _
  rw [cut_ge h0]
  have hG : 0 < 2 ^ d := Nat.two_pow_pos d
  generalize 2 ^ d = G at *
  have e : (2 * K - 1) * G + G = 2 * (K * G) := by
    have : (2 * K - 1 + 1) * G = 2 * K * G := by rw [show 2 * K - 1 + 1 = 2 * K by omega]
    rw [Nat.add_mul, Nat.one_mul, Nat.mul_assoc] at this
    exact this
  left; omega

/-- The rung of a positive number of single precision, before it is held at infinity: E is its place above the least one. -/
def rungT (m : Nat) (E : Int) : Nat := (max (E + (m.log2 : Int) - 23) 0).toNat
def rungK (m : Nat) (E : Int) : Nat := Toward.even.cut false (m * 2 ^ (E - rungT m E).toNat) ((rungT m E : Int) - E).toNat

theorem lp_S : S.leastPlace = -149 := by decide
theorem fb_S : S.fractionBits = 23 := by decide

theorem nearest_rung {m : Nat} (hm : m ≠ 0) (E : Int) : S.nearest false m (-149 + E) = min (rungT m E * 8388608 + rungK m E) 2139095040 := by
  unfold Format.nearest
  rw [if_neg hm]
  have e1 : max (-149 + E + (m.log2 : Int) - (S.fractionBits : Nat)) S.leastPlace = -149 + (rungT m E : Int) := by
    rw [lp_S, fb_S]; unfold rungT; omega
  simp only [e1]
  rw [lp_S, Nat.shiftLeft_eq, bin_S, infRung_S, show (-149 + E - (-149 + (rungT m E : Int))).toNat = (E - rungT m E).toNat by omega,
    show (-149 + (rungT m E : Int) - (-149 + E)).toNat = ((rungT m E : Int) - E).toNat by omega, show (-149 + (rungT m E : Int) - -149).toNat = rungT m E by omega]
  simp [Format.word, rungK]

theorem pow_mul_lt {a b : Nat} (h : 2 ^ a < 2 ^ b) : a < b := (Nat.pow_lt_pow_iff_right (by decide)).1 h

/-- ROUNDING IS MONOTONE. -/
theorem nearest_mono {m m' : Nat} {E E' : Int} (p p' : Nat) (hp : E - E' = (p : Int) - p') (h : m * 2 ^ p ≤ m' * 2 ^ p') : S.nearest false m (-149 + E) ≤ S.nearest false m' (-149 + E') := by
  by_cases hm : m = 0
  · subst hm
    unfold Format.nearest
    simp [Format.word]
  have hm' : m' ≠ 0 := by
    intro h0
    rw [h0, Nat.zero_mul] at h
    have : 0 < m * 2 ^ p := Nat.mul_pos (Nat.pos_of_ne_zero hm) (Nat.two_pow_pos _)
    omega
  rw [nearest_rung hm, nearest_rung hm']
  have l1 : 2 ^ m.log2 ≤ m := Nat.log2_self_le hm
  have l2 : m < 2 ^ (m.log2 + 1) := Nat.lt_log2_self
  have l1' : 2 ^ m'.log2 ≤ m' := Nat.log2_self_le hm'
  have l2' : m' < 2 ^ (m'.log2 + 1) := Nat.lt_log2_self
  have hlog : m.log2 + p < m'.log2 + 1 + p' := by
    apply pow_mul_lt
    rw [Nat.pow_add, Nat.pow_add]
    calc 2 ^ m.log2 * 2 ^ p ≤ m * 2 ^ p := Nat.mul_le_mul_right _ l1
      _ ≤ m' * 2 ^ p' := h
      _ < 2 ^ (m'.log2 + 1) * 2 ^ p' := Nat.mul_lt_mul_of_pos_right l2' (Nat.two_pow_pos _)
  have hT : rungT m E ≤ rungT m' E' := by unfold rungT; omega
  have hR : rungT m E * 8388608 + rungK m E ≤ rungT m' E' * 8388608 + rungK m' E' := by
    rcases Nat.lt_or_eq_of_le hT with hlt | heq
    · have k1 : rungK m E ≤ 16777216 := by
        unfold rungK
        apply cut_le
        rw [show (16777216 : Nat) = 2 ^ 24 by decide, ← Nat.pow_add]
        calc m * 2 ^ (E - rungT m E).toNat ≤ 2 ^ (m.log2 + 1) * 2 ^ (E - rungT m E).toNat := Nat.mul_le_mul_right _ (Nat.le_of_lt l2)
          _ = 2 ^ (m.log2 + 1 + (E - rungT m E).toNat) := (Nat.pow_add 2 (m.log2 + 1) _).symm
          _ ≤ _ := Nat.pow_le_pow_right (by decide) (by unfold rungT; omega)
      have k2 : 8388608 ≤ rungK m' E' := by
        unfold rungK
        apply le_cut
        rw [show (8388608 : Nat) = 2 ^ 23 by decide, ← Nat.pow_add]
        calc 2 ^ (23 + ((rungT m' E' : Int) - E').toNat) ≤ 2 ^ (m'.log2 + (E' - rungT m' E').toNat) := Nat.pow_le_pow_right (by decide) (by unfold rungT at *; omega)
          _ = 2 ^ m'.log2 * 2 ^ (E' - rungT m' E').toNat := Nat.pow_add 2 m'.log2 _
          _ ≤ _ := Nat.mul_le_mul_right _ l1'
      generalize rungT m E = a at *
      generalize rungT m' E' = b at *
      generalize rungK m E = c at *
      generalize rungK m' E' = d at *
      omega
    · rw [heq]
      have : rungK m E ≤ rungK m' E' := by
        unfold rungK
        rw [heq]
        clear hT heq hlog l1 l2 l1' l2'
        apply cut_mono
        generalize rungT m' E' = t
        rw [Nat.mul_assoc, ← Nat.pow_add, Nat.mul_assoc, ← Nat.pow_add]
        rcases Nat.le_total p' p with hpp | hpp
        · obtain ⟨s, rfl⟩ : ∃ s, p = p' + s := ⟨p - p', by omega⟩
          have hs : m * 2 ^ s ≤ m' := by
            rw [Nat.pow_add, show m * (2 ^ p' * 2 ^ s) = m * 2 ^ s * 2 ^ p' by rw [Nat.mul_comm (2 ^ p'), Nat.mul_assoc]] at h
            exact Nat.le_of_mul_le_mul_right h (Nat.two_pow_pos _)
          have e : (E - (t : Int)).toNat + ((t : Int) - E').toNat = s + ((E' - (t : Int)).toNat + ((t : Int) - E).toNat) := by omega
          rw [e, Nat.pow_add 2 s, ← Nat.mul_assoc m (2 ^ s)]
          exact Nat.mul_le_mul_right _ hs
        · obtain ⟨s, rfl⟩ : ∃ s, p' = p + s := ⟨p' - p, by omega⟩
          have hs : m ≤ m' * 2 ^ s := by
            rw [Nat.pow_add, show m' * (2 ^ p * 2 ^ s) = m' * 2 ^ s * 2 ^ p by rw [Nat.mul_comm (2 ^ p), Nat.mul_assoc]] at h
            exact Nat.le_of_mul_le_mul_right h (Nat.two_pow_pos _)
          have e : (E' - (t : Int)).toNat + ((t : Int) - E).toNat = s + ((E - (t : Int)).toNat + ((t : Int) - E').toNat) := by omega
          rw [e, Nat.pow_add 2 s, ← Nat.mul_assoc m' (2 ^ s)]
          exact Nat.mul_le_mul_right _ hs
      exact Nat.add_le_add_left this _
  exact Nat.le_min.2 ⟨Nat.le_trans (Nat.min_le_left _ _) hR, Nat.min_le_right _ _⟩
end Go.Fl
/- What the operations give, by the values of their operands; and their order. No program. -/
namespace Go.Fl
open Ieee

theorem nearest_congr {m m' : Nat} {E E' : Int} (p p' : Nat) (hp : E - E' = (p : Int) - p') (h : m * 2 ^ p = m' * 2 ^ p') : S.nearest false m (-149 + E) = S.nearest false m' (-149 + E') :=
  Nat.le_antisymm (nearest_mono p p' hp (Nat.le_of_eq h)) (nearest_mono p' p (by omega) (Nat.le_of_eq h.symm))

theorem cut_z (n : Nat) : Toward.even.cut false n 0 = n := by simp [Toward.cut, Nat.mod_one]

theorem read_rep {y : Nat} (h : y < INF) : ∃ M t, S.read y = .number false M (-149 + (t : Nat)) ∧ val y = M * 2 ^ t ∧ y = t * 8388608 + M ∧ M < 16777216 ∧ (t = 0 ∨ 8388608 ≤ M) := by
  rw [INF_val] at h
  have hd : y / 2147483648 = 0 := Nat.div_eq_of_lt (by omega)
  have hm : y % 2147483648 = y := Nat.mod_eq_of_lt (by omega)
  unfold Format.read val
  simp only [sw_S, bin_S, infRung_S, hd, hm]
  by_cases h1 : y < 8388608
  · refine ⟨y, 0, ?_, ?_, by omega, by omega, .inl rfl⟩
    · simp [h1]; decide
    · simp [h1]
  · refine ⟨8388608 + y % 8388608, y / 8388608 - 1, ?_, ?_, by omega, by omega, .inr (by omega)⟩
    · simp [h1, h]; decide
    · rw [if_neg h1]

/-- A word's own value is written as the word. -/
theorem nearest_val {y : Nat} (h : y < INF) : S.nearest false (val y) (-149 + (0 : Int)) = y := by
  obtain ⟨M, t, _, hv, hy, hM, ht⟩ := read_rep h
  have e : S.nearest false (val y) (-149 + (0 : Int)) = S.nearest false M (-149 + (t : Int)) := by
    apply nearest_congr 0 t (by omega)
    rw [hv]; simp
  rw [e]
  by_cases hM0 : M = 0
  · have ht0 : t = 0 := by omega
    subst hM0; subst ht0
    unfold Format.nearest
    simp [Format.word, hy]
  rw [nearest_rung hM0]
  have hl : M.log2 < 24 := (Nat.log2_lt hM0).2 (by omega)
  have hl2 : 8388608 ≤ M → 23 ≤ M.log2 := fun h8 => (Nat.le_log2 hM0).2 (by omega)
  have hT : rungT M t = t := by
    unfold rungT
    rcases ht with rfl | h8
    · omega
    · have := hl2 h8; omega
  unfold rungK
  rw [hT, show ((t : Int) - (t : Int)).toNat = 0 by omega, cut_z]
  rw [INF_val] at h
  simp only [Nat.pow_zero, Nat.mul_one]
  rw [← hy]
  exact Nat.min_eq_left (by omega)

theorem nearest_le_word {m y : Nat} {E : Int} (hy : y < INF) (p p' : Nat) (hp : E = (p : Int) - p') (h : m * 2 ^ p ≤ val y * 2 ^ p') : S.nearest false m (-149 + E) ≤ y := by
  have := nearest_mono (m := m) (m' := val y) (E := E) (E' := 0) p p' (by omega) h
  rwa [nearest_val hy] at this

theorem word_le_nearest {m y : Nat} {E : Int} (hy : y < INF) (p p' : Nat) (hp : E = (p : Int) - p') (h : val y * 2 ^ p' ≤ m * 2 ^ p) : y ≤ S.nearest false m (-149 + E) := by
  have := nearest_mono (m := val y) (m' := m) (E := 0) (E' := E) p' p (by omega) h
  rwa [nearest_val hy] at this

theorem fadd_val {x y : Nat} (hx : x < INF) (hy : y < INF) : fadd x y = S.nearest false (val x + val y) (-149 + (0 : Int)) := by
  obtain ⟨m, j, h1, v1⟩ := read_val hx
  obtain ⟨n, k, h2, v2⟩ := read_val hy
  unfold fadd Format.add
  rw [h1, h2, v1, v2]
  simp only [Datum.sum, signed, Bool.false_eq_true, if_false, Option.map_some, Option.getD_some, Nat.shiftLeft_eq]
  have hs : ∀ a b : Nat, ((a : Int) + (b : Int)).natAbs = a + b := fun a b => by omega
  have hneg : ∀ a b : Nat, (if (a : Int) + (b : Int) = 0 then false && false else decide ((a : Int) + (b : Int) < 0)) = false := fun a b => by
    split
    · rfl
    · simp; omega
  rw [hs, hneg]
  show S.nearest false _ _ = _
  rcases Nat.le_total j k with h | h
  · obtain ⟨s, rfl⟩ : ∃ s, k = j + s := ⟨k - j, by omega⟩
    have e0 : min (-149 + (j : Int)) (-149 + ((j + s : Nat) : Int)) = -149 + (j : Int) := by omega
    rw [e0, show (-149 + (j : Int) - (-149 + (j : Int))).toNat = 0 by omega, show (-149 + ((j + s : Nat) : Int) - (-149 + (j : Int))).toNat = s by omega]
    apply nearest_congr j 0 (by omega)
    rw [Nat.pow_zero, Nat.mul_one, Nat.mul_one, Nat.add_mul, Nat.pow_add, Nat.mul_assoc, Nat.mul_comm (2 ^ s)]
  · obtain ⟨s, rfl⟩ : ∃ s, j = k + s := ⟨j - k, by omega⟩
    have e0 : min (-149 + ((k + s : Nat) : Int)) (-149 + (k : Int)) = -149 + (k : Int) := by omega
    rw [e0, show (-149 + (k : Int) - (-149 + (k : Int))).toNat = 0 by omega, show (-149 + ((k + s : Nat) : Int) - (-149 + (k : Int))).toNat = s by omega]
    apply nearest_congr k 0 (by omega)
    rw [Nat.pow_zero, Nat.mul_one, Nat.mul_one, Nat.add_mul, Nat.pow_add, Nat.mul_assoc, Nat.mul_comm (2 ^ s)]

theorem fmul_val {x y : Nat} (hx : x < INF) (hy : y < INF) : fmul x y = S.nearest false (val x * val y) (-149 + (-149 : Int)) := by
  obtain ⟨m, j, h1, v1⟩ := read_val hx
  obtain ⟨n, k, h2, v2⟩ := read_val hy
  unfold fmul Format.mul
  rw [h1, h2, v1, v2]
  simp only [Datum.product, Option.map_some, Option.getD_some]
  show S.nearest false (m * n) (-149 + (j : Int) + (-149 + (k : Int))) = _
  rw [show -149 + (j : Int) + (-149 + (k : Int)) = -149 + ((j : Int) + k - 149) by omega]
  apply nearest_congr (j + k) 0 (by omega)
  rw [Nat.pow_zero, Nat.mul_one, Nat.pow_add]
  rw [show m * n * (2 ^ j * 2 ^ k) = m * 2 ^ j * (n * 2 ^ k) by rw [Nat.mul_assoc, Nat.mul_left_comm n, ← Nat.mul_assoc]]

theorem val_le {x y : Nat} (h : x ≤ y) : val x ≤ val y := by
  rcases Nat.lt_or_eq_of_le h with h | h
  · exact Nat.le_of_lt (val_lt h)
  · rw [h]; exact Nat.le_refl _

theorem fadd_zero {x : Nat} (hx : nnB x = true) : fadd 0 x = x := by
  rw [nnB_iff] at hx
  rcases Nat.lt_or_eq_of_le hx with h | h
  · rw [fadd_val (by decide) h, val_zero, Nat.zero_add, nearest_val h]
  · rw [h]; decide

theorem fmul_zero {x : Nat} (hx : amtB x = true) : fmul 0 x = 0 := by
  rw [fmul_val (by decide) (amtB_iff.1 hx), val_zero, Nat.zero_mul]
  unfold Format.nearest
  simp [Format.word]

def VONE : Nat := 149
theorem val_ONE : val 1065353216 = 2 ^ VONE := by decide +kernel

theorem fmul_le {x y : Nat} (hx : x ≤ 1065353216) (hy : y < INF) : fmul x y ≤ y := by
  rw [fmul_val (by rw [INF_val]; omega) hy]
  refine nearest_le_word hy 0 VONE (by unfold VONE; omega) ?_
  rw [Nat.pow_zero, Nat.mul_one, Nat.mul_comm, ← val_ONE]
  exact Nat.mul_le_mul_left _ (val_le hx)

theorem le_fmul {x y : Nat} (hx : x < INF) (hy : 1065353216 ≤ y) (hy' : y < INF) : x ≤ fmul x y := by
  rw [fmul_val hx hy']
  refine word_le_nearest hx 0 VONE (by unfold VONE; omega) ?_
  rw [Nat.pow_zero, Nat.mul_one, ← val_ONE]
  exact Nat.mul_le_mul_left _ (val_le hy)

theorem write_INF : S.write (.infinity false) = INF := by decide
theorem add_inf_left {y : Nat} (h : y ≤ INF) : fadd INF y = INF := by
  have e : (Datum.infinity false).sum (S.read y) = some (.infinity false) := by
    rcases read_nn h with ⟨m, e, h1⟩ | h1 <;> rw [h1] <;> rfl
  unfold fadd Format.add
  rw [read_INF, e, Option.map_some, Option.getD_some, write_INF]
theorem add_inf_right {x : Nat} (h : x ≤ INF) : fadd x INF = INF := by
  have e : (S.read x).sum (Datum.infinity false) = some (.infinity false) := by
    rcases read_nn h with ⟨m, e, h1⟩ | h1 <;> rw [h1] <;> rfl
  unfold fadd Format.add
  rw [read_INF, e, Option.map_some, Option.getD_some, write_INF]

theorem fadd_mono {x y x' y' : Nat} (h1 : x ≤ x') (h2 : y ≤ y') (hx' : x' ≤ INF) (hy' : y' ≤ INF) : fadd x y ≤ fadd x' y' := by
  have hle : fadd x y ≤ INF := nnB_iff.1 (add_eq (nnB_iff.2 (Nat.le_trans h1 hx')) (nnB_iff.2 (Nat.le_trans h2 hy'))).2
  rcases Nat.lt_or_eq_of_le hx' with a | a
  · rcases Nat.lt_or_eq_of_le hy' with b | b
    · rw [fadd_val (by omega) (by omega), fadd_val a b]
      exact nearest_mono 0 0 (by omega) (by rw [Nat.pow_zero, Nat.mul_one, Nat.mul_one]; exact Nat.add_le_add (val_le h1) (val_le h2))
    · rw [b, add_inf_right hx']; exact hle
  · rw [a, add_inf_left hy']; exact hle
end Go.Fl
/- Sums behind some zeros; sums that are held against each other. No program. -/
namespace Go.Fl

theorem low_zero {c : Nat → Nat} {a i : Nat} (hi : i < 20) (h : i < a) : wat (prt (fun _ => 0) c a) i = 0 := by
  show fmul (prt (fun _ => 0) c a i) (mass i) = 0
  rw [show prt (fun _ => 0) c a i = 0 from if_pos h, fmul_zero (mass_amt hi)]
theorem low_same {c : Nat → Nat} {a i : Nat} (h : a ≤ i) : wat (prt (fun _ => 0) c a) i = wat c i := by
  show fmul (prt (fun _ => 0) c a i) (mass i) = fmul (c i) (mass i)
  rw [show prt (fun _ => 0) c a i = c i from if_neg (by omega)]

theorem sum_low {c : Nat → Nat} (hc : ∀ i, i < 20 → amtB (c i) = true) {a : Nat} (ha : a < 20) : ∀ q, q < 20 → sumF (wat (prt (fun _ => 0) c a)) q = if q < a then 0 else sumA (wat c) a (q - a)
  | 0, h => by
    show wat (prt (fun _ => 0) c a) 0 = _
    by_cases h0 : 0 < a
    · rw [low_zero h h0, if_pos h0]
    · obtain rfl : a = 0 := by omega
      rw [low_same (Nat.le_refl _), if_neg (by omega)]; rfl
  | q + 1, h => by
    show fadd (sumF (wat (prt (fun _ => 0) c a)) q) (wat (prt (fun _ => 0) c a) (q + 1)) = _
    rw [sum_low hc ha q (by omega)]
    by_cases h1 : q + 1 < a
    · rw [if_pos (by omega), if_pos h1, low_zero h h1, fadd_zero (by decide)]
    · rw [if_neg h1, low_same (by omega)]
      by_cases h2 : q < a
      · obtain rfl : a = q + 1 := by omega
        rw [if_pos h2, fadd_zero (wat_nn h (hc _ h)), Nat.sub_self]; rfl
      · rw [if_neg h2, show q + 1 - a = (q - a) + 1 by omega]
        show _ = fadd (sumA (wat c) a (q - a)) (wat c (a + (q - a) + 1))
        rw [show a + (q - a) + 1 = q + 1 by omega]

theorem low_amts {c : Nat → Nat} (hc : ∀ i, i < 20 → amtB (c i) = true) (a : Nat) : ∀ i, i < 20 → amtB (prt (fun _ => 0) c a i) = true := by
  intro i hi
  unfold prt
  by_cases h : i < a
  · rw [if_pos h]; exact (by decide : amtB 0 = true)
  · rw [if_neg h]; exact hc i hi

theorem sum_mono {f g : Nat → Nat} : ∀ q, (∀ i, i ≤ q → f i ≤ g i) → (∀ i, i ≤ q → nnB (g i) = true) → sumF f q ≤ sumF g q
  | 0, h, _ => h 0 (Nat.le_refl _)
  | q + 1, h, hg => fadd_mono (sum_mono q (fun i hi => h i (by omega)) (fun i hi => hg i (by omega))) (h (q + 1) (Nat.le_refl _)) (nnB_iff.1 (sumF_nn q (fun i hi => hg i (by omega)))) (nnB_iff.1 (hg (q + 1) (Nat.le_refl _)))

/-- The water is never less than the count. -/
theorem count_le_water {c : Nat → Nat} (hc : ∀ i, i < 20 → amtB (c i) = true) : sumF c 19 ≤ sumF (wat c) 19 :=
  sum_mono 19 (fun i hi => le_fmul (amtB_iff.1 (hc i (by omega))) (by unfold mass; omega) (amtB_iff.1 (mass_amt (by omega)))) (fun i hi => wat_nn (by omega) (hc i (by omega)))

/-- A quotient is valid but where both are nought or both infinite. -/
theorem div_eq {x y : Nat} (hx : nnB x = true) (hy : amtB y = true) (h0 : y ≠ 0) : S.div x y = some (fdiv x y) ∧ nnB (fdiv x y) = true := by
  obtain ⟨n, k, h2, hv⟩ := read_val (amtB_iff.1 hy)
  have hn : n ≠ 0 := by
    intro hn
    rw [hn, Nat.zero_mul] at hv
    have := val_lt (Nat.pos_of_ne_zero h0)
    rw [val_zero] at this; omega
  have : ∃ d, (S.read x).quotient (S.fractionBits + 2) (S.read y) = some d ∧ NN d := by
    rw [h2]
    rcases read_nn (nnB_iff.1 hx) with ⟨m, e, h1⟩ | h1
    · rw [h1]
      simp only [Ieee.Datum.quotient]
      rw [if_neg hn]
      exact ⟨_, rfl, NN_number rfl⟩
    · rw [h1]
      exact ⟨_, rfl, .inr rfl⟩
  obtain ⟨d, hd, hN⟩ := this
  have e : S.div x y = some (S.write d) := by unfold Ieee.Format.div; rw [hd]; rfl
  unfold fdiv
  rw [e]
  exact ⟨rfl, nnB_iff.2 (write_nn hN)⟩
theorem run_div {P : Program} (t : TypeId) {x y : Nat} (hx : nnB x = true) (hy : amtB y = true) (h0 : y ≠ 0) (w : World) : (binOp .quo t (.float .f32 x) (.float .f32 y)).run P w = .ok (.float .f32 (fdiv x y)) w :=
  run_float_arith w .quo t .f32 x y _ (div_eq hx hy h0).1
end Go.Fl
/- Differences of amounts. No program. -/
namespace Go.Fl
open Ieee

theorem fsub_val {x y : Nat} (hx : x < INF) (h : y ≤ x) : S.sub x y = some (fsub x y) ∧ fsub x y = S.nearest false (val x - val y) (-149 + (0 : Int)) := by
  have hy : y < INF := by omega
  have hv := val_le h
  obtain ⟨m, j, h1, v1⟩ := read_val hx
  obtain ⟨n, k, h2, v2⟩ := read_val hy
  have hs : ∀ a b : Nat, b ≤ a → ((a : Int) + -(b : Int)).natAbs = a - b := fun a b _ => by omega
  have hneg : ∀ a b : Nat, b ≤ a → (if (a : Int) + -(b : Int) = 0 then false && !false else decide ((a : Int) + -(b : Int) < 0)) = false := fun a b hab => by
    split
    · rfl
    · simp; omega
  have key : S.sub x y = some (S.nearest false (val x - val y) (-149 + (0 : Int))) := by
    unfold Format.sub
    rw [h1, h2]
    simp only [Datum.opposite, Datum.sum, signed, Bool.false_eq_true, if_false, Bool.not_false, if_true, Option.map_some, Nat.shiftLeft_eq]
    rw [v1, v2] at hv ⊢
    rcases Nat.le_total j k with h | h
    · obtain ⟨s, rfl⟩ : ∃ s, k = j + s := ⟨k - j, by omega⟩
      have e0 : min (-149 + (j : Int)) (-149 + ((j + s : Nat) : Int)) = -149 + (j : Int) := by omega
      have hle : n * 2 ^ s ≤ m * 2 ^ 0 := by
        rw [Nat.pow_zero, Nat.mul_one]
        rw [Nat.pow_add, show n * (2 ^ j * 2 ^ s) = n * 2 ^ s * 2 ^ j by rw [Nat.mul_comm (2 ^ j), Nat.mul_assoc]] at hv
        exact Nat.le_of_mul_le_mul_right hv (Nat.two_pow_pos _)
      rw [e0, show (-149 + (j : Int) - (-149 + (j : Int))).toNat = 0 by omega, show (-149 + ((j + s : Nat) : Int) - (-149 + (j : Int))).toNat = s by omega, hs _ _ hle]
      have hn := hneg _ _ hle
      rw [show (!false) = true from rfl] at hn
      rw [hn]
      show some (S.nearest false _ _) = _
      congr 1
      apply nearest_congr j 0 (by omega)
      rw [Nat.pow_zero, Nat.mul_one, Nat.mul_one, Nat.sub_mul, Nat.pow_add, Nat.mul_assoc, Nat.mul_comm (2 ^ s)]
    · obtain ⟨s, rfl⟩ : ∃ s, j = k + s := ⟨j - k, by omega⟩
      have e0 : min (-149 + ((k + s : Nat) : Int)) (-149 + (k : Int)) = -149 + (k : Int) := by omega
      have hle : n * 2 ^ 0 ≤ m * 2 ^ s := by
        rw [Nat.pow_zero, Nat.mul_one]
        rw [Nat.pow_add, show m * (2 ^ k * 2 ^ s) = m * 2 ^ s * 2 ^ k by rw [Nat.mul_comm (2 ^ k), Nat.mul_assoc]] at hv
        exact Nat.le_of_mul_le_mul_right hv (Nat.two_pow_pos _)
      rw [e0, show (-149 + (k : Int) - (-149 + (k : Int))).toNat = 0 by omega, show (-149 + ((k + s : Nat) : Int) - (-149 + (k : Int))).toNat = s by omega, hs _ _ hle]
      have hn := hneg _ _ hle
      rw [show (!false) = true from rfl] at hn
      rw [hn]
      show some (S.nearest false _ _) = _
      congr 1
      apply nearest_congr k 0 (by omega)
      rw [Nat.pow_zero, Nat.mul_one, Nat.mul_one, Nat.sub_mul, Nat.pow_add, Nat.mul_assoc, Nat.mul_comm (2 ^ s)]
  unfold fsub
  rw [key]
  exact ⟨rfl, rfl⟩

theorem fsub_le {x y : Nat} (hx : x < INF) (h : y ≤ x) : fsub x y ≤ x := by
  rw [(fsub_val hx h).2]
  refine nearest_le_word hx 0 0 (by omega) ?_
  rw [Nat.pow_zero, Nat.mul_one, Nat.mul_one]
  omega
theorem run_sub {P : Program} (t : TypeId) {x y : Nat} (hx : x < INF) (h : y ≤ x) (w : World) : (binOp .sub t (.float .f32 x) (.float .f32 y)).run P w = .ok (.float .f32 (fsub x y)) w :=
  run_float_arith w .sub t .f32 x y _ (fsub_val hx h).1
end Go.Fl
/- The middle of a sum. No program. -/
namespace Go.Fl
theorem fadd_zero_right {x : Nat} (hx : nnB x = true) : fadd x 0 = x := by
  rw [nnB_iff] at hx
  rcases Nat.lt_or_eq_of_le hx with h | h
  · rw [fadd_val h (by decide), val_zero, Nat.add_zero, nearest_val h]
  · rw [h]; exact add_inf_left (by decide)
theorem sum_grows {f : Nat → Nat} : ∀ {q k : Nat}, k ≤ q → (∀ i, i ≤ q → nnB (f i) = true) → sumF f k ≤ sumF f q
  | 0, k, hk, _ => by obtain rfl : k = 0 := by omega
                      exact Nat.le_refl _
  | q + 1, k, hk, hf => by
    by_cases h : k = q + 1
    · subst h; exact Nat.le_refl _
    · have h1 := sum_grows (f := f) (q := q) (k := k) (by omega) (fun i hi => hf i (by omega))
      have hq := sumF_nn q (fun i hi => hf i (by omega))
      have h2 : fadd (sumF f q) 0 ≤ fadd (sumF f q) (f (q + 1)) := fadd_mono (Nat.le_refl _) (Nat.zero_le _) (nnB_iff.1 hq) (nnB_iff.1 (hf (q + 1) (Nat.le_refl _)))
      rw [fadd_zero_right hq] at h2
      exact Nat.le_trans h1 h2
/-- The least place from k on at which a sum has come to h; 19 if there is none. -/
def midG (s : Nat → Nat) (h : Nat) : Nat → Nat → Nat
  | 0, _ => 19
  | n + 1, k => if h ≤ s k then k else midG s h n (k + 1)
def mid (c : Nat → Nat) : Nat := midG (sumF (wat c)) (fmul 1056964608 (sumF (wat c) 19)) 20 0
/-- the sum ahead of a class. -/
def bef (f : Nat → Nat) (k : Nat) : Nat := if k = 0 then 0 else sumF f (k - 1)
theorem ahead_add {f : Nat → Nat} {k : Nat} (h : nnB (f k) = true) : fadd (bef f k) (f k) = sumF f k := by
  unfold bef
  by_cases h0 : k = 0
  · subst h0; rw [if_pos rfl, fadd_zero h]; rfl
  · rw [if_neg h0]
    obtain ⟨j, rfl⟩ : ∃ j, k = j + 1 := ⟨k - 1, by omega⟩
    rfl
theorem ahead_nn {f : Nat → Nat} {k : Nat} (h : ∀ i, i < k → nnB (f i) = true) : nnB (bef f k) = true := by
  unfold bef
  by_cases h0 : k = 0
  · rw [if_pos h0]; decide
  · rw [if_neg h0]; exact sumF_nn (k - 1) (fun i hi => h i (by omega))
theorem ahead_succ (f : Nat → Nat) (k : Nat) : bef f (k + 1) = sumF f k := if_neg (by omega)
end Go.Fl
/- Regions that draw their order: blocks that are kept, and one law for each kind of operation. No program. -/
namespace Go.Fl
open Go.RowKit

/-- What was there at w0 has not turned, and the blocks of the list are arrays or structs with these cells. -/
def Kept (w0 : World) (l : List (Nat × Array Value × TypeId)) (w : World) : Prop :=
  Below w0.heap.size w0 w ∧ ∀ x ∈ l, w.heap[x.1]? = some (.cells x.2.1 x.2.2 (0, 0))

section
variable {w0 w w' : World} {l : List (Nat × Array Value × TypeId)} {g : Nat} {cs old : Array Value} {T : TypeId}
theorem lt_of_block {o : Obj} (h : w.heap[g]? = some o) : g < w.heap.size := by
  by_cases hlt : g < w.heap.size
  · exact hlt
  · rw [Array.getElem?_eq_none (by omega)] at h; cases h
theorem Kept.drew (h : Kept w0 l w) : Kept w0 l w.drew := ⟨h.1.drew, fun x hx => h.2 x hx⟩
theorem Kept.stay (h : Kept w0 l w) (hb : Below w.heap.size w w') : Kept w0 l w' := by
  refine ⟨h.1.trans (hb.mono h.1.size), fun x hx => ?_⟩
  have h1 := h.2 x hx
  rw [hb.block _ (lt_of_block h1)]; exact h1
theorem Kept.alloc (h : Kept w0 l w) (o : Obj) : Kept w0 l (w.alloc o) := by
  refine ⟨h.1.alloc h.1.size o, fun x hx => ?_⟩
  have h1 := h.2 x hx
  rw [Below.heap_alloc w o _ (lt_of_block h1)]; exact h1
theorem Kept.push (h : Kept w0 l w) (cs : Array Value) (T : TypeId) : Kept w0 ((w.heap.size, cs, T) :: l) (w.alloc (.cells cs T)) := by
  refine ⟨h.1.alloc h.1.size _, fun x hx => ?_⟩
  rcases List.mem_cons.1 hx with rfl | hx
  · exact heap_alloc_new _ _
  · exact (h.alloc _).2 x hx
theorem Kept.set (h : Kept w0 ((g, old, T) :: l) w) (hB : w0.heap.size ≤ g) (hg : ∀ x ∈ l, x.1 ≠ g) (cs : Array Value) : Kept w0 ((g, cs, T) :: l) (w.setRow g cs) := by
  refine ⟨below_row h.1 hB cs, fun x hx => ?_⟩
  rcases List.mem_cons.1 hx with rfl | hx
  · exact setRow_heap w g _ _ _ _ (h.2 (g, old, T) (by simp))
  · have e : (w.setRow g cs).heap[x.1]? = w.heap[x.1]? := setRow_other w g _ _ (hg x hx)
    rw [e]; exact h.2 x (by simp [hx])
theorem Kept.sub {l' : List (Nat × Array Value × TypeId)} (h : Kept w0 l w) (hl : ∀ x ∈ l', x ∈ l) : Kept w0 l' w := ⟨h.1, fun x hx => h.2 x (hl x hx)⟩
theorem Kept.at {x : Nat × Array Value × TypeId} (h : Kept w0 l w) (hx : x ∈ l) : w.heap[x.1]? = some (.cells x.2.1 x.2.2 (0, 0)) := h.2 x hx
theorem Kept.tail {x : Nat × Array Value × TypeId} (h : Kept w0 (x :: l) w) : Kept w0 l w := h.sub fun _ hy => List.mem_cons_of_mem _ hy
theorem Kept.nil (w : World) : Kept w [] w := ⟨Below.refl _ _, fun _ h => by cases h⟩
theorem Kept.size (h : Kept w0 l w) : w0.heap.size ≤ w.heap.size := h.1.size
theorem Kept.fresh (h : Kept w0 l w) : ∀ x ∈ l, x.1 ≠ w.heap.size := fun x hx => Nat.ne_of_lt (lt_of_block (h.2 x hx))
theorem Kept.lt {x : Nat × Array Value × TypeId} (h : Kept w0 l w) (hx : x ∈ l) : x.1 < w.heap.size := lt_of_block (h.2 x hx)
end

section
variable {P : Program} {ops : Array Oper} {Q : Exit → Act → World → Prop} {md : Region.Mode} {S : World → Prop}

theorem yields_kept {w0 : World} {l : List (Nat × Array Value × TypeId)} {o : Oper} {a : Act} (hw : Region.wanted o (yielded ops a.tmps) = true) (ty : TypeId) (x : Operand) (ho : o.op = .load ty x)
    (g : Nat) (cs : Array Value) (t : TypeId) (hx : a.eval x = .pointer (some ⟨g, 0, none⟩)) (hm : (g, cs, t) ∈ l) (d : TypeDesc)
    (hu : P.underlying ty = some d) (hd : (match d with | .struct _ | .array _ _ => true | _ => false) = true) (hi : (P.info? ty).map (·.size) = some cs.size) : YieldsIf P ops (Kept w0 l) o (.agg cs) a := by
  refine .inl ⟨hw, fun w hS => ?_⟩
  unfold execOp
  simp only [ho, hx, Instr.loadAt, Instr.sureAddr, Sem.run_bind, Sem.run_pure, Result.andThen_ok, run_loadVar_row w g t ty cs (0, 0) d (hS.at hm) hu hd hi]

theorem ready_call {fuel : Nat} {listed : Array Bool} {a : Act} {w : World} {i : Nat} {rs : List Nat} {o : Oper} (ho : ops[i]? = some o) (hw : Region.wanted o (yielded ops a.tmps) = true)
    (f : FuncId) (args : Array Value) (hrun : (execOp a.eval o).run P w = .ok (.enter f args) w) (v : Value) (R : World → Prop)
    (hc : Calls P f args w fun e w' => e = .returned v ∧ R w') (hn : ∀ w', R w' → S w' ∧ wpAnyH P md ops Q S fuel (listed.setIfInBounds i true) (a.put o.dst v) w')
    (hs : AllReadyH P md ops Q S fuel listed a w rs) : AllReadyH P md ops Q S fuel listed a w (i :: rs) := by
  refine AllReadyH.cons ho (fun K' hK => ?_) hs
  rw [if_pos hw]
  unfold Oper.wp
  rw [hrun, Oper.upon_enter]
  refine hc.mono fun e w' hh => ?_
  obtain ⟨rfl, hr⟩ := hh
  exact hK.out _ _ (hn w' hr).1 (fun _ => (hn w' hr).2)

theorem ready_val {fuel : Nat} {listed : Array Bool} {a : Act} {w : World} {i : Nat} {rs : List Nat} {o : Oper} (ho : ops[i]? = some o) (hw : Region.wanted o (yielded ops a.tmps) = true)
    (v : Value) (w' : World) (hrun : (execOp a.eval o).run P w = .ok (.value v) w') (hn : S w' ∧ wpAnyH P md ops Q S fuel (listed.setIfInBounds i true) (a.put o.dst v) w')
    (hs : AllReadyH P md ops Q S fuel listed a w rs) : AllReadyH P md ops Q S fuel listed a w (i :: rs) := by
  refine AllReadyH.cons ho (fun K' hK => ?_) hs
  rw [if_pos hw]
  unfold Oper.wp
  rw [hrun, Oper.upon_value]
  exact hK.out _ _ hn.1 (fun _ => hn.2)

theorem ready_store {fuel : Nat} {listed : Array Bool} {a : Act} {w : World} {i : Nat} {rs : List Nat} {o : Oper} (ho : ops[i]? = some o) (hw : Region.wanted o (yielded ops a.tmps) = true)
    (ty : TypeId) (x y : Operand) (hop : o.op = .store ty x y) (g : Nat) (cells : Array Value) (hx : a.eval x = .pointer (some ⟨g, 0, none⟩)) (hy : a.eval y = .agg cells)
    (t : TypeId) (old : Array Value) (hg : w.heap[g]? = some (.cells old t (0, 0))) (hi : (P.info? ty).map (·.size) = some cells.size) (hold : old.size = cells.size) (h1 : cells.all (·.oneCell') = true)
    (hn : S (w.setRow g cells) ∧ wpAnyH P md ops Q S fuel (listed.setIfInBounds i true) (a.put o.dst undef) (w.setRow g cells))
    (hs : AllReadyH P md ops Q S fuel listed a w rs) : AllReadyH P md ops Q S fuel listed a w (i :: rs) := by
  refine AllReadyH.cons ho (fun K' hK => ?_) hs
  rw [if_pos hw]
  exact wp_store_row ty x y hop g cells hx hy t old hg hi hold h1 (hK.out _ _ hn.1 (fun _ => hn.2))

section
variable {w0 : World} {l : List (Nat × Array Value × TypeId)} {fuel : Nat} {listed : Array Bool} {a : Act} {w : World} {rs : List Nat}
variable {d : Option Tmp} {op : Op} {ty0 : TypeId} {ps : String} {af : Array Edge} {gd : Option (Nat × Bool)}
theorem callK (i : Nat) (a' : Act) (listed' : Array Bool) (v : Value) (k : Kept w0 l w) (ho : ops[i]? = some ⟨d, op, ty0, ps, af, gd⟩) (hw : Region.wanted ⟨d, op, ty0, ps, af, gd⟩ (yielded ops a.tmps) = true) (f : FuncId) (args : Array Value)
    (hrun : ∀ w, (execOp a.eval ⟨d, op, ty0, ps, af, gd⟩).run P w = .ok (.enter f args) w) (ha : a.put d v = a') (hl : listed.setIfInBounds i true = listed')
    (hc : Calls P f args w fun e w' => e = .returned v ∧ Below w.heap.size w w')
    (hn : ∀ w', Kept w0 l w' → S w' ∧ wpAnyH P md ops Q S fuel listed' a' w')
    (hs : AllReadyH P md ops Q S fuel listed a w rs) : AllReadyH P md ops Q S fuel listed a w (i :: rs) := by
  subst ha hl
  exact ready_call ho hw f args (hrun w) v (fun w' => Below w.heap.size w w') hc (fun w' hb => hn w' (k.stay hb)) hs
theorem allocK (i : Nat) (a' : Nat → Act) (listed' : Array Bool) (k : Kept w0 l w) (ho : ops[i]? = some ⟨d, op, ty0, ps, af, gd⟩) (hw : Region.wanted ⟨d, op, ty0, ps, af, gd⟩ (yielded ops a.tmps) = true) (cs : Array Value) (T : TypeId)
    (hrun : (execOp a.eval ⟨d, op, ty0, ps, af, gd⟩).run P w = .ok (.value (.pointer (some ⟨w.heap.size, 0, none⟩))) (w.alloc (.cells cs T)))
    (ha : ∀ g, a.put d (.pointer (some ⟨g, 0, none⟩)) = a' g) (hl : listed.setIfInBounds i true = listed')
    (hn : ∀ w' g, Kept w0 ((g, cs, T) :: l) w' → w0.heap.size ≤ g → (∀ x ∈ l, x.1 ≠ g) → S w' ∧ wpAnyH P md ops Q S fuel listed' (a' g) w')
    (hs : AllReadyH P md ops Q S fuel listed a w rs) : AllReadyH P md ops Q S fuel listed a w (i :: rs) := by
  subst hl
  refine ready_val ho hw _ _ hrun ?_ hs
  have h := hn _ _ (k.push cs T) k.size k.fresh
  rw [← ha] at h
  exact h
theorem storeK (i : Nat) (a' : Act) (listed' : Array Bool) {g : Nat} {old : Array Value} {T : TypeId} (k : Kept w0 ((g, old, T) :: l) w) (hB : w0.heap.size ≤ g) (hne : ∀ x ∈ l, x.1 ≠ g) (ho : ops[i]? = some ⟨d, op, ty0, ps, af, gd⟩) (hw : Region.wanted ⟨d, op, ty0, ps, af, gd⟩ (yielded ops a.tmps) = true)
    (ty : TypeId) (x y : Operand) (hop : op = .store ty x y) (cells : Array Value) (hx : a.eval x = .pointer (some ⟨g, 0, none⟩)) (hy : a.eval y = .agg cells)
    (hi : (P.info? ty).map (·.size) = some cells.size) (hold : old.size = cells.size) (h1 : cells.all (·.oneCell') = true) (ha : a.put d undef = a') (hl : listed.setIfInBounds i true = listed')
    (hn : ∀ w', Kept w0 ((g, cells, T) :: l) w' → S w' ∧ wpAnyH P md ops Q S fuel listed' a' w')
    (hs : AllReadyH P md ops Q S fuel listed a w rs) : AllReadyH P md ops Q S fuel listed a w (i :: rs) := by
  subst ha hl
  exact ready_store ho hw ty x y hop g cells hx hy T old (k.at (x := (g, old, T)) (by simp)) hi hold h1 (hn _ (k.set hB hne cells)) hs

theorem take_load (i : Nat) (a' : Act) (listed' : Array Bool) (ho : ops[i]? = some ⟨d, op, ty0, ps, af, gd⟩) (hw : Region.wanted ⟨d, op, ty0, ps, af, gd⟩ (yielded ops a.tmps) = true)
    (hs : Region.noSelect ops = true) (hf : Region.free md ops listed i = true) (hr : (Region.ready md ops listed).contains i = true)
    (ty : TypeId) (x : Operand) (hop : op = .load ty x) (g : Nat) (cs : Array Value) (t : TypeId) (hx : a.eval x = .pointer (some ⟨g, 0, none⟩)) (hm : (g, cs, t) ∈ l) (dd : TypeDesc)
    (hu : P.underlying ty = some dd) (hd : (match dd with | .struct _ | .array _ _ => true | _ => false) = true) (hi : (P.info? ty).map (·.size) = some cs.size)
    (ha : a.put d (.agg cs) = a') (hl : listed.setIfInBounds i true = listed') (hS : Kept w0 l w)
    (h : wpAnyH P md ops (NoPanic Q) (Kept w0 l) fuel listed' a' w) : wpAnyH P md ops (NoPanic Q) (Kept w0 l) (fuel + 1) listed a w := by
  subst ha hl
  exact wpAnyH_take ho hs hf hr (fun _ _ _ h => h) (yields_kept hw ty x hop g cs t hx hm dd hu hd hi) hS h
theorem take_cell (i : Nat) (a' : Act) (listed' : Array Bool) (v : Value) (ho : ops[i]? = some ⟨d, op, ty0, ps, af, gd⟩) (hw : Region.wanted ⟨d, op, ty0, ps, af, gd⟩ (yielded ops a.tmps) = true)
    (hs : Region.noSelect ops = true) (hf : Region.free md ops listed i = true) (hr : (Region.ready md ops listed).contains i = true)
    (hy : ∀ w, S w → (execOp a.eval ⟨d, op, ty0, ps, af, gd⟩).run P w = .ok (.value v) w)
    (ha : a.put d v = a') (hl : listed.setIfInBounds i true = listed') (hS : S w)
    (h : wpAnyH P md ops (NoPanic Q) S fuel listed' a' w) : wpAnyH P md ops (NoPanic Q) S (fuel + 1) listed a w := by
  subst ha hl
  exact wpAnyH_take ho hs hf hr (fun _ _ _ h => h) (.inl ⟨hw, hy⟩) hS h
theorem take_val (i : Nat) (a' : Act) (listed' : Array Bool) (v : Value) (ho : ops[i]? = some ⟨d, op, ty0, ps, af, gd⟩) (hw : Region.wanted ⟨d, op, ty0, ps, af, gd⟩ (yielded ops a.tmps) = true)
    (hs : Region.noSelect ops = true) (hf : Region.free md ops listed i = true) (hr : (Region.ready md ops listed).contains i = true)
    (hy : ∀ w, (execOp a.eval ⟨d, op, ty0, ps, af, gd⟩).run P w = .ok (.value v) w)
    (ha : a.put d v = a') (hl : listed.setIfInBounds i true = listed') (hS : S w)
    (h : wpAnyH P md ops (NoPanic Q) S fuel listed' a' w) : wpAnyH P md ops (NoPanic Q) S (fuel + 1) listed a w := by
  subst ha hl
  exact wpAnyH_take ho hs hf hr (fun _ _ _ h => h) (.inl ⟨hw, fun w _ => hy w⟩) hS h
end

theorem ne_cons {x y : Nat × Array Value × TypeId} {l : List (Nat × Array Value × TypeId)} (h : x.1 ≠ y.1) (hl : ∀ z ∈ l, z.1 ≠ y.1) : ∀ z ∈ x :: l, z.1 ≠ y.1 := fun z hz => by
  rcases List.mem_cons.1 hz with rfl | hz
  · exact h
  · exact hl z hz
theorem Kept.swap {w0 w : World} {x y : Nat × Array Value × TypeId} {l : List (Nat × Array Value × TypeId)} (h : Kept w0 (x :: y :: l) w) : Kept w0 (y :: x :: l) w := h.sub fun z hz => by
  simp only [List.mem_cons] at hz ⊢
  rcases hz with h | h | h
  · exact .inr (.inl h)
  · exact .inl h
  · exact .inr (.inr h)
theorem region_kept {id : Nat} {w0 : World} {l : List (Nat × Array Value × TypeId)} {a : Act} {w : World} (n : Nat) (listed : Array Bool) (hm : P.follows .mixedOrders = true) (hn : ops.size = n) (hl : Array.replicate ops.size false = listed)
    (h : wpAnyH P .any ops (NoPanic Q) (Kept w0 l) n listed a w.drew) : (Code.region id ops true).wp P Q a w := by
  subst hn hl
  exact wp_region_noPanic (wp_region_held hm h)
end
end Go.Fl
/- Blocks that hold an array of n cells of any one-cell values; arrays of whole numbers compared. No program. -/
namespace Go.Fl
open Go.RowKit

def vls (n : Nat) (f : Nat → Value) : Array Value := Array.ofFn (n := n) fun i => f i.val
@[simp, go_sem] theorem vls_size (n : Nat) (f : Nat → Value) : (vls n f).size = n := by simp [vls]
theorem vls_get {n : Nat} (f : Nat → Value) {k : Nat} (h : k < n) : (vls n f)[k]? = some (f k) := by simp [vls, h]
theorem vls_none {n : Nat} (f : Nat → Value) {k : Nat} (h : n ≤ k) : (vls n f)[k]? = none := by simp [vls]; omega
theorem vls_ext {n : Nat} {f g : Nat → Value} (h : ∀ i, i < n → f i = g i) : vls n f = vls n g := by
  unfold vls
  congr 1
  funext i
  rw [h i.val i.isLt]
def updV (f : Nat → Value) (k : Nat) (x : Value) : Nat → Value := fun i => if i = k then x else f i
theorem vls_set (n : Nat) (f : Nat → Value) (k : Nat) (x : Value) : (vls n f).setIfInBounds k x = vls n (updV f k x) := by
  apply Array.ext_getElem?
  intro i
  rw [Array.getElem?_setIfInBounds]
  by_cases hi : i < n
  · rw [vls_get _ hi, vls_get _ hi, vls_size]
    by_cases h : k = i
    · subst h; simp [updV, hi]
    · simp [h, updV, Ne.symm h]
  · rw [vls_none _ (by omega), vls_none _ (by omega), vls_size]
    by_cases h : k = i
    · subst h; simp [hi]
    · simp [h]
theorem fls_vls (c : Nat → Nat) : fls c = vls 20 (fun i => .float .f32 (c i)) := rfl
theorem vls_one {n : Nat} {f : Nat → Value} (h : ∀ i, (f i).oneCell' = true) : (vls n f).all (·.oneCell') = true := by
  rw [Array.all_eq_true]
  intro i hi
  simp only [vls, Array.getElem_ofFn, h]

/-- The block g is an array of n cells. -/
def vAt (w : World) (g n : Nat) (f : Nat → Value) (T : TypeId) : Prop := w.heap[g]? = some (.cells (vls n f) T (0, 0))
section
variable {w w' : World} {g B n : Nat} {f d : Nat → Value} {T : TypeId}
theorem vAt.cell (h : vAt w g n f T) {k : Nat} (hk : k < n) : w.cell? ⟨g, k, none⟩ = some (f k) := by
  rw [cell_of_row w g k _ _ _ h, vls_get f hk]
theorem vAt.frozen (h : vAt w g n f T) (k : Nat) : w.frozen? ⟨g, k, none⟩ = false := frozen_of_row w g k _ _ h
theorem vAt.set (h : vAt w g n f T) (k : Nat) (x : Value) : vAt (w.setCell ⟨g, k, none⟩ x) g n (updV f k x) T := by
  unfold vAt
  rw [heap_setCell_same w g k _ _ _ h, vls_set]
theorem vAt.setOther (h : vAt w g n f T) {a : Addr} (ha : g ≠ a.block) (v : Value) : vAt (w.setCell a v) g n f T := by
  unfold vAt
  rw [heap_setCell_other w a g v ha]
  exact h
theorem vAt.setRow (h : vAt w g n f T) (cs : Nat → Value) : vAt (w.setRow g (vls n cs)) g n cs T := setRow_heap w g _ _ _ _ h
theorem vAt.setRowOther (h : vAt w g n f T) {k : Nat} (hk : g ≠ k) (cs : Array Value) : vAt (w.setRow k cs) g n f T := by
  unfold vAt
  rw [setRow_other w k g cs hk]
  exact h
theorem vAt.lt (h : vAt w g n f T) : g < w.heap.size := by
  unfold vAt at h
  by_cases hlt : g < w.heap.size
  · exact hlt
  · rw [Array.getElem?_eq_none (by omega)] at h
    cases h
theorem vAt.alloc (h : vAt w g n f T) (o : Obj) : vAt (w.alloc o) g n f T := by
  have := h.lt
  unfold vAt
  rw [Below.heap_alloc w o g this]
  exact h
theorem vAt.new (w : World) (n : Nat) (f : Nat → Value) (T : TypeId) : vAt (w.alloc (.cells (vls n f) T)) w.heap.size n f T := heap_alloc_new _ _
theorem vAt.new1 (w : World) (o : Obj) (n : Nat) (f : Nat → Value) (T : TypeId) : vAt ((w.alloc o).alloc (.cells (vls n f) T)) (w.heap.size + 1) n f T := by
  have := vAt.new (w.alloc o) n f T
  have e : (w.alloc o).heap.size = w.heap.size + 1 := by simp
  rwa [e] at this
theorem vAt.new2 (w : World) (o o' : Obj) (n : Nat) (f : Nat → Value) (T : TypeId) : vAt (((w.alloc o).alloc o').alloc (.cells (vls n f) T)) (w.heap.size + 1 + 1) n f T := by
  have := vAt.new ((w.alloc o).alloc o') n f T
  have e : ((w.alloc o).alloc o').heap.size = w.heap.size + 1 + 1 := by simp
  rwa [e] at this
theorem vAt.stay (h : vAt w g n f T) (hb : Below w.heap.size w w') : vAt w' g n f T := by
  unfold vAt
  rw [hb.block g h.lt]
  exact h
theorem vAt.ext (h : vAt w g n f T) (he : ∀ i, i < n → f i = d i) : vAt w g n d T := by
  unfold vAt
  rw [← vls_ext he]
  exact h
theorem vAt.drew (h : vAt w g n f T) : vAt w.drew g n f T := h
end
/-- The first k places as f has them, the others as d. -/
def prtV (f d : Nat → Value) (k : Nat) : Nat → Value := fun i => if i < k then f i else d i
theorem prtV_zero (f d : Nat → Value) (i : Nat) : prtV f d 0 i = d i := by simp [prtV]
theorem prtV_here (f d : Nat → Value) (k : Nat) : prtV f d k k = d k := by simp [prtV]
theorem prtV_succ (f d : Nat → Value) (k i : Nat) : updV (prtV f d k) k (f k) i = prtV f d (k + 1) i := by
  unfold updV prtV
  by_cases h : i = k
  · subst h; simp
  · rw [if_neg h]
    by_cases h2 : i < k
    · rw [if_pos h2, if_pos (by omega)]
    · rw [if_neg h2, if_neg (by omega)]
theorem prtV_all (f d : Nat → Value) (n i : Nat) (h : i < n) : prtV f d n i = f i := if_pos h

/-- Twenty words as whole numbers. -/
def ilv (c : Nat → Nat) : Nat → Value := fun i => .int .u32 (c i : Int)
@[go_sem] theorem zeros20u : (#[Value.int .u32 0, Value.int .u32 0, Value.int .u32 0, Value.int .u32 0, Value.int .u32 0, Value.int .u32 0, Value.int .u32 0, Value.int .u32 0, Value.int .u32 0, Value.int .u32 0,
    Value.int .u32 0, Value.int .u32 0, Value.int .u32 0, Value.int .u32 0, Value.int .u32 0, Value.int .u32 0, Value.int .u32 0, Value.int .u32 0, Value.int .u32 0, Value.int .u32 0] : Array Value) = vls 20 (fun _ => .int .u32 0) := by
  apply Array.ext_getElem?
  intro i
  by_cases hi : i < 20
  · rw [vls_get _ hi]
    rcases i with _ | _ | _ | _ | _ | _ | _ | _ | _ | _ | _ | _ | _ | _ | _ | _ | _ | _ | _ | _ | i <;> first | rfl | omega
  · rw [vls_none _ (by omega), Array.getElem?_eq_none]
    simp; omega

section
variable {P : Program}
def allEq (c d : Nat → Nat) (l : List Nat) : Bool := l.all fun i => (c i : Int) == (d i : Int)
theorem run_items_u32 {e : TypeId} {i : TypeInfo} (he : P.underlying e = some (.int .u32)) (hi : P.info? e = some i) (hi1 : i.size = 1) (dd : Nat) (c d : Nat → Nat) (w : World) : ∀ (l : List Nat), (∀ k ∈ l, k < 20) →
    (Op.eqItems (dd + 1) e 1 (vls 20 (ilv c)) (vls 20 (ilv d)) l).run P w = .ok (allEq c d l) w
  | [], _ => by simp [Op.eqItems, allEq]
  | k :: l, h => by
    have hk := h k (by simp)
    have ih := run_items_u32 he hi hi1 dd c d w l (fun k' hk' => h k' (by simp [hk']))
    have p1 : (part e (vls 20 (ilv c)) (k * 1)).run P w = .ok (.int .u32 (c k)) w := run_part_one he rfl _ _ _ (by rw [Nat.mul_one, vls_get _ hk]; rfl) w
    have p2 : (part e (vls 20 (ilv d)) (k * 1)).run P w = .ok (.int .u32 (d k)) w := run_part_one he rfl _ _ _ (by rw [Nat.mul_one, vls_get _ hk]; rfl) w
    have p3 : (Op.equalIn (dd + 1) e (.int .u32 (c k)) (.int .u32 (d k))).run P w = .ok ((c k : Int) == (d k : Int)) w := run_equalIn_int w dd e .u32 .u32 _ _ he
    simp only [Op.eqItems, Sem.run_bind, p1, p2, p3, Result.andThen_ok]
    have ea : allEq c d (k :: l) = (((c k : Int) == (d k : Int)) && allEq c d l) := by simp [allEq]
    rw [ea]
    cases (c k : Int) == (d k : Int)
    · simp
    · simpa using ih
theorem run_eq_u32s {T e : TypeId} {i : TypeInfo} (hT : P.underlying T = some (.array 20 e)) (he : P.underlying e = some (.int .u32)) (hi : P.info? e = some i) (hi1 : i.size = 1) (hc : P.cellsOf e = 1) (c d : Nat → Nat) (w : World) :
    (binOp .eql T (.agg (vls 20 (ilv c))) (.agg (vls 20 (ilv d)))).run P w = .ok (.bool (allEq c d (List.range 20))) w := by
  rw [run_eql_struct, run_equalIn_array w 9999 _ _ hT hi, hc, run_items_u32 he hi hi1 9998 c d w _ (fun k hk => List.mem_range.1 hk)]
  rfl
end
theorem run_binop_val {P : Program} {op : BinOp} {t s : TypeId} {d : Option Tmp} {ty : TypeId} {ps : String} {af : Array Edge} {gd : Option (Nat × Bool)} {w : World} {v : Value} {a : Act} (x y : Operand) (X Y : Value) (hx : a.eval x = X) (hy : a.eval y = Y)
    (hg : (eqGuard op t x y X Y).run P w = .ok () w) (h : (binOp op t X Y).run P w = .ok v w) : (execOp a.eval ⟨d, .binOp op t x y s, ty, ps, af, gd⟩).run P w = .ok (.value v) w := by
  subst hx hy
  unfold execOp
  simp [Sem.run_bind, h, hg]
theorem all_step {p : Nat → Prop} {k : Nat} (h : ∀ i, i < k → p i) (hk : p k) : ∀ i, i < k + 1 → p i := fun i hi => by
  rcases Nat.lt_or_eq_of_le (Nat.le_of_lt_succ hi) with h1 | h1
  · exact h i h1
  · rw [h1]; exact hk
end Go.Fl
/- Rounding of doubles: the texts of Round and Round2 with the other format. No program. -/
namespace Go.Fl
open Ieee

def faddD (x y : Nat) : Nat := (D.add x y).getD 0
def fmulD (x y : Nat) : Nat := (D.mul x y).getD 0
def fsubD (x y : Nat) : Nat := (D.sub x y).getD 0
def fdivD (x y : Nat) : Nat := (D.div x y).getD 0
def nnBD (x : Nat) : Bool := decide (x ≤ DINF)
def amtBD (x : Nat) : Bool := decide (x < DINF)
theorem nnB_iffD {x : Nat} : nnBD x = true ↔ x ≤ DINF := by simp [nnBD]
theorem amtB_iffD {x : Nat} : amtBD x = true ↔ x < DINF := by simp [amtBD]
theorem val_zeroD : valD 0 = 0 := by decide
theorem add_eqD {x y : Nat} (hx : nnBD x = true) (hy : nnBD y = true) : D.add x y = some (faddD x y) ∧ nnBD (faddD x y) = true := by
  obtain ⟨r, h, h'⟩ := add_nnD (nnB_iffD.1 hx) (nnB_iffD.1 hy)
  unfold faddD
  rw [h]
  exact ⟨rfl, nnB_iffD.2 h'⟩
theorem mul_eqD {x y : Nat} (hx : amtBD x = true) (hy : amtBD y = true) : D.mul x y = some (fmulD x y) ∧ nnBD (fmulD x y) = true := by
  obtain ⟨r, h, h'⟩ := mul_nnD (amtB_iffD.1 hx) (amtB_iffD.1 hy)
  unfold fmulD
  rw [h]
  exact ⟨rfl, nnB_iffD.2 h'⟩

/-- The rung of a positive number of single precision, before it is held at infinity: E is its place above the least one. -/
def rungTD (m : Nat) (E : Int) : Nat := (max (E + (m.log2 : Int) - 52) 0).toNat
def rungKD (m : Nat) (E : Int) : Nat := Toward.even.cut false (m * 2 ^ (E - rungTD m E).toNat) ((rungTD m E : Int) - E).toNat


theorem nearest_rungD {m : Nat} (hm : m ≠ 0) (E : Int) : D.nearest false m (-1074 + E) = min (rungTD m E * 4503599627370496 + rungKD m E) 9218868437227405312 := by
  unfold Format.nearest
  rw [if_neg hm]
  have e1 : max (-1074 + E + (m.log2 : Int) - (D.fractionBits : Nat)) D.leastPlace = -1074 + (rungTD m E : Int) := by
    rw [lp_D, fb_D]; unfold rungTD; omega
  simp only [e1]
  rw [lp_D, Nat.shiftLeft_eq, bin_D, infRung_D, show (-1074 + E - (-1074 + (rungTD m E : Int))).toNat = (E - rungTD m E).toNat by omega,
    show (-1074 + (rungTD m E : Int) - (-1074 + E)).toNat = ((rungTD m E : Int) - E).toNat by omega, show (-1074 + (rungTD m E : Int) - -1074).toNat = rungTD m E by omega]
  simp [Format.word, rungKD]


/-- ROUNDING IS MONOTONE. -/
theorem nearest_monoD {m m' : Nat} {E E' : Int} (p p' : Nat) (hp : E - E' = (p : Int) - p') (h : m * 2 ^ p ≤ m' * 2 ^ p') : D.nearest false m (-1074 + E) ≤ D.nearest false m' (-1074 + E') := by
  by_cases hm : m = 0
  · subst hm
    unfold Format.nearest
    simp [Format.word]
  have hm' : m' ≠ 0 := by
    intro h0
    rw [h0, Nat.zero_mul] at h
    have : 0 < m * 2 ^ p := Nat.mul_pos (Nat.pos_of_ne_zero hm) (Nat.two_pow_pos _)
    omega
  rw [nearest_rungD hm, nearest_rungD hm']
  have l1 : 2 ^ m.log2 ≤ m := Nat.log2_self_le hm
  have l2 : m < 2 ^ (m.log2 + 1) := Nat.lt_log2_self
  have l1' : 2 ^ m'.log2 ≤ m' := Nat.log2_self_le hm'
  have l2' : m' < 2 ^ (m'.log2 + 1) := Nat.lt_log2_self
  have hlog : m.log2 + p < m'.log2 + 1 + p' := by
    apply pow_mul_lt
    rw [Nat.pow_add, Nat.pow_add]
    calc 2 ^ m.log2 * 2 ^ p ≤ m * 2 ^ p := Nat.mul_le_mul_right _ l1
      _ ≤ m' * 2 ^ p' := h
      _ < 2 ^ (m'.log2 + 1) * 2 ^ p' := Nat.mul_lt_mul_of_pos_right l2' (Nat.two_pow_pos _)
  have hT : rungTD m E ≤ rungTD m' E' := by unfold rungTD; omega
  have hR : rungTD m E * 4503599627370496 + rungKD m E ≤ rungTD m' E' * 4503599627370496 + rungKD m' E' := by
    rcases Nat.lt_or_eq_of_le hT with hlt | heq
    · have k1 : rungKD m E ≤ 9007199254740992 := by
        unfold rungKD
        apply cut_le
        rw [show (9007199254740992 : Nat) = 2 ^ 53 by decide, ← Nat.pow_add]
        calc m * 2 ^ (E - rungTD m E).toNat ≤ 2 ^ (m.log2 + 1) * 2 ^ (E - rungTD m E).toNat := Nat.mul_le_mul_right _ (Nat.le_of_lt l2)
          _ = 2 ^ (m.log2 + 1 + (E - rungTD m E).toNat) := (Nat.pow_add 2 (m.log2 + 1) _).symm
          _ ≤ _ := Nat.pow_le_pow_right (by decide) (by unfold rungTD; omega)
      have k2 : 4503599627370496 ≤ rungKD m' E' := by
        unfold rungKD
        apply le_cut
        rw [show (4503599627370496 : Nat) = 2 ^ 52 by decide, ← Nat.pow_add]
        calc 2 ^ (52 + ((rungTD m' E' : Int) - E').toNat) ≤ 2 ^ (m'.log2 + (E' - rungTD m' E').toNat) := Nat.pow_le_pow_right (by decide) (by unfold rungTD at *; omega)
          _ = 2 ^ m'.log2 * 2 ^ (E' - rungTD m' E').toNat := Nat.pow_add 2 m'.log2 _
          _ ≤ _ := Nat.mul_le_mul_right _ l1'
      generalize rungTD m E = a at *
      generalize rungTD m' E' = b at *
      generalize rungKD m E = c at *
      generalize rungKD m' E' = d at *
      omega
    · rw [heq]
      have : rungKD m E ≤ rungKD m' E' := by
        unfold rungKD
        rw [heq]
        clear hT heq hlog l1 l2 l1' l2'
        apply cut_mono
        generalize rungTD m' E' = t
        rw [Nat.mul_assoc, ← Nat.pow_add, Nat.mul_assoc, ← Nat.pow_add]
        rcases Nat.le_total p' p with hpp | hpp
        · obtain ⟨s, rfl⟩ : ∃ s, p = p' + s := ⟨p - p', by omega⟩
          have hs : m * 2 ^ s ≤ m' := by
            rw [Nat.pow_add, show m * (2 ^ p' * 2 ^ s) = m * 2 ^ s * 2 ^ p' by rw [Nat.mul_comm (2 ^ p'), Nat.mul_assoc]] at h
            exact Nat.le_of_mul_le_mul_right h (Nat.two_pow_pos _)
          have e : (E - (t : Int)).toNat + ((t : Int) - E').toNat = s + ((E' - (t : Int)).toNat + ((t : Int) - E).toNat) := by omega
          rw [e, Nat.pow_add 2 s, ← Nat.mul_assoc m (2 ^ s)]
          exact Nat.mul_le_mul_right _ hs
        · obtain ⟨s, rfl⟩ : ∃ s, p' = p + s := ⟨p' - p, by omega⟩
          have hs : m ≤ m' * 2 ^ s := by
            rw [Nat.pow_add, show m' * (2 ^ p * 2 ^ s) = m' * 2 ^ s * 2 ^ p by rw [Nat.mul_comm (2 ^ p), Nat.mul_assoc]] at h
            exact Nat.le_of_mul_le_mul_right h (Nat.two_pow_pos _)
          have e : (E' - (t : Int)).toNat + ((t : Int) - E).toNat = s + ((E - (t : Int)).toNat + ((t : Int) - E').toNat) := by omega
          rw [e, Nat.pow_add 2 s, ← Nat.mul_assoc m' (2 ^ s)]
          exact Nat.mul_le_mul_right _ hs
      exact Nat.add_le_add_left this _
  exact Nat.le_min.2 ⟨Nat.le_trans (Nat.min_le_left _ _) hR, Nat.min_le_right _ _⟩
theorem nearest_congrD {m m' : Nat} {E E' : Int} (p p' : Nat) (hp : E - E' = (p : Int) - p') (h : m * 2 ^ p = m' * 2 ^ p') : D.nearest false m (-1074 + E) = D.nearest false m' (-1074 + E') :=
  Nat.le_antisymm (nearest_monoD p p' hp (Nat.le_of_eq h)) (nearest_monoD p' p (by omega) (Nat.le_of_eq h.symm))


theorem read_repD {y : Nat} (h : y < DINF) : ∃ M t, D.read y = .number false M (-1074 + (t : Nat)) ∧ valD y = M * 2 ^ t ∧ y = t * 4503599627370496 + M ∧ M < 9007199254740992 ∧ (t = 0 ∨ 4503599627370496 ≤ M) := by
  rw [DINF_val] at h
  have hd : y / 9223372036854775808 = 0 := Nat.div_eq_of_lt (by omega)
  have hm : y % 9223372036854775808 = y := Nat.mod_eq_of_lt (by omega)
  unfold Format.read valD
  simp only [sw_D, bin_D, infRung_D, hd, hm]
  by_cases h1 : y < 4503599627370496
  · refine ⟨y, 0, ?_, ?_, by omega, by omega, .inl rfl⟩
    · simp [h1]; decide
    · simp [h1]
  · refine ⟨4503599627370496 + y % 4503599627370496, y / 4503599627370496 - 1, ?_, ?_, by omega, by omega, .inr (by omega)⟩
    · simp [h1, h]; decide
    · rw [if_neg h1]

/-- A word's own value is written as the word. -/
theorem nearest_valD {y : Nat} (h : y < DINF) : D.nearest false (valD y) (-1074 + (0 : Int)) = y := by
  obtain ⟨M, t, _, hv, hy, hM, ht⟩ := read_repD h
  have e : D.nearest false (valD y) (-1074 + (0 : Int)) = D.nearest false M (-1074 + (t : Int)) := by
    apply nearest_congrD 0 t (by omega)
    rw [hv]; simp
  rw [e]
  by_cases hM0 : M = 0
  · have ht0 : t = 0 := by omega
    subst hM0; subst ht0
    unfold Format.nearest
    simp [Format.word, hy]
  rw [nearest_rungD hM0]
  have hl : M.log2 < 53 := (Nat.log2_lt hM0).2 (by omega)
  have hl2 : 4503599627370496 ≤ M → 52 ≤ M.log2 := fun h8 => (Nat.le_log2 hM0).2 (by omega)
  have hT : rungTD M t = t := by
    unfold rungTD
    rcases ht with rfl | h8
    · omega
    · have := hl2 h8; omega
  unfold rungKD
  rw [hT, show ((t : Int) - (t : Int)).toNat = 0 by omega, cut_z]
  rw [DINF_val] at h
  simp only [Nat.pow_zero, Nat.mul_one]
  rw [← hy]
  exact Nat.min_eq_left (by omega)

theorem nearest_le_wordD {m y : Nat} {E : Int} (hy : y < DINF) (p p' : Nat) (hp : E = (p : Int) - p') (h : m * 2 ^ p ≤ valD y * 2 ^ p') : D.nearest false m (-1074 + E) ≤ y := by
  have := nearest_monoD (m := m) (m' := valD y) (E := E) (E' := 0) p p' (by omega) h
  rwa [nearest_valD hy] at this

theorem word_le_nearestD {m y : Nat} {E : Int} (hy : y < DINF) (p p' : Nat) (hp : E = (p : Int) - p') (h : valD y * 2 ^ p' ≤ m * 2 ^ p) : y ≤ D.nearest false m (-1074 + E) := by
  have := nearest_monoD (m := valD y) (m' := m) (E := 0) (E' := E) p' p (by omega) h
  rwa [nearest_valD hy] at this

theorem fadd_valD {x y : Nat} (hx : x < DINF) (hy : y < DINF) : faddD x y = D.nearest false (valD x + valD y) (-1074 + (0 : Int)) := by
  obtain ⟨m, j, h1, v1⟩ := read_valD hx
  obtain ⟨n, k, h2, v2⟩ := read_valD hy
  unfold faddD Format.add
  rw [h1, h2, v1, v2]
  simp only [Datum.sum, signed, Bool.false_eq_true, if_false, Option.map_some, Option.getD_some, Nat.shiftLeft_eq]
  have hs : ∀ a b : Nat, ((a : Int) + (b : Int)).natAbs = a + b := fun a b => by omega
  have hneg : ∀ a b : Nat, (if (a : Int) + (b : Int) = 0 then false && false else decide ((a : Int) + (b : Int) < 0)) = false := fun a b => by
    split
    · rfl
    · simp; omega
  rw [hs, hneg]
  show D.nearest false _ _ = _
  rcases Nat.le_total j k with h | h
  · obtain ⟨s, rfl⟩ : ∃ s, k = j + s := ⟨k - j, by omega⟩
    have e0 : min (-1074 + (j : Int)) (-1074 + ((j + s : Nat) : Int)) = -1074 + (j : Int) := by omega
    rw [e0, show (-1074 + (j : Int) - (-1074 + (j : Int))).toNat = 0 by omega, show (-1074 + ((j + s : Nat) : Int) - (-1074 + (j : Int))).toNat = s by omega]
    apply nearest_congrD j 0 (by omega)
    rw [Nat.pow_zero, Nat.mul_one, Nat.mul_one, Nat.add_mul, Nat.pow_add, Nat.mul_assoc, Nat.mul_comm (2 ^ s)]
  · obtain ⟨s, rfl⟩ : ∃ s, j = k + s := ⟨j - k, by omega⟩
    have e0 : min (-1074 + ((k + s : Nat) : Int)) (-1074 + (k : Int)) = -1074 + (k : Int) := by omega
    rw [e0, show (-1074 + (k : Int) - (-1074 + (k : Int))).toNat = 0 by omega, show (-1074 + ((k + s : Nat) : Int) - (-1074 + (k : Int))).toNat = s by omega]
    apply nearest_congrD k 0 (by omega)
    rw [Nat.pow_zero, Nat.mul_one, Nat.mul_one, Nat.add_mul, Nat.pow_add, Nat.mul_assoc, Nat.mul_comm (2 ^ s)]

theorem fmul_valD {x y : Nat} (hx : x < DINF) (hy : y < DINF) : fmulD x y = D.nearest false (valD x * valD y) (-1074 + (-1074 : Int)) := by
  obtain ⟨m, j, h1, v1⟩ := read_valD hx
  obtain ⟨n, k, h2, v2⟩ := read_valD hy
  unfold fmulD Format.mul
  rw [h1, h2, v1, v2]
  simp only [Datum.product, Option.map_some, Option.getD_some]
  show D.nearest false (m * n) (-1074 + (j : Int) + (-1074 + (k : Int))) = _
  rw [show -1074 + (j : Int) + (-1074 + (k : Int)) = -1074 + ((j : Int) + k - 1074) by omega]
  apply nearest_congrD (j + k) 0 (by omega)
  rw [Nat.pow_zero, Nat.mul_one, Nat.pow_add]
  rw [show m * n * (2 ^ j * 2 ^ k) = m * 2 ^ j * (n * 2 ^ k) by rw [Nat.mul_assoc, Nat.mul_left_comm n, ← Nat.mul_assoc]]

theorem val_leD {x y : Nat} (h : x ≤ y) : valD x ≤ valD y := by
  rcases Nat.lt_or_eq_of_le h with h | h
  · exact Nat.le_of_lt (val_ltD h)
  · rw [h]; exact Nat.le_refl _

theorem fadd_zeroD {x : Nat} (hx : nnBD x = true) : faddD 0 x = x := by
  rw [nnB_iffD] at hx
  rcases Nat.lt_or_eq_of_le hx with h | h
  · rw [fadd_valD (by decide) h, val_zeroD, Nat.zero_add, nearest_valD h]
  · rw [h]; decide

theorem fmul_zeroD {x : Nat} (hx : amtBD x = true) : fmulD 0 x = 0 := by
  rw [fmul_valD (by decide) (amtB_iffD.1 hx), val_zeroD, Nat.zero_mul]
  unfold Format.nearest
  simp [Format.word]

def VONED : Nat := 1074
theorem val_ONED : valD 4607182418800017408 = 2 ^ VONED := by decide +kernel

theorem fmul_leD {x y : Nat} (hx : x ≤ 4607182418800017408) (hy : y < DINF) : fmulD x y ≤ y := by
  rw [fmul_valD (by rw [DINF_val]; omega) hy]
  refine nearest_le_wordD hy 0 VONED (by unfold VONED; omega) ?_
  rw [Nat.pow_zero, Nat.mul_one, Nat.mul_comm, ← val_ONED]
  exact Nat.mul_le_mul_left _ (val_leD hx)

theorem le_fmulD {x y : Nat} (hx : x < DINF) (hy : 4607182418800017408 ≤ y) (hy' : y < DINF) : x ≤ fmulD x y := by
  rw [fmul_valD hx hy']
  refine word_le_nearestD hx 0 VONED (by unfold VONED; omega) ?_
  rw [Nat.pow_zero, Nat.mul_one, ← val_ONED]
  exact Nat.mul_le_mul_left _ (val_leD hy)

theorem write_DINF : D.write (.infinity false) = DINF := by decide
theorem add_inf_leftD {y : Nat} (h : y ≤ DINF) : faddD DINF y = DINF := by
  have e : (Datum.infinity false).sum (D.read y) = some (.infinity false) := by
    rcases read_nnD h with ⟨m, e, h1⟩ | h1 <;> rw [h1] <;> rfl
  unfold faddD Format.add
  rw [read_DINF, e, Option.map_some, Option.getD_some, write_DINF]
theorem add_inf_rightD {x : Nat} (h : x ≤ DINF) : faddD x DINF = DINF := by
  have e : (D.read x).sum (Datum.infinity false) = some (.infinity false) := by
    rcases read_nnD h with ⟨m, e, h1⟩ | h1 <;> rw [h1] <;> rfl
  unfold faddD Format.add
  rw [read_DINF, e, Option.map_some, Option.getD_some, write_DINF]

theorem fadd_monoD {x y x' y' : Nat} (h1 : x ≤ x') (h2 : y ≤ y') (hx' : x' ≤ DINF) (hy' : y' ≤ DINF) : faddD x y ≤ faddD x' y' := by
  have hle : faddD x y ≤ DINF := nnB_iffD.1 (add_eqD (nnB_iffD.2 (Nat.le_trans h1 hx')) (nnB_iffD.2 (Nat.le_trans h2 hy'))).2
  rcases Nat.lt_or_eq_of_le hx' with a | a
  · rcases Nat.lt_or_eq_of_le hy' with b | b
    · rw [fadd_valD (by omega) (by omega), fadd_valD a b]
      exact nearest_monoD 0 0 (by omega) (by rw [Nat.pow_zero, Nat.mul_one, Nat.mul_one]; exact Nat.add_le_add (val_leD h1) (val_leD h2))
    · rw [b, add_inf_rightD hx']; exact hle
  · rw [a, add_inf_leftD hy']; exact hle
theorem fsub_valD {x y : Nat} (hx : x < DINF) (h : y ≤ x) : D.sub x y = some (fsubD x y) ∧ fsubD x y = D.nearest false (valD x - valD y) (-1074 + (0 : Int)) := by
  have hy : y < DINF := by omega
  have hv := val_leD h
  obtain ⟨m, j, h1, v1⟩ := read_valD hx
  obtain ⟨n, k, h2, v2⟩ := read_valD hy
  have hs : ∀ a b : Nat, b ≤ a → ((a : Int) + -(b : Int)).natAbs = a - b := fun a b _ => by omega
  have hneg : ∀ a b : Nat, b ≤ a → (if (a : Int) + -(b : Int) = 0 then false && !false else decide ((a : Int) + -(b : Int) < 0)) = false := fun a b hab => by
    split
    · rfl
    · simp; omega
  have key : D.sub x y = some (D.nearest false (valD x - valD y) (-1074 + (0 : Int))) := by
    unfold Format.sub
    rw [h1, h2]
    simp only [Datum.opposite, Datum.sum, signed, Bool.false_eq_true, if_false, Bool.not_false, if_true, Option.map_some, Nat.shiftLeft_eq]
    rw [v1, v2] at hv ⊢
    rcases Nat.le_total j k with h | h
    · obtain ⟨s, rfl⟩ : ∃ s, k = j + s := ⟨k - j, by omega⟩
      have e0 : min (-1074 + (j : Int)) (-1074 + ((j + s : Nat) : Int)) = -1074 + (j : Int) := by omega
      have hle : n * 2 ^ s ≤ m * 2 ^ 0 := by
        rw [Nat.pow_zero, Nat.mul_one]
        rw [Nat.pow_add, show n * (2 ^ j * 2 ^ s) = n * 2 ^ s * 2 ^ j by rw [Nat.mul_comm (2 ^ j), Nat.mul_assoc]] at hv
        exact Nat.le_of_mul_le_mul_right hv (Nat.two_pow_pos _)
      rw [e0, show (-1074 + (j : Int) - (-1074 + (j : Int))).toNat = 0 by omega, show (-1074 + ((j + s : Nat) : Int) - (-1074 + (j : Int))).toNat = s by omega, hs _ _ hle]
      have hn := hneg _ _ hle
      rw [show (!false) = true from rfl] at hn
      rw [hn]
      show some (D.nearest false _ _) = _
      congr 1
      apply nearest_congrD j 0 (by omega)
      rw [Nat.pow_zero, Nat.mul_one, Nat.mul_one, Nat.sub_mul, Nat.pow_add, Nat.mul_assoc, Nat.mul_comm (2 ^ s)]
    · obtain ⟨s, rfl⟩ : ∃ s, j = k + s := ⟨j - k, by omega⟩
      have e0 : min (-1074 + ((k + s : Nat) : Int)) (-1074 + (k : Int)) = -1074 + (k : Int) := by omega
      have hle : n * 2 ^ 0 ≤ m * 2 ^ s := by
        rw [Nat.pow_zero, Nat.mul_one]
        rw [Nat.pow_add, show m * (2 ^ k * 2 ^ s) = m * 2 ^ s * 2 ^ k by rw [Nat.mul_comm (2 ^ k), Nat.mul_assoc]] at hv
        exact Nat.le_of_mul_le_mul_right hv (Nat.two_pow_pos _)
      rw [e0, show (-1074 + (k : Int) - (-1074 + (k : Int))).toNat = 0 by omega, show (-1074 + ((k + s : Nat) : Int) - (-1074 + (k : Int))).toNat = s by omega, hs _ _ hle]
      have hn := hneg _ _ hle
      rw [show (!false) = true from rfl] at hn
      rw [hn]
      show some (D.nearest false _ _) = _
      congr 1
      apply nearest_congrD k 0 (by omega)
      rw [Nat.pow_zero, Nat.mul_one, Nat.mul_one, Nat.sub_mul, Nat.pow_add, Nat.mul_assoc, Nat.mul_comm (2 ^ s)]
  unfold fsubD
  rw [key]
  exact ⟨rfl, rfl⟩

theorem fsub_leD {x y : Nat} (hx : x < DINF) (h : y ≤ x) : fsubD x y ≤ x := by
  rw [(fsub_valD hx h).2]
  refine nearest_le_wordD hx 0 0 (by omega) ?_
  rw [Nat.pow_zero, Nat.mul_one, Nat.mul_one]
  omega
end Go.Fl
/- The third root: the numbers on its way. No program. -/
namespace Go.Fl
open Ieee

def bS (b : Nat) : Nat → Nat
  | 0 => b
  | j + 1 => fdivD (bS b j) 4620693217682128896
def xS (x : Nat) : Nat → Nat
  | 0 => x
  | j + 1 => fmulD (xS x j) 4611686018427387904
def cS (b : Nat) : Nat → Nat
  | 0 => b
  | j + 1 => fmulD (cS b j) 4620693217682128896
def yS (x : Nat) : Nat → Nat
  | 0 => x
  | j + 1 => fdivD (yS x j) 4611686018427387904
def cubeD (r : Nat) : Nat := fmulD (fmulD r r) r
def slopeD (r : Nat) : Nat := fmulD (fmulD 4613937818241073152 r) r
def partD (b r : Nat) : Nat := fdivD (fsubD (cubeD r) b) (slopeD r)
def rNext (b r : Nat) : Nat := fsubD r (partD b r)
def rS (b : Nat) : Nat → Nat
  | 0 => 4609434218613702656
  | j + 1 => rNext b (rS b j)
/-- Every operation of a step towards the root is valid. -/
def okR (b r : Nat) : Prop :=
  D.mul r r = some (fmulD r r) ∧ D.mul (fmulD r r) r = some (cubeD r) ∧ D.sub (cubeD r) b = some (fsubD (cubeD r) b) ∧ D.mul 4613937818241073152 r = some (fmulD 4613937818241073152 r) ∧
  D.mul (fmulD 4613937818241073152 r) r = some (slopeD r) ∧ D.div (fsubD (cubeD r) b) (slopeD r) = some (partD b r) ∧ D.sub r (partD b r) = some (rNext b r)
instance (b r : Nat) : Decidable (okR b r) := by unfold okR; infer_instance
def geB (b : Nat) : Bool := D.order b 4620693217682128896 == some .gt || D.order b 4620693217682128896 == some .eq
def ltB (b : Nat) : Bool := D.order b 4607182418800017408 == some .lt
/-- What the root of a is, and that all on its way is valid. -/
structure RootTr (a n m z root : Nat) : Prop where
  l1 : ∀ j, j < n → geB (bS (wid a) j) = true ∧ D.div (bS (wid a) j) 4620693217682128896 = some (bS (wid a) (j + 1)) ∧ D.mul (xS 4607182418800017408 j) 4611686018427387904 = some (xS 4607182418800017408 (j + 1)) ∧ bS (wid a) (j + 1) < bS (wid a) j
  e1 : geB (bS (wid a) n) = false
  l2 : ∀ j, j < m → ltB (cS (bS (wid a) n) j) = true ∧ D.mul (cS (bS (wid a) n) j) 4620693217682128896 = some (cS (bS (wid a) n) (j + 1)) ∧ D.div (yS (xS 4607182418800017408 n) j) 4611686018427387904 = some (yS (xS 4607182418800017408 n) (j + 1)) ∧ cS (bS (wid a) n) j < cS (bS (wid a) n) (j + 1) ∧ cS (bS (wid a) n) j < 4607182418800017408
  e2 : ltB (cS (bS (wid a) n) m) = false
  l3 : ∀ j, j < 6 → okR (cS (bS (wid a) n) m) (rS (cS (bS (wid a) n) m) j)
  hz : D.mul (rS (cS (bS (wid a) n) m) 6) (yS (xS 4607182418800017408 n) m) = some z
  out : floatToFloatBits .f64 z .f32 = some root
def allB (n : Nat) (p : Nat → Bool) : Bool := (List.range n).all p
theorem allB_iff {n : Nat} {p : Nat → Bool} : allB n p = true ↔ ∀ j, j < n → p j = true := by
  unfold allB
  rw [List.all_eq_true]
  exact ⟨fun h j hj => h j (List.mem_range.2 hj), fun h j hj => h j (List.mem_range.1 hj)⟩

def rz (k : Nat) : Nat := fmulD (rS (cS (bS (wid (mass k)) (k / 3)) 0) 6) (yS (xS 4607182418800017408 (k / 3)) 0)
/-- The radius of a class. -/
@[irreducible] def rad (k : Nat) : Nat := (floatToFloatBits .f64 (rz k) .f32).getD 0
def trB1 (k j : Nat) : Bool := geB (bS (wid (mass k)) j) && (D.div (bS (wid (mass k)) j) 4620693217682128896 == some (bS (wid (mass k)) (j + 1))) && (D.mul (xS 4607182418800017408 j) 4611686018427387904 == some (xS 4607182418800017408 (j + 1))) && decide (bS (wid (mass k)) (j + 1) < bS (wid (mass k)) j)
def trB (k : Nat) : Bool :=
  allB (k / 3) (trB1 k) && !geB (bS (wid (mass k)) (k / 3)) && !ltB (cS (bS (wid (mass k)) (k / 3)) 0) && allB 6 (fun j => decide (okR (cS (bS (wid (mass k)) (k / 3)) 0) (rS (cS (bS (wid (mass k)) (k / 3)) 0) j))) &&
  (D.mul (rS (cS (bS (wid (mass k)) (k / 3)) 0) 6) (yS (xS 4607182418800017408 (k / 3)) 0) == some (rz k)) && (floatToFloatBits .f64 (rz k) .f32 == some (rad k)) && amtB (rad k) && decide (1065353216 ≤ rad k) && decide (rad k ≤ 1120927744)
theorem tr_all : ((List.range 20).all trB) = true := by decide +kernel
theorem tr_one {k : Nat} (hk : k < 20) : RootTr (mass k) (k / 3) 0 (rz k) (rad k) ∧ amtB (rad k) = true ∧ 1065353216 ≤ rad k ∧ rad k ≤ 1120927744 := by
  have h := List.all_eq_true.1 tr_all k (List.mem_range.2 hk)
  simp only [trB, allB_iff, trB1, Bool.and_eq_true, decide_eq_true_eq, Bool.not_eq_true', beq_iff_eq] at h
  obtain ⟨⟨⟨⟨⟨⟨⟨⟨h1, h2⟩, h3⟩, h4⟩, h5⟩, h6⟩, h7⟩, h8⟩, h9⟩ := h
  exact ⟨⟨fun j hj => ⟨(h1 j hj).1.1.1, (h1 j hj).1.1.2, (h1 j hj).1.2, (h1 j hj).2⟩, h2, fun j hj => absurd hj (Nat.not_lt_zero j), h3, h4, h5, h6⟩, h7, h8, h9⟩
end Go.Fl
/- Powers of the radii. No program. -/
namespace Go.Fl
def pw (r : Nat) : Nat → Nat
  | 0 => 1065353216
  | n + 1 => fmul (pw r n) r
theorem pw_all : ((List.range 20).all fun k => (List.range 7).all fun n => amtB (pw (rad k) n)) = true := by decide +kernel
theorem pw_amt {k n : Nat} (hk : k < 20) (hn : n ≤ 6) : amtB (pw (rad k) n) = true :=
  List.all_eq_true.1 (List.all_eq_true.1 pw_all k (List.mem_range.2 hk)) n (List.mem_range.2 (by omega))
theorem rad_amt {k : Nat} (hk : k < 20) : amtB (rad k) = true := (tr_one hk).2.1
/-- What each class gives to a moment. -/
def mom (c : Nat → Nat) (n : Nat) : Nat → Nat := fun k => fmul (c k) (pw (rad k) n)
theorem mom_nn {c : Nat → Nat} {n : Nat} (hn : n ≤ 6) (hc : ∀ i, i < 20 → amtB (c i) = true) : ∀ i, i < 20 → nnB (mom c n i) = true := fun i hi => (mul_eq (hc i hi) (pw_amt hi hn)).2
theorem bef_one (f : Nat → Nat) : bef f 1 = f 0 := rfl
theorem bef_next (f : Nat → Nat) {k : Nat} (h : k ≠ 0) : fadd (bef f k) (f k) = bef f (k + 1) := by
  obtain ⟨j, rfl⟩ : ∃ j, k = j + 1 := ⟨k - 1, by omega⟩
  rfl
end Go.Fl
/- Air: two singles in a block. No program. -/
namespace Go.Fl
open Go.RowKit
def airV (h v : Nat) : Array Value := #[.float .f32 h, .float .f32 v]
def airAt (w : World) (g h v : Nat) (T : TypeId) : Prop := w.heap[g]? = some (.cells #[.float .f32 h, .float .f32 v] T (0, 0))
section
variable {w w' : World} {g h v : Nat} {T : TypeId}
theorem airAt.c0 (k : airAt w g h v T) : w.cell? ⟨g, 0, none⟩ = some (.float .f32 h) := by rw [cell_of_row w g 0 _ _ _ k]; rfl
theorem airAt.c1 (k : airAt w g h v T) : w.cell? ⟨g, 1, none⟩ = some (.float .f32 v) := by rw [cell_of_row w g 1 _ _ _ k]; rfl
theorem airAt.stay (k : airAt w g h v T) (hb : Below w.heap.size w w') : airAt w' g h v T := by
  have hl : g < w.heap.size := lt_of_block k
  unfold airAt
  rw [hb.block g hl]; exact k
theorem airAt.new (w : World) (h v : Nat) (T : TypeId) : airAt (w.alloc (.cells #[.float .f32 h, .float .f32 v] T)) w.heap.size h v T := heap_alloc_new _ _
end
def heatB (h : Nat) : Bool := (S.order h 3262119936 == some .gt || S.order h 3262119936 == some .eq) && (S.order h 1114636288 == some .lt || S.order h 1114636288 == some .eq)
def vapB (v : Nat) : Bool := S.order v 1148846080 == some .lt || S.order v 1148846080 == some .eq
def airB (h v : Nat) : Bool := heatB h && amtB v && vapB v
theorem airB_iff {h v : Nat} : airB h v = true ↔ heatB h = true ∧ amtB v = true ∧ vapB v = true := by simp [airB, and_assoc]
end Go.Fl
/- Whole numbers below a single, and what is left. No program. -/
namespace Go.Fl
open Ieee

/-- A word between -c and c has a magnitude of at most c. -/
theorem mg_le_of {x c : Nat} (hx : x < 4294967296) (hc : c < INF) (hc0 : 0 < c)
    (h1 : (S.order x (c + 2147483648) == some .gt || S.order x (c + 2147483648) == some .eq) = true) (h2 : (S.order x c == some .lt || S.order x c == some .eq) = true) : mg x ≤ c := by
  apply Nat.le_of_not_lt
  intro hlt
  have hcI := hc
  rw [INF_val] at hcI
  rcases Nat.lt_trichotomy (mg x) INF with h | h | h
  · by_cases hs : 2147483648 ≤ x
    · obtain ⟨m, e, ha, hb⟩ := read_fin hx h
      rw [decide_eq_true hs] at hb
      have hc2 : c + 2147483648 < 4294967296 := by omega
      have hmc : mg (c + 2147483648) = c := by unfold mg; omega
      obtain ⟨n, k, hd, he⟩ := read_fin hc2 (by rw [hmc]; exact hc)
      rw [hmc] at hd
      rw [decide_eq_true (by omega : 2147483648 ≤ c + 2147483648)] at he
      have ho := order_lt hc h
      have hcmp : compare c (mg x) = .lt := Nat.compare_eq_lt.2 hlt
      rw [hcmp] at ho
      unfold Format.order at ho h1
      rw [ha, hd] at ho
      rw [hb, he] at h1
      simp only [Datum.order, signed, Bool.false_eq_true, if_false, if_true, Option.some.injEq] at ho h1
      rw [Int.compare_eq_lt] at ho
      have e1 : min k e = min e k := Int.min_comm k e
      rw [e1] at ho
      have : compare (-((m <<< (e - min e k).toNat : Nat) : Int)) (-((n <<< (k - min e k).toNat : Nat) : Int)) = .lt := by
        rw [Int.compare_eq_lt]; omega
      rw [this] at h1
      cases h1
    · have hm : mg x = x := by unfold mg; omega
      rw [hm] at hlt h
      rw [order_lt h hc, Nat.compare_eq_gt.2 hlt] at h2
      cases h2
  · have hr : S.read x = .infinity (decide (2147483648 ≤ x)) := by rw [read_sign hx, h, read_INF]
    obtain ⟨n, k, hd, _⟩ := read_val hc
    have hmc : mg (c + 2147483648) = c := by unfold mg; omega
    obtain ⟨n', k', _, he⟩ := read_fin (x := c + 2147483648) (by omega) (by rw [hmc]; exact hc)
    unfold Format.order at h1 h2
    rw [hr, hd] at h2
    rw [hr, he] at h1
    by_cases hs : 2147483648 ≤ x
    · rw [decide_eq_true hs] at h1; simp [Datum.order] at h1
    · rw [decide_eq_false hs] at h2; simp [Datum.order] at h2
  · rw [order_nan32 h] at h2; cases h2

/-- Down to a whole number. -/
theorem cut_down (s : Bool) (n d : Nat) : Toward.down.cut s n d = n / 2 ^ d + if (s && n % 2 ^ d != 0) = true then 1 else 0 := by
  unfold Toward.cut
  simp only
  have hb : ∀ b : Bool, b.toNat = if b = true then 1 else 0 := fun b => by cases b <;> rfl
  rw [hb]
  rcases Nat.le_total d (n.log2 + 2) with h | h
  · rw [Nat.min_eq_left h, Nat.shiftLeft_eq, Nat.one_mul]
  · rw [Nat.min_eq_right h, Nat.shiftLeft_eq, Nat.one_mul]
    have l1 : n < 2 ^ (n.log2 + 1) := Nat.lt_log2_self
    have l2 : 2 ^ (n.log2 + 1) ≤ 2 ^ (n.log2 + 2) := Nat.pow_le_pow_right (by decide) (by omega)
    have l3 : 2 ^ (n.log2 + 2) ≤ 2 ^ d := Nat.pow_le_pow_right (by decide) h
    rw [Nat.div_eq_of_lt (by omega), Nat.div_eq_of_lt (by omega), Nat.mod_eq_of_lt (by omega), Nat.mod_eq_of_lt (by omega)]

/-- The whole number below (or, of a negative one's magnitude, above). -/
def flN (s : Bool) (a : Nat) : Nat := match D.read a with
  | .number _ m e => Toward.down.cut s (m <<< e.toNat) (-e).toNat
  | _ => 0
def U1074 : Nat := 2 ^ VONED
theorem VONED_val : VONED = 1074 := rfl
theorem flN_facts {a : Nat} (h : a < DINF) (s : Bool) : (s = false → flN s a * U1074 ≤ valD a ∧ valD a < (flN s a + 1) * U1074) ∧ (s = true → valD a ≤ flN s a * U1074 ∧ (flN s a = 0 ∨ (flN s a - 1) * U1074 < valD a)) := by
  obtain ⟨m, k, h1, hv⟩ := read_valD h
  unfold flN
  rw [h1]
  simp only
  rw [cut_down, Nat.shiftLeft_eq, hv]
  unfold U1074
  have hV := VONED_val
  rcases Nat.le_total VONED k with hk | hk
  · obtain ⟨t, rfl⟩ : ∃ t, k = VONED + t := ⟨k - VONED, by omega⟩
    rw [show (-1074 + ((VONED + t : Nat) : Int)).toNat = t by omega, show (-(-1074 + ((VONED + t : Nat) : Int))).toNat = 0 by omega, Nat.pow_zero, Nat.div_one, Nat.mod_one]
    simp only [bne_self_eq_false, Bool.and_false, Bool.false_eq_true, if_false, Nat.add_zero]
    have e : m * 2 ^ (VONED + t) = m * 2 ^ t * 2 ^ VONED := by rw [Nat.pow_add, Nat.mul_comm (2 ^ VONED), Nat.mul_assoc]
    rw [e]
    have hp : 0 < 2 ^ VONED := Nat.two_pow_pos _
    generalize 2 ^ VONED = u at *
    generalize m * 2 ^ t = q
    refine ⟨fun _ => ⟨Nat.le_refl _, by rw [Nat.add_mul, Nat.one_mul]; omega⟩, fun _ => ⟨Nat.le_refl _, ?_⟩⟩
    rcases Nat.eq_zero_or_pos q with h0 | h0
    · exact .inl h0
    · refine .inr ?_
      exact Nat.mul_lt_mul_of_pos_right (by omega) hp
  · obtain ⟨d, hd⟩ : ∃ d, VONED = k + d := ⟨VONED - k, by omega⟩
    rw [show (-1074 + (k : Int)).toNat = 0 by omega, show (-(-1074 + (k : Int))).toNat = d by omega, Nat.pow_zero, Nat.mul_one, hd, Nat.pow_add]
    have hp : 0 < 2 ^ d := Nat.two_pow_pos _
    have hpk : 0 < 2 ^ k := Nat.two_pow_pos _
    have hdm := Nat.div_add_mod m (2 ^ d)
    have hml := Nat.mod_lt m hp
    generalize m / 2 ^ d = q at *
    generalize m % 2 ^ d = r at *
    generalize 2 ^ d = D' at *
    generalize 2 ^ k = K at *
    subst hdm
    refine ⟨fun hs => ?_, fun hs => ?_⟩
    · subst hs
      simp only [Bool.false_and, Bool.false_eq_true, if_false, Nat.add_zero]
      refine ⟨?_, ?_⟩
      · calc q * (K * D') = D' * q * K := by rw [Nat.mul_comm K, ← Nat.mul_assoc, Nat.mul_comm q]
          _ ≤ _ := Nat.mul_le_mul_right _ (by omega)
      · calc (D' * q + r) * K < (D' * (q + 1)) * K := Nat.mul_lt_mul_of_pos_right (by rw [Nat.mul_add, Nat.mul_one]; omega) hpk
          _ = _ := by rw [Nat.mul_comm K, ← Nat.mul_assoc, Nat.mul_comm D']
    · subst hs
      simp only [Bool.true_and]
      by_cases hr : r = 0
      · subst hr
        simp only [bne_self_eq_false, Bool.false_eq_true, if_false, Nat.add_zero]
        refine ⟨Nat.le_of_eq (by rw [Nat.mul_comm K, ← Nat.mul_assoc, Nat.mul_comm q]), ?_⟩
        rcases Nat.eq_zero_or_pos q with h0 | h0
        · exact .inl h0
        · refine .inr ?_
          calc (q - 1) * (K * D') < q * (K * D') := Nat.mul_lt_mul_of_pos_right (by omega) (Nat.mul_pos hpk hp)
            _ = D' * q * K := by rw [Nat.mul_comm K, ← Nat.mul_assoc, Nat.mul_comm q]
      · have hb : (r != 0) = true := by simp [hr]
        rw [hb]
        simp only [if_true]
        refine ⟨?_, .inr ?_⟩
        · calc (D' * q + r) * K ≤ (D' * (q + 1)) * K := Nat.mul_le_mul_right _ (by rw [Nat.mul_add, Nat.mul_one]; omega)
            _ = _ := by rw [Nat.mul_comm K, ← Nat.mul_assoc, Nat.mul_comm D']
        · rw [Nat.add_sub_cancel]
          calc q * (K * D') = D' * q * K := by rw [Nat.mul_comm K, ← Nat.mul_assoc, Nat.mul_comm q]
            _ < _ := Nat.mul_lt_mul_of_pos_right (by omega) hpk
end Go.Fl
/- 2 to a power: the numbers on its way. No program. -/
namespace Go.Fl
open Ieee

def kW (s : Bool) (N : Nat) : Nat := D.write (.number s N 0)
theorem U_val : U1074 = 2 ^ VONED := by unfold U1074; exact Eq.refl _
theorem kW_all : ((List.range 101).all fun N => decide (valD (kW false N) = N * U1074) && decide (kW false N < DINF) && (floatToIntVal .f64 (kW false N) .i64 == some (N : Int)) && (floatToIntVal .f64 (kW true N) .i64 == some (-(N : Int)))
    && (D.order (kW true N) 0 == (if N = 0 then some .eq else some .lt)) && (D.order (kW false N) 0 == (if N = 0 then some .eq else some .gt))
    && (N == 0 || (D.sub (kW false N) 4607182418800017408 == some (kW false (N - 1)) && D.add (kW true N) 4607182418800017408 == some (if N = 1 then 0 else kW true (N - 1))))) = true := by decide +kernel
structure KFacts (N : Nat) : Prop where
  val : valD (kW false N) = N * U1074
  fin : kW false N < DINF
  pos : floatToIntVal .f64 (kW false N) .i64 = some (N : Int)
  neg : floatToIntVal .f64 (kW true N) .i64 = some (-(N : Int))
  ordN : D.order (kW true N) 0 = (if N = 0 then some .eq else some .lt)
  ordP : D.order (kW false N) 0 = (if N = 0 then some .eq else some .gt)
  sub : N ≠ 0 → D.sub (kW false N) 4607182418800017408 = some (kW false (N - 1))
  add : N ≠ 0 → D.add (kW true N) 4607182418800017408 = some (if N = 1 then 0 else kW true (N - 1))
theorem kFacts {N : Nat} (h : N ≤ 100) : KFacts N := by
  have := List.all_eq_true.1 kW_all N (List.mem_range.2 (by omega))
  simp only [Bool.and_eq_true, Bool.or_eq_true, decide_eq_true_eq, beq_iff_eq] at this
  obtain ⟨⟨⟨⟨⟨⟨h1, h2⟩, h3⟩, h4⟩, h5⟩, h6⟩, h7⟩ := this
  exact ⟨h1, h2, h3, h4, h5, h6, fun h0 => (h7.resolve_left h0).1, fun h0 => (h7.resolve_left h0).2⟩
theorem kW_true (N : Nat) : kW true N = 9223372036854775808 + kW false N := write_sign true N 0

/-- Both negative: the difference is that of the magnitudes, the other way round. -/
theorem neg_sub {a b : Nat} (ha : a < DINF) (hb : b < DINF) : D.sub (9223372036854775808 + a) (9223372036854775808 + b) = D.sub b a := by
  rw [DINF_val] at ha hb
  obtain ⟨m, e, h1⟩ := read_ltD (x := a) (by rw [DINF_val]; exact ha)
  obtain ⟨n, k, h2⟩ := read_ltD (x := b) (by rw [DINF_val]; exact hb)
  have r1 : D.read (9223372036854775808 + a) = .number true m e := by
    rw [read_signD (by omega), show (9223372036854775808 + a) % 9223372036854775808 = a by omega, h1, decide_eq_true (by omega)]
  have r2 : D.read (9223372036854775808 + b) = .number true n k := by
    rw [read_signD (by omega), show (9223372036854775808 + b) % 9223372036854775808 = b by omega, h2, decide_eq_true (by omega)]
  unfold Format.sub
  rw [r1, r2, h1, h2]
  simp only [Datum.opposite, Datum.sum, Bool.not_true, Bool.not_false]
  rw [Int.min_comm e k, Int.add_comm (signed true m _)]
  simp

/-- What is left above (or below) the whole number. -/
theorem left_le {hi lo : Nat} (hh : hi < DINF) (hl : lo ≤ hi) (hv : valD hi ≤ valD lo + U1074) : D.sub hi lo = some (fsubD hi lo) ∧ fsubD hi lo ≤ 4607182418800017408 := by
  obtain ⟨h1, h2⟩ := fsub_valD hh hl
  refine ⟨h1, ?_⟩
  rw [h2]
  refine nearest_le_wordD (by rw [DINF_val]; decide) 0 0 (by omega) ?_
  rw [Nat.pow_zero, Nat.mul_one, Nat.mul_one, val_ONED, ← U_val]
  omega

theorem word_le_of_val {a b : Nat} (h : valD a ≤ valD b) : a ≤ b := by
  apply Nat.le_of_not_lt
  intro hlt
  have := val_ltD hlt
  omega

theorem fmul_monoD {x y x' y' : Nat} (h1 : x ≤ x') (h2 : y ≤ y') (hx : x' < DINF) (hy : y' < DINF) : fmulD x y ≤ fmulD x' y' := by
  rw [fmul_valD (by omega) (by omega), fmul_valD hx hy]
  refine nearest_monoD 0 0 (by omega) ?_
  rw [Nat.pow_zero, Nat.mul_one, Nat.mul_one]
  exact Nat.mul_le_mul (val_leD h1) (val_leD h2)

/-- A quotient of a number of at most 1 by one of at least 1. -/
theorem quo_le {x y : Nat} (hx : x ≤ 4607182418800017408) (hy : 4607182418800017408 ≤ y) (hy' : y < DINF) : D.div x y = some (fdivD x y) ∧ fdivD x y ≤ 4611686018427387904 := by
  have hx' : x < DINF := by rw [DINF_val]; omega
  obtain ⟨m, k1, h1, v1, w1, b1, c1⟩ := read_repD hx'
  obtain ⟨n, k2, h2, v2⟩ := read_valD hy'
  have u1 : m * 2 ^ k1 ≤ 2 ^ VONED := by
    have := val_leD hx
    rw [val_ONED, v1] at this
    exact this
  have u2 : 2 ^ VONED ≤ n * 2 ^ k2 := by
    have := val_leD hy
    rw [val_ONED, v2] at this
    exact this
  have hn : n ≠ 0 := by
    intro h0
    rw [h0, Nat.zero_mul] at u2
    have : 0 < 2 ^ VONED := Nat.two_pow_pos _
    omega
  have e : D.div x y = some (D.write (.number false (2 * ((m <<< (D.fractionBits + 2 + n.log2 - m.log2)) / n) + ((m <<< (D.fractionBits + 2 + n.log2 - m.log2)) % n != 0).toNat) (-1074 + (k1 : Int) - (-1074 + (k2 : Int)) - (D.fractionBits + 2 + n.log2 - m.log2 : Nat) - 1))) := by
    unfold Format.div
    rw [h1, h2]
    simp only [Datum.quotient]
    rw [if_neg hn]
    rfl
  have ed : fdivD x y = D.write (.number false (2 * ((m <<< (D.fractionBits + 2 + n.log2 - m.log2)) / n) + ((m <<< (D.fractionBits + 2 + n.log2 - m.log2)) % n != 0).toNat) (-1074 + (k1 : Int) - (-1074 + (k2 : Int)) - (D.fractionBits + 2 + n.log2 - m.log2 : Nat) - 1)) := by
    unfold fdivD; rw [e]; rfl
  refine ⟨by rw [ed]; exact e, ?_⟩
  rw [ed]
  show D.nearest false _ _ ≤ _
  rw [fb_D, Nat.shiftLeft_eq]
  generalize hmore : 52 + 2 + n.log2 - m.log2 = more
  rw [show -1074 + (k1 : Int) - (-1074 + (k2 : Int)) - (more : Nat) - 1 = -1074 + ((k1 : Int) - k2 - more - 1 + 1074) by omega]
  have hTWO : valD 4611686018427387904 = 2 ^ VONED * 2 := by decide +kernel
  refine nearest_le_wordD (by rw [DINF_val]; decide) (k1 + VONED) (k2 + more + 1) (by have := VONED_val; omega) ?_
  rw [hTWO]
  have hp : 0 < 2 ^ VONED := Nat.two_pow_pos _
  rw [Nat.pow_add 2 k1 VONED]
  generalize 2 ^ VONED = U at *
  by_cases hm : m = 0
  · subst hm
    simp
  · have q1 : m * 2 ^ more / n * 2 ^ k1 ≤ 2 ^ (k2 + more) := by
      apply Nat.le_of_mul_le_mul_right (c := n) _ (Nat.pos_of_ne_zero hn)
      calc m * 2 ^ more / n * 2 ^ k1 * n = m * 2 ^ more / n * n * 2 ^ k1 := by rw [Nat.mul_assoc, Nat.mul_comm (2 ^ k1), Nat.mul_assoc]
        _ ≤ m * 2 ^ more * 2 ^ k1 := Nat.mul_le_mul_right _ (Nat.div_mul_le_self _ _)
        _ = m * 2 ^ k1 * 2 ^ more := by rw [Nat.mul_assoc, Nat.mul_comm (2 ^ more), Nat.mul_assoc]
        _ ≤ U * 2 ^ more := Nat.mul_le_mul_right _ u1
        _ ≤ n * 2 ^ k2 * 2 ^ more := Nat.mul_le_mul_right _ u2
        _ = 2 ^ (k2 + more) * n := by rw [Nat.pow_add, Nat.mul_comm n, Nat.mul_assoc, Nat.mul_comm n, Nat.mul_assoc]
    have q2 : 2 ^ k1 ≤ 2 ^ (k2 + more) := by
      have l1 : m.log2 ≤ 52 := by
        have : m.log2 < 53 := (Nat.log2_lt hm).2 (by omega)
        omega
      have l2 : n < 2 ^ (n.log2 + 1) := Nat.lt_log2_self
      have l3 : 2 ^ k1 < 2 ^ (n.log2 + 1 + k2) := by
        calc 2 ^ k1 ≤ m * 2 ^ k1 := Nat.le_mul_of_pos_left _ (Nat.pos_of_ne_zero hm)
          _ ≤ U := u1
          _ ≤ n * 2 ^ k2 := u2
          _ < 2 ^ (n.log2 + 1) * 2 ^ k2 := Nat.mul_lt_mul_of_pos_right l2 (Nat.two_pow_pos _)
          _ = _ := (Nat.pow_add 2 _ _).symm
      have := pow_mul_lt l3
      exact Nat.pow_le_pow_right (by decide) (by omega)
    have q3 : (2 * (m * 2 ^ more / n) + (m * 2 ^ more % n != 0).toNat) * 2 ^ k1 ≤ 2 * 2 ^ (k2 + more + 1) := by
      have hb : (m * 2 ^ more % n != 0).toNat ≤ 1 := by
        generalize (m * 2 ^ more % n != 0) = b
        cases b <;> decide
      generalize (m * 2 ^ more % n != 0).toNat = b at *
      generalize m * 2 ^ more / n = q at *
      rw [Nat.pow_add 2 (k2 + more) 1]
      generalize 2 ^ (k2 + more) = V at *
      generalize 2 ^ k1 = K at *
      rw [Nat.add_mul]
      have s1 : 2 * q * K = 2 * (q * K) := Nat.mul_assoc _ _ _
      have s2 : b * K ≤ 1 * K := Nat.mul_le_mul_right _ hb
      rw [s1]
      omega
    calc _ = (2 * (m * 2 ^ more / n) + (m * 2 ^ more % n != 0).toNat) * 2 ^ k1 * U := by rw [Nat.mul_assoc]
      _ ≤ 2 * 2 ^ (k2 + more + 1) * U := Nat.mul_le_mul_right _ q3
      _ = _ := by rw [Nat.mul_comm, Nat.mul_assoc]

/-- The series, after so many terms. -/
def ser (y : Nat) : Nat → Nat
  | 0 => 4607182418800017408
  | j + 1 => faddD 4607182418800017408 (fmulD (fdivD y (floatOfInt .f64 ((14 - j : Nat) : Int))) (ser y j))
def bnd : Nat → Nat
  | 0 => 4607182418800017408
  | j + 1 => faddD 4607182418800017408 (fmulD 4611686018427387904 (bnd j))
theorem bnd_all : ((List.range 15).all fun j => decide (bnd j < 4688246992172703744) && decide (fmulD 4611686018427387904 (bnd j) < DINF) && decide (4607182418800017408 ≤ bnd j)) = true := by decide +kernel
theorem int_all : ((List.range 15).all fun m => m == 0 || (decide (4607182418800017408 ≤ floatOfInt .f64 (m : Int)) && decide (floatOfInt .f64 (m : Int) < DINF))) = true := by decide +kernel
theorem int_one {m : Nat} (h0 : 1 ≤ m) (h1 : m ≤ 14) : 4607182418800017408 ≤ floatOfInt .f64 (m : Int) ∧ floatOfInt .f64 (m : Int) < DINF := by
  have := List.all_eq_true.1 int_all m (List.mem_range.2 (by omega))
  simp only [Bool.and_eq_true, Bool.or_eq_true, decide_eq_true_eq, beq_iff_eq] at this
  exact this.resolve_left (by omega)
theorem bnd_one {j : Nat} (h : j ≤ 14) : bnd j < 4688246992172703744 ∧ fmulD 4611686018427387904 (bnd j) < DINF ∧ 4607182418800017408 ≤ bnd j := by
  have := List.all_eq_true.1 bnd_all j (List.mem_range.2 (by omega))
  simp only [Bool.and_eq_true, decide_eq_true_eq] at this
  exact ⟨this.1.1, this.1.2, this.2⟩
structure Term (y j : Nat) : Prop where
  q : D.div y (floatOfInt .f64 ((14 - j : Nat) : Int)) = some (fdivD y (floatOfInt .f64 ((14 - j : Nat) : Int)))
  p : D.mul (fdivD y (floatOfInt .f64 ((14 - j : Nat) : Int))) (ser y j) = some (fmulD (fdivD y (floatOfInt .f64 ((14 - j : Nat) : Int))) (ser y j))
  s : D.add 4607182418800017408 (fmulD (fdivD y (floatOfInt .f64 ((14 - j : Nat) : Int))) (ser y j)) = some (ser y (j + 1))
theorem add_ONE : faddD 4607182418800017408 0 = 4607182418800017408 := by decide +kernel
theorem ser_facts {y : Nat} (hy : y ≤ 4607182418800017408) : ∀ j, j ≤ 14 → 4607182418800017408 ≤ ser y j ∧ ser y j ≤ bnd j ∧ (j < 14 → Term y j)
  | 0, _ => by
    refine ⟨Nat.le_refl _, Nat.le_refl _, fun _ => ?_⟩
    obtain ⟨i1, i2⟩ := int_one (m := 14 - 0) (by decide) (by decide)
    obtain ⟨q1, q2⟩ := quo_le hy i1 i2
    obtain ⟨p1, p2⟩ := mul_eqD (x := fdivD y (floatOfInt .f64 ((14 - 0 : Nat) : Int))) (y := ser y 0) (amtB_iffD.2 (by rw [DINF_val]; omega)) (amtB_iffD.2 (by rw [DINF_val]; show (4607182418800017408 : Nat) < _; decide))
    exact ⟨q1, p1, (add_eqD (by decide) p2).1⟩
  | j + 1, hj => by
    obtain ⟨l, u, T⟩ := ser_facts hy j (by omega)
    have T := T (by omega)
    obtain ⟨i1, i2⟩ := int_one (m := 14 - j) (by omega) (by omega)
    obtain ⟨q1, q2⟩ := quo_le hy i1 i2
    obtain ⟨b1, b2, b3⟩ := bnd_one (j := j) (by omega)
    obtain ⟨c1, c2, c3⟩ := bnd_one (j := j + 1) hj
    have hb : bnd j < DINF := by rw [DINF_val]; omega
    have hs : ser y j < DINF := by omega
    obtain ⟨p1, p2⟩ := mul_eqD (x := fdivD y (floatOfInt .f64 ((14 - j : Nat) : Int))) (y := ser y j) (amtB_iffD.2 (by rw [DINF_val]; omega)) (amtB_iffD.2 hs)
    have pm := fmul_monoD q2 u (by rw [DINF_val]; decide) hb
    have l' : 4607182418800017408 ≤ ser y (j + 1) := by
      have := fadd_monoD (x := 4607182418800017408) (y := 0) (x' := 4607182418800017408) (y' := fmulD (fdivD y (floatOfInt .f64 ((14 - j : Nat) : Int))) (ser y j)) (Nat.le_refl _) (Nat.zero_le _) (by rw [DINF_val]; decide) (nnB_iffD.1 p2)
      rw [add_ONE] at this
      exact this
    have u' : ser y (j + 1) ≤ bnd (j + 1) := fadd_monoD (Nat.le_refl _) pm (by rw [DINF_val]; decide) (Nat.le_of_lt b2)
    refine ⟨l', u', fun hlt => ?_⟩
    obtain ⟨i1, i2⟩ := int_one (m := 14 - (j + 1)) (by omega) (by omega)
    obtain ⟨q1, q2⟩ := quo_le hy i1 i2
    have hs' : ser y (j + 1) < DINF := by rw [DINF_val]; omega
    obtain ⟨p1, p2⟩ := mul_eqD (x := fdivD y (floatOfInt .f64 ((14 - (j + 1) : Nat) : Int))) (y := ser y (j + 1)) (amtB_iffD.2 (by rw [DINF_val]; omega)) (amtB_iffD.2 hs')
    exact ⟨q1, p1, (add_eqD (by decide) p2).1⟩
end Go.Fl
/- Doubled and halved; narrowed. No program. -/
namespace Go.Fl
open Ieee

theorem val_up {s : Nat} (h : 4503599627370496 ≤ s) : valD (s + 4503599627370496) = valD s * 2 := by
  unfold valD
  rw [if_neg (by omega), if_neg (by omega), Nat.add_mod_right, show (s + 4503599627370496) / 4503599627370496 - 1 = s / 4503599627370496 - 1 + 1 by omega, Nat.pow_succ, Nat.mul_assoc]
theorem two_val : valD 4611686018427387904 = 2 ^ VONED * 2 := by decide +kernel
theorem dbl {s : Nat} (h : 4503599627370496 ≤ s) (h2 : s + 4503599627370496 < DINF) : D.mul s 4611686018427387904 = some (s + 4503599627370496) := by
  obtain ⟨m1, m2⟩ := mul_eqD (x := s) (y := 4611686018427387904) (amtB_iffD.2 (by omega)) (by decide)
  rw [m1, fmul_valD (by omega) (by rw [DINF_val]; decide)]
  refine congrArg some (Eq.trans (nearest_congrD (m' := valD (s + 4503599627370496)) (E := -1074) (E' := 0) 0 VONED (by have := VONED_val; omega) ?_) (nearest_valD h2))
  rw [val_up h, two_val, Nat.pow_zero, Nat.mul_one, Nat.mul_comm (2 ^ VONED) 2, ← Nat.mul_assoc]

theorem read_two : D.read 4611686018427387904 = .number false 4503599627370496 (-51) := by decide +kernel
theorem hlv {s : Nat} (h : 9007199254740992 ≤ s) (h2 : s < DINF) : D.div s 4611686018427387904 = some (s - 4503599627370496) := by
  obtain ⟨M, t, h1, hv, hy, hM, ht⟩ := read_repD h2
  have hM2 : 4503599627370496 ≤ M := by omega
  have ht1 : 1 ≤ t := by omega
  have hl : M.log2 = 52 := by
    have a : M.log2 < 53 := (Nat.log2_lt (by omega)).2 (by omega)
    have b : 52 ≤ M.log2 := (Nat.le_log2 (by omega)).2 (by omega)
    omega
  unfold Format.div
  rw [h1, read_two]
  simp only [Datum.quotient]
  rw [if_neg (by decide), hl, fb_D, show Nat.log2 4503599627370496 = 52 by decide +kernel, show 52 + 2 + 52 - 52 = 54 by decide, Nat.shiftLeft_eq]
  have e1 : M * 2 ^ 54 = 4503599627370496 * (M * 4) := by rw [show (2 : Nat) ^ 54 = 4503599627370496 * 4 by decide]; omega
  rw [e1, Nat.mul_div_cancel_left _ (by decide), Nat.mul_mod_right]
  simp only [bne_self_eq_false, Bool.toNat_false, Nat.add_zero, Option.map_some]
  have h3 : s - 4503599627370496 < DINF := by omega
  have hvs : valD (s - 4503599627370496) = M * 2 ^ (t - 1) := by
    unfold valD
    rw [if_neg (by omega), show (s - 4503599627370496) % 4503599627370496 = M - 4503599627370496 by omega, show (s - 4503599627370496) / 4503599627370496 = t by omega, show 4503599627370496 + (M - 4503599627370496) = M by omega]
  rw [show -1074 + (t : Int) - -51 - ((54 : Nat) : Int) - 1 = -1074 + ((t : Int) - 4) by omega]
  refine congrArg some (Eq.trans (nearest_congrD (m := 2 * (M * 4)) (m' := valD (s - 4503599627370496)) (E := (t : Int) - 4) (E' := 0) (t - 1) 3 (by omega) ?_) (nearest_valD h3))
  rw [hvs, show 2 * (M * 4) = M * 8 by omega, Nat.mul_assoc, Nat.mul_assoc, Nat.mul_comm 8]

/-- The single nearest to a double. -/
def narr (b : Nat) : Nat := S.write (D.read b)
theorem narr_le {b y y64 : Nat} (hy : y < INF) (h64 : y64 < DINF) (hv : valD y64 = val y * 2 ^ 925) (hb : b ≤ y64) : narr b ≤ y := by
  obtain ⟨m, k, h1, v1⟩ := read_valD (Nat.lt_of_le_of_lt hb h64)
  unfold narr
  rw [h1]
  show S.nearest false m _ ≤ y
  rw [show -1074 + (k : Int) = -149 + ((k : Int) - 925) by omega]
  refine nearest_le_word hy k 925 (by omega) ?_
  rw [← v1, ← hv]
  exact val_leD hb
theorem le_narr {b y y64 : Nat} (hy : y < INF) (hb' : b < DINF) (hv : valD y64 = val y * 2 ^ 925) (hb : y64 ≤ b) : y ≤ narr b := by
  obtain ⟨m, k, h1, v1⟩ := read_valD hb'
  unfold narr
  rw [h1]
  show y ≤ S.nearest false m _
  rw [show -1074 + (k : Int) = -149 + ((k : Int) - 925) by omega]
  refine word_le_nearest hy k 925 (by omega) ?_
  rw [← v1, ← hv]
  exact val_leD hb
/-- The words of powers of 2, narrow and wide. -/
def p32 (j : Nat) : Nat := j * 8388608
def p64 (j : Nat) : Nat := (j + 896) * 4503599627370496
theorem p_all : ((List.range 255).all fun j => j == 0 || (decide (valD (p64 j) = val (p32 j) * 2 ^ 925) && decide (p64 j < DINF) && decide (p32 j < INF))) = true := by decide +kernel
theorem p_one {j : Nat} (h0 : j ≠ 0) (h : j < 255) : valD (p64 j) = val (p32 j) * 2 ^ 925 ∧ p64 j < DINF ∧ p32 j < INF := by
  have := List.all_eq_true.1 p_all j (List.mem_range.2 h)
  simp only [Bool.and_eq_true, Bool.or_eq_true, decide_eq_true_eq, beq_iff_eq] at this
  have := this.resolve_left h0
  exact ⟨this.1.1, this.1.2, this.2⟩
theorem narr_up {b j : Nat} (h0 : j ≠ 0) (h : j < 255) (hb : b ≤ p64 j) : narr b ≤ p32 j := narr_le (p_one h0 h).2.2 (p_one h0 h).2.1 (p_one h0 h).1 hb
theorem narr_low {b j : Nat} (h0 : j ≠ 0) (h : j < 255) (hb : p64 j ≤ b) (hb' : b < DINF) : p32 j ≤ narr b := le_narr (p_one h0 h).2.2 hb' (p_one h0 h).1 hb
theorem narr_conv {b : Nat} (hb : b ≤ p64 254) : floatToFloatBits .f64 b .f32 = some (narr b) := by
  have h1 := narr_up (by decide) (by decide) hb
  have h2 := (p_one (j := 254) (by decide) (by decide)).2.2
  obtain ⟨m, e, hr⟩ := read_ltD (x := b) (Nat.lt_of_le_of_lt hb (p_one (by decide) (by decide)).2.1)
  obtain ⟨n, k, hs⟩ := read_lt (x := narr b) (by omega)
  unfold floatToFloatBits
  rw [if_neg (by decide)]
  have e1 : FloatKind.f64.decode b = .number false m e := hr
  have e2 : FloatKind.f32.encode (.number false m e) = narr b := by unfold narr; rw [hr]; rfl
  rw [e1]
  simp only [e2]
  have e3 : FloatKind.f32.decode (narr b) = .number false n k := hs
  rw [e3]
  simp [Datum.isInfinity]
end Go.Fl
/- 2 to the power of a single: all that is on the way. No program. -/
namespace Go.Fl
open Ieee

def sgB (x : Nat) : Bool := decide (2147483648 ≤ x)
def nF (x : Nat) : Nat := flN (sgB x) (wid (mg x))
def kF (x : Nat) : Nat := kW (sgB x) (nF x)
def zF (x : Nat) : Nat := fsubD (wid x) (kF x)
def yF (x : Nat) : Nat := fmulD (zF x) 4604418534313441775
def sF (x : Nat) : Nat := ser (yF x) 14
def rF (x : Nat) : Nat := if sgB x = true then sF x - nF x * 4503599627370496 else sF x + nF x * 4503599627370496
/-- 2 to the power x, nearly. -/
def two (x : Nat) : Nat := narr (rF x)

theorem flN_le {a j : Nat} (h : a < DINF) (s : Bool) (hv : valD a ≤ j * U1074) : flN s a ≤ j := by
  obtain ⟨h1, h2⟩ := flN_facts h s
  have hp : 0 < U1074 := by rw [U_val]; exact Nat.two_pow_pos _
  cases s
  · have := (h1 rfl).1
    exact Nat.le_of_mul_le_mul_right (Nat.le_trans this hv) hp
  · rcases (h2 rfl).2 with h0 | h0
    · omega
    · have := Nat.lt_of_mul_lt_mul_right (Nat.lt_of_lt_of_le h0 hv)
      omega

/-- Words of whole numbers: c of at most j. -/
structure TwoF (x j : Nat) : Prop where
  n : nF x ≤ j
  fl : D.write ((D.read (wid x)).integral .down) = kF x
  num : ∃ s m e, D.read (wid x) = .number s m e
  lt : wid x < 18446744073709551616
  sub : D.sub (wid x) (kF x) = some (zF x)
  mul : D.mul (zF x) 4604418534313441775 = some (yF x)
  y : yF x ≤ 4607182418800017408
  s1 : 4607182418800017408 ≤ sF x
  s2 : sF x < 4688246992172703744
theorem two_facts {x c j : Nat} (hx : x < 4294967296) (hc : c < INF) (hcv : val c * 2 ^ WEXP = j * U1074) (hm : mg x ≤ c) (hj : j ≤ 100) : TwoF x j := by
  have hmf : mg x < INF := Nat.lt_of_le_of_lt hm hc
  obtain ⟨a1, a2, m, e, hr⟩ := read_wid_fin hx hmf
  obtain ⟨w1, w2⟩ := wid_val hmf
  have hva : valD (wid (mg x)) ≤ j * U1074 := by
    rw [w2, ← hcv]
    exact Nat.mul_le_mul_right _ (val_le hm)
  have hn : nF x ≤ j := flN_le w1 _ hva
  have K := kFacts (N := nF x) (by omega)
  have hw := wid_fin hx hmf
  obtain ⟨f1, f2⟩ := flN_facts w1 (sgB x)
  have hfl : D.write ((D.read (wid x)).integral .down) = kF x := by
    obtain ⟨m', e', hr'⟩ := read_ltD w1
    have hws : wid x < 18446744073709551616 := D.write_lt _
    have hr2 := read_signD hws
    rw [a2, hr'] at hr2
    have hs : decide (9223372036854775808 ≤ wid x) = sgB x := by
      unfold sgB
      rw [hw]
      by_cases hh : 2147483648 ≤ x
      · rw [if_pos hh, decide_eq_true hh]; simp
      · rw [if_neg hh, decide_eq_false hh]
        rw [DINF_val] at w1
        simp; omega
    rw [hs] at hr2
    rw [hr2]
    unfold kF nF flN kW
    rw [hr']
    rfl
  have hsub : D.sub (wid x) (kF x) = some (zF x) ∧ zF x ≤ 4607182418800017408 := by
    unfold zF kF
    rcases hs : sgB x with _ | _
    · have hh : ¬ 2147483648 ≤ x := by unfold sgB at hs; simpa using hs
      rw [if_neg hh, Nat.zero_add] at hw
      rw [hw]
      have g := f1 hs
      rw [show flN (sgB x) (wid (mg x)) = nF x from rfl, ← K.val] at g
      have g2 : valD (wid (mg x)) ≤ valD (kW false (nF x)) + U1074 := by
        have := g.2
        rw [Nat.add_mul, Nat.one_mul, ← K.val] at this
        omega
      exact left_le w1 (word_le_of_val g.1) g2
    · have hh : 2147483648 ≤ x := by unfold sgB at hs; simpa using hs
      rw [if_pos hh] at hw
      have g := f2 hs
      rw [show flN (sgB x) (wid (mg x)) = nF x from rfl] at g
      have g2 : valD (kW false (nF x)) ≤ valD (wid (mg x)) + U1074 := by
        rw [K.val]
        rcases g.2 with h0 | h0
        · rw [h0, Nat.zero_mul]; omega
        · have : nF x * U1074 ≤ (nF x - 1) * U1074 + U1074 := by
            rcases Nat.eq_zero_or_pos (nF x) with hz | hz
            · rw [hz]; omega
            · obtain ⟨q, hq⟩ : ∃ q, nF x = q + 1 := ⟨nF x - 1, by omega⟩
              rw [hq, Nat.add_sub_cancel, Nat.add_mul, Nat.one_mul]
              exact Nat.le_refl _
          omega
      have g1 : wid (mg x) ≤ kW false (nF x) := word_le_of_val (by rw [K.val]; exact g.1)
      have L := left_le K.fin g1 g2
      have e1 : D.sub (wid x) (kW true (nF x)) = D.sub (kW false (nF x)) (wid (mg x)) := by
        rw [hw, kW_true, neg_sub w1 K.fin]
      have e2 : fsubD (wid x) (kW true (nF x)) = fsubD (kW false (nF x)) (wid (mg x)) := by unfold fsubD; rw [e1]
      rw [e2, e1]
      exact L
  have hyl : yF x ≤ 4604418534313441775 := fmul_leD hsub.2 (by rw [DINF_val]; decide)
  have hmul := (mul_eqD (x := zF x) (y := 4604418534313441775) (amtB_iffD.2 (by rw [DINF_val]; have := hsub.2; omega)) (by decide)).1
  have S := ser_facts (y := yF x) (by omega) 14 (Nat.le_refl _)
  exact ⟨hn, hfl, ⟨_, m, e, hr⟩, D.write_lt _, hsub.1, hmul, by omega, S.1, Nat.lt_of_le_of_lt S.2.1 (bnd_one (Nat.le_refl _)).1⟩

theorem up_bound_of {V A O1 O2 S N j : Nat} (hO1 : O1 = 1023 * V) (hO2 : O2 = 1041 * V) (h1 : O1 ≤ S) (h2 : S < O2) (hn : N ≤ j) (hj : j ≤ 100) (_hA : A = 0) :
    ((127 - j + 896) * V ≤ S + N * V ∧ S + N * V ≤ (145 + j + 896) * V) ∧ ((127 - j + 896) * V ≤ S - N * V ∧ S - N * V ≤ (145 + j + 896) * V) := by
  have e1 : (127 - j + 896) * V + j * V = 1023 * V := by rw [← Nat.add_mul, show 127 - j + 896 + j = 1023 by omega]
  have e2 : (145 + j + 896) * V = 1041 * V + j * V := by rw [← Nat.add_mul]; congr 1; omega
  have e3 : N * V ≤ j * V := Nat.mul_le_mul_right _ hn
  rw [e2]
  generalize (127 - j + 896) * V = P at *
  generalize j * V = B at *
  generalize N * V = C at *
  omega
theorem up_bound {S N j : Nat} (h1 : 4607182418800017408 ≤ S) (h2 : S < 4688246992172703744) (hn : N ≤ j) (hj : j ≤ 100) :
    ((127 - j + 896) * 4503599627370496 ≤ S + N * 4503599627370496 ∧ S + N * 4503599627370496 ≤ (145 + j + 896) * 4503599627370496) ∧
    ((127 - j + 896) * 4503599627370496 ≤ S - N * 4503599627370496 ∧ S - N * 4503599627370496 ≤ (145 + j + 896) * 4503599627370496) :=
  up_bound_of (V := 4503599627370496) (A := 0) (O1 := 4607182418800017408) (O2 := 4688247212092686336) rfl rfl h1 (Nat.lt_trans h2 (by decide)) hn hj rfl
theorem rF_bounds {x j : Nat} (T : TwoF x j) (hj : j ≤ 100) : p64 (127 - j) ≤ rF x ∧ rF x ≤ p64 (145 + j) := by
  have h := up_bound T.s1 T.s2 T.n hj
  unfold rF p64
  rcases sgB x with _ | _
  · rw [if_neg (by decide)]; exact h.1
  · rw [if_pos rfl]; exact h.2
theorem two_bounds {x j : Nat} (T : TwoF x j) (hj : j ≤ 100) : p32 (127 - j) ≤ two x ∧ two x ≤ p32 (145 + j) ∧ floatToFloatBits .f64 (rF x) .f32 = some (two x) := by
  obtain ⟨a, b⟩ := rF_bounds T hj
  have h254 : rF x ≤ p64 254 := Nat.le_trans b (by unfold p64; omega)
  refine ⟨narr_low (by omega) (by omega) a ?_, narr_up (by omega) (by omega) b, narr_conv h254⟩
  have := (p_one (j := 254) (by decide) (by decide)).2.1
  omega
end Go.Fl
/- 2 to the power of a single: what the two ways give is the same. No program. -/
namespace Go.Fl
open Ieee
def iF (x : Nat) : Int := if sgB x = true then -(nF x : Int) else (nF x : Int)
theorem iF_bd {x j : Nat} (T : TwoF x j) (hj : j ≤ 100) : -100 ≤ iF x ∧ iF x ≤ 100 := by
  have := T.n
  unfold iF
  cases sgB x
  · rw [if_neg (by decide)]; omega
  · rw [if_pos rfl]; omega
theorem iF_conv {x j : Nat} (T : TwoF x j) (hj : j ≤ 100) : floatToIntVal .f64 (kF x) .i64 = some (iF x) := by
  have K := kFacts (N := nF x) (by have := T.n; omega)
  unfold iF kF
  cases sgB x
  · rw [if_neg (by decide)]; exact K.pos
  · rw [if_pos rfl]; exact K.neg
theorem mul_low {q f V N : Nat} (h : N ≤ q) : (q - N) * V + f = q * V + f - N * V := by
  obtain ⟨d, rfl⟩ : ∃ d, q = N + d := ⟨q - N, by omega⟩
  rw [Nat.add_sub_cancel_left, Nat.add_mul]
  omega
theorem rF_word {x j : Nat} (T : TwoF x j) (hj : j ≤ 100) : (iF x + (sF x / 4503599627370496 : Nat)).toNat * 4503599627370496 + sF x % 4503599627370496 = rF x := by
  have hn := T.n
  have h1 := T.s1
  have hd : sF x = sF x / 4503599627370496 * 4503599627370496 + sF x % 4503599627370496 := by omega
  have hq : 1023 ≤ sF x / 4503599627370496 := by omega
  unfold iF rF
  generalize sF x / 4503599627370496 = q at *
  generalize sF x % 4503599627370496 = f at *
  rw [hd]
  cases sgB x
  · rw [if_neg (by decide), if_neg (by decide), show ((nF x : Int) + (q : Int)).toNat = nF x + q by omega, Nat.add_mul]
    omega
  · rw [if_pos rfl, if_pos rfl, show (-(nF x : Int) + (q : Int)).toNat = q - nF x by omega]
    exact mul_low (by omega)
theorem rF_lt {x j : Nat} (T : TwoF x j) (hj : j ≤ 100) : rF x < DINF := by
  have h := (rF_bounds T hj).2
  have h2 := (p_one (j := 245) (by decide) (by decide)).2.1
  refine Nat.lt_of_le_of_lt (Nat.le_trans h ?_) h2
  unfold p64
  exact Nat.mul_le_mul_right _ (by omega)
theorem ser_step {y m : Nat} (h0 : 1 ≤ m) (h1 : m ≤ 14) : ser y (14 - (m - 1)) = faddD 4607182418800017408 (fmulD (fdivD y (floatOfInt .f64 (m : Int))) (ser y (14 - m))) := by
  rw [show 14 - (m - 1) = (14 - m) + 1 by omega]
  show faddD _ (fmulD (fdivD y (floatOfInt .f64 ((14 - (14 - m) : Nat) : Int))) _) = _
  rw [show 14 - (14 - m) = m by omega]
structure Term2 (y m : Nat) : Prop where
  q : D.div y (floatOfInt .f64 (m : Int)) = some (fdivD y (floatOfInt .f64 (m : Int)))
  p : D.mul (fdivD y (floatOfInt .f64 (m : Int))) (ser y (14 - m)) = some (fmulD (fdivD y (floatOfInt .f64 (m : Int))) (ser y (14 - m)))
  s : D.add 4607182418800017408 (fmulD (fdivD y (floatOfInt .f64 (m : Int))) (ser y (14 - m))) = some (ser y (14 - (m - 1)))
theorem term2 {y m : Nat} (hy : y ≤ 4607182418800017408) (h0 : 1 ≤ m) (h1 : m ≤ 14) : Term2 y m := by
  have T := (ser_facts hy (14 - m) (by omega)).2.2 (by omega)
  obtain ⟨q, p, s⟩ := T
  rw [show 14 - (14 - m) = m by omega] at q p s
  rw [show 14 - m + 1 = 14 - (m - 1) by omega] at s
  exact ⟨q, p, s⟩
theorem kW_lt {N : Nat} (h : N < 100) : kW false N < kW false (N + 1) := by
  have K := kFacts (N := N) (by omega)
  have K' := kFacts (N := N + 1) (by omega)
  have hp : 0 < U1074 := by rw [U_val]; exact Nat.two_pow_pos _
  apply Nat.lt_of_not_le
  intro hle
  have := val_leD hle
  rw [K.val, K'.val, Nat.add_mul, Nat.one_mul] at this
  omega
/-- The words of negative whole numbers on the way up to zero. -/
def kU (N i : Nat) : Nat := if i < N then kW true (N - i) else if N = 0 then kW true 0 else 0
theorem kU_step {N i : Nat} (hN : N ≤ 100) (h : i < N) : D.add (kU N i) 4607182418800017408 = some (kU N (i + 1)) ∧ kU N (i + 1) < kU N i ∧ (D.order (kU N i) 0 == some .lt) = true := by
  have K := kFacts (N := N - i) (by omega)
  have e0 : kU N i = kW true (N - i) := if_pos h
  rw [e0]
  refine ⟨?_, ?_, ?_⟩
  · rw [K.add (by omega)]
    unfold kU
    by_cases h1 : i + 1 < N
    · rw [if_pos h1, if_neg (by omega), show N - i - 1 = N - (i + 1) by omega]
    · rw [if_neg h1, if_pos (by omega : N - i = 1), if_neg (by omega : ¬ N = 0)]
  · have ek := kW_true (N - i)
    unfold kU
    by_cases h1 : i + 1 < N
    · rw [if_pos h1, kW_true, kW_true]
      have := kW_lt (N := N - (i + 1)) (by omega)
      rw [show N - (i + 1) + 1 = N - i by omega] at this
      omega
    · rw [if_neg h1, if_neg (by omega : ¬ N = 0)]; rw [ek]; omega
  · rw [K.ordN, if_neg (by omega : ¬ N - i = 0)]; rfl
theorem kU_end {N : Nat} : (D.order (kU N N) 0 == some .lt) = false := by
  unfold kU
  rw [if_neg (by omega : ¬ N < N)]
  by_cases h : N = 0
  · rw [if_pos h, (kFacts (N := 0) (by omega)).ordN, if_pos rfl]; rfl
  · rw [if_neg h]; decide
end Go.Fl
/- Quotients and products of singles: bounds and signs. No program. -/
namespace Go.Fl
open Ieee

theorem write_signS (s : Bool) (m : Nat) (e : Int) : S.write (.number s m e) = (if s then 2147483648 else 0) + S.write (.number false m e) := by
  cases s
  · simp
  · show S.nearest true m e = _ + S.nearest false m e
    unfold Format.nearest
    split
    · simp [Format.word, sw_S]
    · simp only [Toward.cut, Format.word, sw_S]
      simp

/-- A sign, and a magnitude. -/
def sgnW (x r : Nat) : Nat := (if 2147483648 ≤ x then 2147483648 else 0) + r
theorem sgnW_mg {x r : Nat} (hr : r < 2147483648) : mg (sgnW x r) = r ∧ sgnW x r < 4294967296 := by
  unfold sgnW mg
  split <;> omega

/-- A finite number by a positive one. -/
theorem div_sgn {x y : Nat} (hx : x < 4294967296) (hf : mg x < INF) (hy : y < INF) (h0 : y ≠ 0) : S.div x y = some (sgnW x (fdiv (mg x) y)) := by
  obtain ⟨m, e, h1, h2⟩ := read_fin hx hf
  obtain ⟨n, k, h3, hv⟩ := read_val hy
  have hn : n ≠ 0 := by
    intro hn
    rw [hn, Nat.zero_mul] at hv
    have := val_lt (Nat.pos_of_ne_zero h0)
    rw [val_zero] at this; omega
  have key : ∀ s : Bool, (Datum.number s m e).quotient (S.fractionBits + 2) (.number false n (-149 + (k : Int))) = some (.number s (2 * ((m <<< (S.fractionBits + 2 + n.log2 - m.log2)) / n) + ((m <<< (S.fractionBits + 2 + n.log2 - m.log2)) % n != 0).toNat) (e - (-149 + (k : Int)) - (S.fractionBits + 2 + n.log2 - m.log2 : Nat) - 1)) := by
    intro s
    simp only [Datum.quotient]
    rw [if_neg hn]
    simp
  have e1 : fdiv (mg x) y = S.write (.number false (2 * ((m <<< (S.fractionBits + 2 + n.log2 - m.log2)) / n) + ((m <<< (S.fractionBits + 2 + n.log2 - m.log2)) % n != 0).toNat) (e - (-149 + (k : Int)) - (S.fractionBits + 2 + n.log2 - m.log2 : Nat) - 1)) := by
    unfold fdiv Format.div
    rw [h1, h3, key]
    rfl
  unfold Format.div
  rw [h2, h3, key, Option.map_some, write_signS, ← e1]
  unfold sgnW
  by_cases h : 2147483648 ≤ x
  · rw [decide_eq_true h, if_pos rfl, if_pos h]
  · rw [decide_eq_false h, if_neg (by decide), if_neg h]

theorem p32_val {j : Nat} (h0 : 1 ≤ j) : val (p32 j) = 2 ^ (j + 22) := by
  unfold val p32
  rw [if_neg (by omega), show j * 8388608 % 8388608 = 0 by omega, show j * 8388608 / 8388608 = j by omega, Nat.add_zero, show (8388608 : Nat) = 2 ^ 23 by decide, ← Nat.pow_add]
  congr 1
  omega

/-- A quotient, by the powers of 2 round its operands. -/
theorem quo_pow {x y A B : Nat} (hA0 : 1 ≤ A) (hA : A < 255) (hB0 : 1 ≤ B) (hx : x ≤ p32 A) (hy : p32 B ≤ y) (hy' : y < INF) (hAB : B ≤ A + 127) (hC : A + 128 - B < 255) : S.div x y = some (fdiv x y) ∧ fdiv x y ≤ p32 (A + 128 - B) := by
  have hpA := (p_one (by omega) hA).2.2
  have hx' : x < INF := by omega
  obtain ⟨m, k1, h1, v1, w1, b1, c1⟩ := read_rep hx'
  obtain ⟨n, k2, h2, v2, w2, b2, c2⟩ := read_rep hy'
  have u1 : m * 2 ^ k1 ≤ 2 ^ (A + 22) := by rw [← v1, ← p32_val hA0]; exact val_le hx
  have u2 : 2 ^ (B + 22) ≤ n * 2 ^ k2 := by rw [← v2, ← p32_val hB0]; exact val_le hy
  have hn : n ≠ 0 := by
    intro h0
    rw [h0, Nat.zero_mul] at u2
    have : 0 < 2 ^ (B + 22) := Nat.two_pow_pos _
    omega
  have e : S.div x y = some (S.write (.number false (2 * ((m <<< (S.fractionBits + 2 + n.log2 - m.log2)) / n) + ((m <<< (S.fractionBits + 2 + n.log2 - m.log2)) % n != 0).toNat) (-149 + (k1 : Int) - (-149 + (k2 : Int)) - (S.fractionBits + 2 + n.log2 - m.log2 : Nat) - 1))) := by
    unfold Format.div
    rw [h1, h2]
    simp only [Datum.quotient]
    rw [if_neg hn]
    rfl
  have ed : fdiv x y = S.write (.number false (2 * ((m <<< (S.fractionBits + 2 + n.log2 - m.log2)) / n) + ((m <<< (S.fractionBits + 2 + n.log2 - m.log2)) % n != 0).toNat) (-149 + (k1 : Int) - (-149 + (k2 : Int)) - (S.fractionBits + 2 + n.log2 - m.log2 : Nat) - 1)) := by
    unfold fdiv; rw [e]; rfl
  refine ⟨by rw [ed]; exact e, ?_⟩
  rw [ed]
  show S.nearest false _ _ ≤ _
  rw [fb_S, Nat.shiftLeft_eq]
  generalize hmore : 23 + 2 + n.log2 - m.log2 = more
  rw [show -149 + (k1 : Int) - (-149 + (k2 : Int)) - (more : Nat) - 1 = -149 + ((k1 : Int) - k2 - more - 1 + 149) by omega]
  have hpC := (p_one (j := A + 128 - B) (by omega) hC).2.2
  refine nearest_le_word hpC (k1 + 149) (k2 + more + 1) (by omega) ?_
  rw [p32_val (by omega)]
  by_cases hm : m = 0
  · subst hm
    simp
  · have l1 : m.log2 ≤ 23 := by
      have : m.log2 < 24 := (Nat.log2_lt hm).2 (by omega)
      omega
    have l0 : 2 ^ m.log2 ≤ m := Nat.log2_self_le hm
    have l2 : n < 2 ^ (n.log2 + 1) := Nat.lt_log2_self
    have l3 : m.log2 + k1 ≤ A + 22 := by
      have : 2 ^ (m.log2 + k1) < 2 ^ (A + 22 + 1) := by
        calc 2 ^ (m.log2 + k1) = 2 ^ m.log2 * 2 ^ k1 := Nat.pow_add 2 _ _
          _ ≤ m * 2 ^ k1 := Nat.mul_le_mul_right _ l0
          _ ≤ 2 ^ (A + 22) := u1
          _ < _ := Nat.pow_lt_pow_right (by decide) (by omega)
      have := pow_mul_lt this
      omega
    have l4 : B + 22 < n.log2 + 1 + k2 := by
      apply pow_mul_lt
      calc 2 ^ (B + 22) ≤ n * 2 ^ k2 := u2
        _ < 2 ^ (n.log2 + 1) * 2 ^ k2 := Nat.mul_lt_mul_of_pos_right l2 (Nat.two_pow_pos _)
        _ = _ := (Nat.pow_add 2 _ _).symm
    have q1 : m * 2 ^ more / n * 2 ^ k1 * 2 ^ (B + 22) ≤ 2 ^ (A + 22 + more + k2) := by
      calc m * 2 ^ more / n * 2 ^ k1 * 2 ^ (B + 22) ≤ m * 2 ^ more / n * 2 ^ k1 * (n * 2 ^ k2) := Nat.mul_le_mul_left _ u2
        _ = m * 2 ^ more / n * n * 2 ^ k1 * 2 ^ k2 := by rw [Nat.mul_assoc, Nat.mul_left_comm (2 ^ k1), ← Nat.mul_assoc, ← Nat.mul_assoc]
        _ ≤ m * 2 ^ more * 2 ^ k1 * 2 ^ k2 := Nat.mul_le_mul_right _ (Nat.mul_le_mul_right _ (Nat.div_mul_le_self _ _))
        _ = m * 2 ^ k1 * (2 ^ more * 2 ^ k2) := by rw [Nat.mul_assoc m, Nat.mul_comm (2 ^ more), ← Nat.mul_assoc, Nat.mul_assoc]
        _ ≤ 2 ^ (A + 22) * (2 ^ more * 2 ^ k2) := Nat.mul_le_mul_right _ u1
        _ = _ := by rw [← Nat.mul_assoc, ← Nat.pow_add, ← Nat.pow_add]
    have q2 : m * 2 ^ more / n * 2 ^ k1 ≤ 2 ^ (A + more + k2 - B) := by
      apply Nat.le_of_mul_le_mul_right (c := 2 ^ (B + 22)) _ (Nat.two_pow_pos _)
      rw [← Nat.pow_add, show A + more + k2 - B + (B + 22) = A + 22 + more + k2 by omega]
      exact q1
    have q3 : 2 ^ k1 ≤ 2 ^ (A + more + k2 - B) := Nat.pow_le_pow_right (by decide) (by omega)
    have q4 : (2 * (m * 2 ^ more / n) + (m * 2 ^ more % n != 0).toNat) * 2 ^ k1 ≤ 2 ^ (A + more + k2 - B + 2) := by
      have hb : (m * 2 ^ more % n != 0).toNat ≤ 1 := by
        generalize (m * 2 ^ more % n != 0) = b
        cases b <;> decide
      generalize (m * 2 ^ more % n != 0).toNat = b at *
      generalize m * 2 ^ more / n = q at *
      rw [Nat.pow_add 2 (A + more + k2 - B) 2]
      generalize 2 ^ (A + more + k2 - B) = V at *
      generalize 2 ^ k1 = K at *
      rw [Nat.add_mul]
      have s1 : 2 * q * K = 2 * (q * K) := Nat.mul_assoc _ _ _
      have s2 : b * K ≤ 1 * K := Nat.mul_le_mul_right _ hb
      rw [s1]
      omega
    rw [Nat.pow_add 2 k1 149, ← Nat.mul_assoc, ← Nat.pow_add]
    calc _ ≤ 2 ^ (A + more + k2 - B + 2) * 2 ^ 149 := Nat.mul_le_mul_right _ q4
      _ = 2 ^ (A + more + k2 - B + 2 + 149) := (Nat.pow_add 2 _ _).symm
      _ ≤ _ := Nat.pow_le_pow_right (by decide) (by omega)

/-- A product, by the powers of 2 round its operands. -/
theorem mul_pow {x y A B : Nat} (hA0 : 1 ≤ A) (hA : A < 255) (hB0 : 1 ≤ B) (hB : B < 255) (hx : x ≤ p32 A) (hy : y ≤ p32 B) (hAB : 127 < A + B) (hC : A + B - 127 < 255) : S.mul x y = some (fmul x y) ∧ fmul x y ≤ p32 (A + B - 127) := by
  have hpA := (p_one (by omega) hA).2.2
  have hpB := (p_one (by omega) hB).2.2
  have hx' : x < INF := by omega
  have hy' : y < INF := by omega
  refine ⟨(mul_eq (amtB_iff.2 hx') (amtB_iff.2 hy')).1, ?_⟩
  rw [fmul_val hx' hy']
  refine nearest_le_word (p_one (by omega) hC).2.2 0 149 (by omega) ?_
  rw [Nat.pow_zero, Nat.mul_one, p32_val (by omega), ← Nat.pow_add]
  calc val x * val y ≤ 2 ^ (A + 22) * 2 ^ (B + 22) := Nat.mul_le_mul (by rw [← p32_val hA0]; exact val_le hx) (by rw [← p32_val hB0]; exact val_le hy)
    _ = 2 ^ (A + 22 + (B + 22)) := (Nat.pow_add 2 _ _).symm
    _ ≤ _ := Nat.pow_le_pow_right (by decide) (by omega)
theorem pow_le_mul {x y A B : Nat} (hA0 : 1 ≤ A) (hB0 : 1 ≤ B) (hx : p32 A ≤ x) (hy : p32 B ≤ y) (hx' : x < INF) (hy' : y < INF) (hAB : 127 < A + B) (hC : A + B - 127 < 255) : p32 (A + B - 127) ≤ fmul x y := by
  rw [fmul_val hx' hy']
  refine word_le_nearest (p_one (by omega) hC).2.2 0 149 (by omega) ?_
  rw [Nat.pow_zero, Nat.mul_one, p32_val (by omega), ← Nat.pow_add]
  calc 2 ^ (A + B - 127 + 22 + 149) ≤ 2 ^ (A + 22 + (B + 22)) := Nat.pow_le_pow_right (by decide) (by omega)
    _ = 2 ^ (A + 22) * 2 ^ (B + 22) := Nat.pow_add 2 _ _
    _ ≤ _ := Nat.mul_le_mul (by rw [← p32_val hA0]; exact val_le hx) (by rw [← p32_val hB0]; exact val_le hy)

/-- Amounts less one another: finite. -/
theorem sub_amt {x y : Nat} (hx : x < INF) (hy : y < INF) : ∃ z, S.sub x y = some z ∧ z < 4294967296 ∧ finB z = true := by
  rcases Nat.le_total y x with h | h
  · have := fsub_le hx h
    exact ⟨fsub x y, (fsub_val hx h).1, by rw [INF_val] at hx; omega, amt_fin (amtB_iff.2 (by omega))⟩
  · obtain ⟨h1, _⟩ := fsub_val hy h
    have h2 := fsub_le hy h
    obtain ⟨m, e, r1⟩ := read_lt hx
    obtain ⟨n, k, r2⟩ := read_lt hy
    by_cases he : x = y
    · subst he
      exact ⟨0, sub_self hx, by decide, by decide⟩
    have hlt : x < y := by omega
    have key : S.sub x y = some (2147483648 + fsub y x) := by
      have hval := val_lt hlt
      obtain ⟨m', j', q1, v1⟩ := read_val hx
      obtain ⟨n', k', q2, v2⟩ := read_val hy
      rw [v1, v2] at hval
      have hfs : fsub y x = (S.sub y x).getD 0 := rfl
      rw [hfs]
      unfold Format.sub
      rw [q1, q2]
      simp only [Datum.opposite, Datum.sum, signed, Bool.not_false, Bool.false_eq_true, if_false, if_true, Option.map_some, Option.getD_some, Nat.shiftLeft_eq]
      rw [Int.min_comm (-149 + (k' : Int)) (-149 + (j' : Int))]
      have hpos : m' * 2 ^ (-149 + (j' : Int) - min (-149 + (j' : Int)) (-149 + (k' : Int))).toNat < n' * 2 ^ (-149 + (k' : Int) - min (-149 + (j' : Int)) (-149 + (k' : Int))).toNat := by
        rcases Nat.le_total j' k' with hjk | hjk
        · obtain ⟨s, rfl⟩ : ∃ s, k' = j' + s := ⟨k' - j', by omega⟩
          rw [show min (-149 + (j' : Int)) (-149 + ((j' + s : Nat) : Int)) = -149 + (j' : Int) by omega, show (-149 + (j' : Int) - (-149 + (j' : Int))).toNat = 0 by omega, show (-149 + ((j' + s : Nat) : Int) - (-149 + (j' : Int))).toNat = s by omega, Nat.pow_zero, Nat.mul_one]
          rw [Nat.pow_add, Nat.mul_comm (2 ^ j'), ← Nat.mul_assoc] at hval
          exact Nat.lt_of_mul_lt_mul_right hval
        · obtain ⟨s, rfl⟩ : ∃ s, j' = k' + s := ⟨j' - k', by omega⟩
          rw [show min (-149 + ((k' + s : Nat) : Int)) (-149 + (k' : Int)) = -149 + (k' : Int) by omega, show (-149 + ((k' + s : Nat) : Int) - (-149 + (k' : Int))).toNat = s by omega, show (-149 + (k' : Int) - (-149 + (k' : Int))).toNat = 0 by omega, Nat.pow_zero, Nat.mul_one]
          rw [Nat.pow_add, Nat.mul_comm (2 ^ k'), ← Nat.mul_assoc] at hval
          exact Nat.lt_of_mul_lt_mul_right hval
      generalize m' * 2 ^ (-149 + (j' : Int) - min (-149 + (j' : Int)) (-149 + (k' : Int))).toNat = a at *
      generalize n' * 2 ^ (-149 + (k' : Int) - min (-149 + (j' : Int)) (-149 + (k' : Int))).toNat = b at *
      rw [if_neg (by omega), if_neg (by omega), decide_eq_true (by omega), decide_eq_false (by omega), show ((a : Int) + -(b : Int)).natAbs = ((b : Int) + -(a : Int)).natAbs by omega, write_signS, if_pos rfl]
    refine ⟨_, key, by rw [INF_val] at hy; omega, ?_⟩
    rw [finB_iff]
    unfold mg
    rw [INF_val] at *
    omega
end Go.Fl
/- Quotients by a mass, and what PutDroplets reckons. No program. -/
namespace Go.Fl
open Ieee

theorem mass_read {k : Nat} (hk : k < 20) : S.read (mass k) = .number false 8388608 (-149 + ((126 + k : Nat) : Int)) := by
  obtain ⟨M, t, h1, _, h3, h4, h5⟩ := read_rep (y := mass k) (amtB_iff.1 (mass_amt hk))
  have e : M = 8388608 ∧ t = 126 + k := by unfold mass at h3; omega
  rw [h1, e.1, e.2]
theorem mass_ne (k : Nat) : mass k ≠ 0 := by unfold mass; omega
theorem val_mass (k : Nat) : val (mass k) = 2 ^ (k + 149) := by
  have := p32_val (j := 127 + k) (by omega)
  unfold p32 at this
  unfold mass
  rw [this]
  congr 1
  omega

theorem div_mass {x k b : Nat} (hk : k < 20) (hx : x < INF) (hb : b < INF) (h : val x ≤ val b * 2 ^ k) : fdiv x (mass k) ≤ b := by
  obtain ⟨m, k1, h1, v1, w1, b1, c1⟩ := read_rep hx
  have e : S.div x (mass k) = some (S.write (.number false (2 * ((m <<< (S.fractionBits + 2 + (8388608 : Nat).log2 - m.log2)) / 8388608) + ((m <<< (S.fractionBits + 2 + (8388608 : Nat).log2 - m.log2)) % 8388608 != 0).toNat) (-149 + (k1 : Int) - (-149 + ((126 + k : Nat) : Int)) - (S.fractionBits + 2 + (8388608 : Nat).log2 - m.log2 : Nat) - 1))) := by
    unfold Format.div
    rw [h1, mass_read hk]
    simp only [Datum.quotient]
    rw [if_neg (by decide)]
    rfl
  have ed : fdiv x (mass k) = S.write (.number false (2 * ((m <<< (S.fractionBits + 2 + (8388608 : Nat).log2 - m.log2)) / 8388608) + ((m <<< (S.fractionBits + 2 + (8388608 : Nat).log2 - m.log2)) % 8388608 != 0).toNat) (-149 + (k1 : Int) - (-149 + ((126 + k : Nat) : Int)) - (S.fractionBits + 2 + (8388608 : Nat).log2 - m.log2 : Nat) - 1)) := by
    unfold fdiv; rw [e]; rfl
  rw [ed]
  show S.nearest false _ _ ≤ _
  rw [fb_S, Nat.shiftLeft_eq, show (8388608 : Nat).log2 = 23 by decide +kernel]
  have l1 : m.log2 ≤ 23 := by
    by_cases hm : m = 0
    · subst hm; decide
    · have : m.log2 < 24 := (Nat.log2_lt hm).2 (by omega)
      omega
  generalize hmore : 23 + 2 + 23 - m.log2 = more
  obtain ⟨r, rfl⟩ : ∃ r, more = r + 23 := ⟨more - 23, by omega⟩
  rw [show m * 2 ^ (r + 23) = m * 2 ^ r * 8388608 by rw [Nat.pow_add, ← Nat.mul_assoc], Nat.mul_div_cancel _ (by decide), Nat.mul_mod_left]
  rw [show -149 + (k1 : Int) - (-149 + ((126 + k : Nat) : Int)) - ((r + 23 : Nat) : Int) - 1 = -149 + (((k1 + 22 : Nat) : Int) - ((k + (r + 23) : Nat) : Int)) by omega]
  refine nearest_le_word hb (k1 + 22) (k + (r + 23)) rfl ?_
  show (2 * (m * 2 ^ r) + 0) * 2 ^ (k1 + 22) ≤ _
  calc (2 * (m * 2 ^ r) + 0) * 2 ^ (k1 + 22) = m * 2 ^ k1 * 2 ^ (r + 23) := by
        rw [Nat.add_zero, Nat.pow_add 2 k1 22, Nat.pow_add 2 r 23, show (2 : Nat) ^ 23 = 2 * 2 ^ 22 by decide]
        generalize (2 : Nat) ^ 22 = a
        simp only [Nat.mul_assoc, Nat.mul_comm, Nat.mul_left_comm]
    _ ≤ val b * 2 ^ k * 2 ^ (r + 23) := Nat.mul_le_mul_right _ (by rw [← v1]; exact h)
    _ = _ := by rw [Nat.mul_assoc, ← Nat.pow_add]

theorem div_one {x k : Nat} (hk : k < 20) (h : x ≤ mass k) : fdiv x (mass k) ≤ 1065353216 := by
  have hm := amtB_iff.1 (mass_amt hk)
  refine div_mass hk (by omega) (by decide) ?_
  have h0 : val 1065353216 = 2 ^ 149 := val_mass 0
  rw [h0, ← Nat.pow_add, Nat.add_comm 149 k, ← val_mass k]
  exact val_le h
theorem div_less {x k : Nat} (hk : k < 20) (hx : x < INF) : fdiv x (mass k) ≤ x :=
  div_mass hk hx hx (Nat.le_mul_of_pos_right _ (Nat.two_pow_pos _))

theorem sub_mass {x k : Nat} (hk : k < 19) (h1 : mass k ≤ x) (h2 : x < mass (k + 1)) : fsub x (mass k) ≤ mass k := by
  have hm := amtB_iff.1 (mass_amt (k := k) (by omega))
  have hn := amtB_iff.1 (mass_amt (k := k + 1) (by omega))
  rw [(fsub_val (by omega) h1).2]
  refine nearest_le_word hm 0 0 (by omega) ?_
  rw [Nat.pow_zero, Nat.mul_one, Nat.mul_one]
  have := val_le (Nat.le_of_lt h2)
  rw [val_mass, show k + 1 + 149 = k + 149 + 1 by omega, Nat.pow_succ] at this
  rw [val_mass]
  omega

theorem forF_at {x : Nat} (h1 : 1065353216 ≤ x) : mass (forF x) ≤ x := by unfold forF mass; omega
theorem forF_below {x : Nat} (h : forF x ≠ 19) : x < mass (forF x + 1) := by unfold forF at *; unfold mass; omega

/-- What a mass of at least 1 and a count make. -/
structure PutS (x y : Nat) : Prop where
  sle : mass (forF x) ≤ x
  d : amtB (fsub x (mass (forF x))) = true
  q : amtB (fdiv (fsub x (mass (forF x))) (mass (forF x))) = true
  q1 : fdiv (fsub x (mass (forF x))) (mass (forF x)) ≤ 1065353216
  r : amtB (fsub 1065353216 (fdiv (fsub x (mass (forF x))) (mass (forF x)))) = true
theorem put_facts {x y : Nat} (h1 : 1065353216 ≤ x) (hk : forF x ≠ 19) : PutS x y := by
  have hlt := forF_lt x
  have hm := amtB_iff.1 (mass_amt hlt)
  have a1 := forF_at h1
  have a2 := sub_mass (by omega) a1 (forF_below hk)
  have a3 := div_one hlt a2
  have a4 := fsub_le (x := 1065353216) (by decide) a3
  exact ⟨a1, amtB_iff.2 (by omega), amtB_iff.2 (by rw [INF_val]; omega), a3, amtB_iff.2 (by rw [INF_val]; omega)⟩

/-- PutDroplets, ahead of its last look at the numbers. -/
def putB (c : Nat → Nat) (x y : Nat) : Nat → Nat := upd c 0 (fadd (c 0) (fmul y x))
def putT (c : Nat → Nat) (x y : Nat) : Nat → Nat := upd c 19 (fadd (c 19) (fmul y (fdiv x (mass 19))))
def putL (c : Nat → Nat) (x y : Nat) : Nat → Nat := upd c (forF x) (fadd (c (forF x)) (fmul y (fsub 1065353216 (fdiv (fsub x (mass (forF x))) (mass (forF x))))))
def putM (c : Nat → Nat) (x y : Nat) : Nat → Nat := upd (putL c x y) (forF x + 1) (fadd (c (forF x + 1)) (fmul y (fdiv (fsub x (mass (forF x))) (mass (forF x)))))

theorem upd_lt {c : Nat → Nat} {k x : Nat} (h : ∀ i, i < 20 → c i < 4294967296) (hx : x < 4294967296) : ∀ i, i < 20 → upd c k x i < 4294967296 := by
  intro i hi
  unfold upd
  split
  · exact hx
  · exact h i hi

theorem order_neg_le {x : Nat} (hx : x < 4294967296) (h : finB x = true) (hs : 2147483648 ≤ x) : S.order x 0 = some .lt ∨ S.order x 0 = some .eq := by
  obtain ⟨m, e, _, h2⟩ := read_fin hx (finB_iff.1 h)
  have h3 : S.read 0 = .number false 0 (-149) := by decide
  unfold Format.order
  rw [h2, h3, decide_eq_true hs]
  simp only [Datum.order, signed, if_true, Bool.false_eq_true, if_false]
  rw [Nat.zero_shiftLeft]
  generalize m <<< (e - min e (-149)).toNat = p
  rcases Nat.eq_zero_or_pos p with h0 | h0
  · right; subst h0; rfl
  · left
    congr 1
    rw [Int.compare_eq_lt]
    omega
theorem low0_cases {x : Nat} (hx : x < 4294967296) (h : finB x = true) (hn : ¬ (amtB x = true ∧ x ≠ 0)) :
    (FloatKind.f32.format.order x 0 == some .lt || FloatKind.f32.format.order x 0 == some .eq) = true ∧ (FloatKind.f32.format.order x 0 == some .gt) = false := by
  by_cases ha : amtB x = true
  · have : x = 0 := by
      rcases Nat.decEq x 0 with h0 | h0
      · exact absurd ⟨ha, h0⟩ hn
      · exact h0
    subst this
    exact ⟨leq_t (by decide) (by decide) (Nat.le_refl _), gt_f (by decide) (by decide) (Nat.le_refl _)⟩
  · have ha' : amtB x = false := by simpa using ha
    have hs : 2147483648 ≤ x := by
      rw [amtB_iff', INF_val] at ha'
      have := finB_iff.1 h
      rw [INF_val] at this
      unfold mg at this
      omega
    rcases order_neg_le hx h hs with ho | ho
    · have ho' : FloatKind.f32.format.order x 0 = some .lt := ho
      rw [ho']; exact ⟨rfl, rfl⟩
    · have ho' : FloatKind.f32.format.order x 0 = some .eq := ho
      rw [ho']; exact ⟨rfl, rfl⟩
end Go.Fl
/- The saturation: its words. No program. -/
namespace Go.Fl
open Ieee
def hqF (h : Nat) : Nat := sgnW h (fdiv (mg h) 1092616192)
def satF (h : Nat) : Nat := fmul 1084227584 (two (hqF h))
structure SatF (h : Nat) : Prop where
  fin : finB h = true
  div : S.div h 1092616192 = some (hqF h)
  qlt : hqF h < 4294967296
  qfin : finB (hqF h) = true
  T : TwoF (hqF h) 16
  mul : S.mul 1084227584 (two (hqF h)) = some (satF h)
  up : satF h ≤ p32 164
  low : p32 113 ≤ satF h
theorem sat_facts {h : Nat} (hx : h < 4294967296) (hh : heatB h = true) : SatF h := by
  unfold heatB at hh
  rw [Bool.and_eq_true] at hh
  have hm := mg_le_of (c := 1114636288) hx (by decide) (by decide) hh.1 hh.2
  have hmf : mg h < INF := Nat.lt_of_le_of_lt hm (by decide)
  have hd := div_sgn hx hmf (y := 1092616192) (by decide) (by decide)
  have hq := quo_pow (x := mg h) (y := 1092616192) (A := 133) (B := 130) (by decide) (by decide) (by decide) (Nat.le_trans hm (by decide)) (by decide) (by decide) (by decide) (by decide)
  have hql : fdiv (mg h) 1092616192 ≤ 1098907648 := hq.2
  have hs := sgnW_mg (x := h) (r := fdiv (mg h) 1092616192) (by omega)
  have hmq : mg (hqF h) ≤ 1098907648 := by unfold hqF; rw [hs.1]; exact hql
  have T : TwoF (hqF h) 16 := two_facts hs.2 (c := 1098907648) (by decide) (by decide +kernel) hmq (by decide)
  have hb := two_bounds T (by decide)
  have m1 := mul_pow (x := 1084227584) (y := two (hqF h)) (A := 130) (B := 161) (by decide) (by decide) (by decide) (by decide) (by decide) hb.2.1 (by decide) (by decide)
  have m2 := pow_le_mul (x := 1084227584) (y := two (hqF h)) (A := 129) (B := 111) (by decide) (by decide) (by decide) hb.1 (by decide) (Nat.lt_of_le_of_lt hb.2.1 (by decide)) (by decide) (by decide)
  exact ⟨finB_iff.2 hmf, hd, hs.2, finB_iff.2 (Nat.lt_of_le_of_lt hmq (by decide)), T, m1.1, m1.2, m2⟩
theorem sat_amt {h : Nat} (F : SatF h) : amtB (satF h) = true := amtB_iff.2 (Nat.lt_of_le_of_lt F.up (by decide))
theorem vap_le {v : Nat} (ha : amtB v = true) (hv : vapB v = true) : v ≤ 1148846080 := by
  apply Nat.le_of_not_lt
  intro hlt
  unfold vapB at hv
  rw [order_lt (amtB_iff.1 ha) (by decide), Nat.compare_eq_gt.2 hlt] at hv
  cases hv
def excF (h v : Nat) : Nat := (S.sub v (satF h)).getD 0
theorem exc_facts {h v : Nat} (F : SatF h) (hv : amtB v = true) : S.sub v (satF h) = some (excF h v) ∧ excF h v < 4294967296 ∧ finB (excF h v) = true := by
  obtain ⟨z, h1, h2, h3⟩ := sub_amt (amtB_iff.1 hv) (amtB_iff.1 (sat_amt F))
  unfold excF
  rw [h1]
  exact ⟨rfl, h2, h3⟩
def humF (h v : Nat) : Nat := fdiv v (satF h)
theorem hum_facts {h v : Nat} (F : SatF h) (hv : v ≤ 1148846080) : S.div v (satF h) = some (humF h v) ∧ humF h v < 4294967296 ∧ finB (humF h v) = true := by
  have q := quo_pow (x := v) (y := satF h) (A := 137) (B := 113) (by decide) (by decide) (by decide) (Nat.le_trans hv (by decide)) F.low (amtB_iff.1 (sat_amt F)) (by decide) (by decide)
  have h2 : amtB (humF h v) = true := amtB_iff.2 (Nat.lt_of_le_of_lt q.2 (by decide))
  exact ⟨q.1, amt_lt h2, amt_fin h2⟩
end Go.Fl
/- Numbers between two others, of either sign. No program. -/
namespace Go.Fl
open Ieee
theorem fmul_comm {x y : Nat} (hx : x < INF) (hy : y < INF) : fmul x y = fmul y x := by
  rw [fmul_val hx hy, fmul_val hy hx, Nat.mul_comm]
theorem mul_sgn {x y : Nat} (hx : x < 4294967296) (hf : mg x < INF) (hy : y < INF) : S.mul x y = some (sgnW x (fmul (mg x) y)) := by
  obtain ⟨m, e, h1, h2⟩ := read_fin hx hf
  obtain ⟨n, k, h3, hv⟩ := read_val hy
  have e1 : fmul (mg x) y = S.write (.number false (m * n) (e + (-149 + (k : Int)))) := by
    unfold fmul Format.mul
    rw [h1, h3]
    rfl
  unfold Format.mul
  rw [h2, h3]
  simp only [Datum.product, Option.map_some]
  rw [write_signS, ← e1]
  unfold sgnW
  by_cases h : 2147483648 ≤ x
  · rw [decide_eq_true h, if_pos h]; rfl
  · rw [decide_eq_false h, if_neg h]; rfl
/-- A finite number times a share. -/
theorem mul_share {x r : Nat} (hx : x < 4294967296) (hf : finB x = true) (hr : r ≤ 1065353216) : S.mul x r = some (fmul x r) ∧ fmul x r < 4294967296 ∧ finB (fmul x r) = true := by
  have hf' := finB_iff.1 hf
  have hrI : r < INF := by rw [INF_val]; omega
  have h := mul_sgn hx hf' hrI
  have hle : fmul (mg x) r ≤ mg x := by rw [fmul_comm hf' hrI]; exact fmul_le hr hf'
  have hs := sgnW_mg (x := x) (r := fmul (mg x) r) (by rw [INF_val] at hf'; omega)
  have e : fmul x r = sgnW x (fmul (mg x) r) := by unfold fmul; rw [h]; rfl
  rw [e]
  exact ⟨h, hs.2, finB_iff.2 (by rw [hs.1]; omega)⟩
theorem add_fin {x y : Nat} (hx : x < 4294967296) (hf : finB x = true) (hy : y < 4294967296) (hg : finB y = true) : S.add x y = some (fadd x y) ∧ fadd x y < 4294967296 := by
  obtain ⟨m, e, _, h2⟩ := read_fin hx (finB_iff.1 hf)
  obtain ⟨n, k, _, h3⟩ := read_fin hy (finB_iff.1 hg)
  have : ∃ z, S.add x y = some z ∧ z < 4294967296 := by
    unfold Format.add
    rw [h2, h3]
    exact ⟨_, rfl, S.write_lt _⟩
  obtain ⟨z, h, hz⟩ := this
  unfold fadd
  rw [h]
  exact ⟨rfl, hz⟩
def restF (x : Nat) : Nat := fsub 1065353216 x
def mixW (a b x : Nat) : Nat := fadd (fmul a (restF x)) (fmul b x)
structure MixF (a b x : Nat) : Prop where
  r : S.sub 1065353216 x = some (restF x)
  m1 : S.mul a (restF x) = some (fmul a (restF x))
  m2 : S.mul b x = some (fmul b x)
  s : S.add (fmul a (restF x)) (fmul b x) = some (mixW a b x)
  lt : mixW a b x < 4294967296
theorem mix_facts {a b x : Nat} (ha : a < 4294967296) (fa : finB a = true) (hb : b < 4294967296) (fb : finB b = true) (hx : x ≤ 1065353216) : MixF a b x := by
  have h1 := fsub_val (x := 1065353216) (y := x) (by decide) hx
  have h2 : restF x ≤ 1065353216 := fsub_le (by decide) hx
  have m1 := mul_share ha fa h2
  have m2 := mul_share hb fb hx
  have s := add_fin m1.2.1 m1.2.2 m2.2.1 m2.2.2
  exact ⟨h1.1, m1.1, m2.1, s.1, s.2⟩
theorem heat_fin {h : Nat} (hx : h < 4294967296) (hh : heatB h = true) : finB h = true := (sat_facts hx hh).fin
end Go.Fl
/- What Activate reckons: the least of two, the greatest of two, a vapour less some grams. No program. -/
namespace Go.Fl
open Ieee

theorem sub_neg {x y : Nat} (hy : y < INF) (hlt : x < y) : S.sub x y = some (2147483648 + fsub y x) := by
  have hval := val_lt hlt
  have hx : x < INF := by omega
  obtain ⟨m', j', q1, v1⟩ := read_val hx
  obtain ⟨n', k', q2, v2⟩ := read_val hy
  rw [v1, v2] at hval
  have hfs : fsub y x = (S.sub y x).getD 0 := rfl
  rw [hfs]
  unfold Format.sub
  rw [q1, q2]
  simp only [Datum.opposite, Datum.sum, signed, Bool.not_false, Bool.false_eq_true, if_false, if_true, Option.map_some, Option.getD_some, Nat.shiftLeft_eq]
  rw [Int.min_comm (-149 + (k' : Int)) (-149 + (j' : Int))]
  have hpos : m' * 2 ^ (-149 + (j' : Int) - min (-149 + (j' : Int)) (-149 + (k' : Int))).toNat < n' * 2 ^ (-149 + (k' : Int) - min (-149 + (j' : Int)) (-149 + (k' : Int))).toNat := by
    rcases Nat.le_total j' k' with hjk | hjk
    · obtain ⟨s, rfl⟩ : ∃ s, k' = j' + s := ⟨k' - j', by omega⟩
      rw [show min (-149 + (j' : Int)) (-149 + ((j' + s : Nat) : Int)) = -149 + (j' : Int) by omega, show (-149 + (j' : Int) - (-149 + (j' : Int))).toNat = 0 by omega, show (-149 + ((j' + s : Nat) : Int) - (-149 + (j' : Int))).toNat = s by omega, Nat.pow_zero, Nat.mul_one]
      rw [Nat.pow_add, Nat.mul_comm (2 ^ j'), ← Nat.mul_assoc] at hval
      exact Nat.lt_of_mul_lt_mul_right hval
    · obtain ⟨s, rfl⟩ : ∃ s, j' = k' + s := ⟨j' - k', by omega⟩
      rw [show min (-149 + ((k' + s : Nat) : Int)) (-149 + (k' : Int)) = -149 + (k' : Int) by omega, show (-149 + ((k' + s : Nat) : Int) - (-149 + (k' : Int))).toNat = s by omega, show (-149 + (k' : Int) - (-149 + (k' : Int))).toNat = 0 by omega, Nat.pow_zero, Nat.mul_one]
      rw [Nat.pow_add, Nat.mul_comm (2 ^ k'), ← Nat.mul_assoc] at hval
      exact Nat.lt_of_mul_lt_mul_right hval
  generalize m' * 2 ^ (-149 + (j' : Int) - min (-149 + (j' : Int)) (-149 + (k' : Int))).toNat = a at *
  generalize n' * 2 ^ (-149 + (k' : Int) - min (-149 + (j' : Int)) (-149 + (k' : Int))).toNat = b at *
  rw [if_neg (by omega), if_neg (by omega), decide_eq_true (by omega), decide_eq_false (by omega), show ((a : Int) + -(b : Int)).natAbs = ((b : Int) + -(a : Int)).natAbs by omega, write_signS, if_pos rfl]

theorem fsub_pos {x y : Nat} (hx : x < INF) (h : y < x) : 1 ≤ fsub x y := by
  rw [(fsub_val hx (Nat.le_of_lt h)).2]
  have hv := val_lt h
  refine word_le_nearest (y := 1) (by decide) 0 0 (by omega) ?_
  rw [Nat.pow_zero, Nat.mul_one, Nat.mul_one, show val 1 = 1 by decide]
  omega

theorem order_neg_lt {x : Nat} (hx : x < 4294967296) (h : finB x = true) (hs : 2147483648 < x) : S.order x 0 = some .lt := by
  obtain ⟨m, e, h1, h2⟩ := read_fin hx (finB_iff.1 h)
  have h3 : S.read 0 = .number false 0 (-149) := by decide
  have hm : 0 < mg x := by unfold mg; omega
  obtain ⟨n, k, h4, hv⟩ := read_val (finB_iff.1 h)
  have hn : 0 < n := by
    have := val_lt hm
    rw [val_zero, hv] at this
    rcases Nat.eq_zero_or_pos n with h0 | h0
    · rw [h0, Nat.zero_mul] at this; omega
    · exact h0
  rw [h1] at h4
  injection h4 with _ e1 e2
  subst e1
  unfold Format.order
  rw [h2, h3, decide_eq_true (by omega : 2147483648 ≤ x)]
  simp only [Datum.order, signed, if_true, Bool.false_eq_true, if_false]
  rw [Nat.zero_shiftLeft]
  have hq : 0 < m <<< (e - min e (-149)).toNat := by rw [Nat.shiftLeft_eq]; exact Nat.mul_pos hn (Nat.two_pow_pos _)
  generalize m <<< (e - min e (-149)).toNat = p at hq
  congr 1
  rw [Int.compare_eq_lt]
  omega

/-- A vapour less some grams, none below 0. -/
def spendF (v g : Nat) : Nat := if g ≤ v then fsub v g else 0
def subW (v g : Nat) : Nat := if g ≤ v then fsub v g else 2147483648 + fsub g v
structure SpendF (v g : Nat) : Prop where
  s : S.sub v g = some (subW v g)
  lo : (FloatKind.f32.format.order (subW v g) 0 == some .lt) = decide (v < g)
  hi : (FloatKind.f32.format.order (spendF v g) 1148846080 == some .gt) = false
  le : spendF v g ≤ v
theorem spend_facts {v g : Nat} (hv : v ≤ 1148846080) (hg : g < INF) : SpendF v g := by
  have hv' : v < INF := Nat.lt_of_le_of_lt hv (by decide)
  by_cases h : g ≤ v
  · have e1 := fsub_le hv' h
    have a : amtB (fsub v g) = true := amtB_iff.2 (Nat.lt_of_le_of_lt e1 hv')
    refine ⟨?_, ?_, ?_, ?_⟩
    · unfold subW; rw [if_pos h]; exact (fsub_val hv' h).1
    · unfold subW; rw [if_pos h, lt_f a (by decide) (Nat.zero_le _), decide_eq_false (by omega)]
    · unfold spendF; rw [if_pos h]; exact gt_f a (by decide) (by omega)
    · unfold spendF; rw [if_pos h]; exact e1
  · have h' : v < g := by omega
    have e1 := fsub_le hg (Nat.le_of_lt h')
    have e2 := fsub_pos hg h'
    have hg' := hg
    rw [INF_val] at hg'
    refine ⟨?_, ?_, ?_, ?_⟩
    · unfold subW; rw [if_neg h]; exact sub_neg hg h'
    · have hf : finB (2147483648 + fsub g v) = true := by
        rw [finB_iff, INF_val]; unfold mg; omega
      have ho : FloatKind.f32.format.order (2147483648 + fsub g v) 0 = some .lt := order_neg_lt (by omega) hf (by omega)
      unfold subW; rw [if_neg h, ho, decide_eq_true h']; rfl
    · unfold spendF; rw [if_neg h]; decide +kernel
    · unfold spendF; rw [if_neg h]; exact Nat.zero_le _

/-- What is made of nuclei at an excess. -/
def madeF (e y : Nat) : Nat := fmul y (min e 1065353216)
theorem made_facts {e y : Nat} (hy : amtB y = true) : amtB (min e 1065353216) = true ∧ madeF e y ≤ y ∧ amtB (madeF e y) = true := by
  have h1 : min e 1065353216 ≤ 1065353216 := Nat.min_le_right _ _
  have h2 : madeF e y ≤ y := by
    have := fmul_le (x := min e 1065353216) h1 (amtB_iff.1 hy)
    unfold madeF
    rw [fmul_comm (amtB_iff.1 hy) (Nat.lt_of_le_of_lt h1 (by decide))]
    exact this
  exact ⟨amtB_iff.2 (Nat.lt_of_le_of_lt h1 (by decide)), h2, amtB_iff.2 (Nat.lt_of_le_of_lt h2 (amtB_iff.1 hy))⟩

/-- The excess that is above nothing. -/
theorem exc_pos {x : Nat} (hx : x < 4294967296) (hf : finB x = true) (h : (FloatKind.f32.format.order x 0 == some .gt) = true) : amtB x = true ∧ 0 < x := by
  by_cases hp : amtB x = true ∧ x ≠ 0
  · exact ⟨hp.1, Nat.pos_of_ne_zero hp.2⟩
  · rw [(low0_cases hx hf hp).2] at h; cases h
theorem exc_two {x : Nat} (hx : x < 4294967296) (hf : finB x = true) : (amtB x = true ∧ 0 < x ∧ (FloatKind.f32.format.order x 0 == some .gt) = true ∧ (FloatKind.f32.format.order x 0 == some .lt || FloatKind.f32.format.order x 0 == some .eq) = false)
    ∨ ((FloatKind.f32.format.order x 0 == some .gt) = false ∧ (FloatKind.f32.format.order x 0 == some .lt || FloatKind.f32.format.order x 0 == some .eq) = true) := by
  by_cases hp : amtB x = true ∧ x ≠ 0
  · have h0 := Nat.pos_of_ne_zero hp.2
    exact .inl ⟨hp.1, h0, gt_t hp.1 (by decide) h0, leq_f hp.1 (by decide) h0⟩
  · have := low0_cases hx hf hp
    exact .inr ⟨this.2, this.1⟩

theorem run_min {P : Program} {x y : Nat} (ts : Array TypeId) (t : TypeId) (hx : amtB x = true) (hy : amtB y = true) (w : World) :
    (Builtin.min_ ts t #[.float .f32 x, .float .f32 y]).run P w = .ok (.float .f32 (min x y)) w := by
  have ho : FloatKind.f32.format.order x y = some (compare x y) := order_lt (amtB_iff.1 hx) (amtB_iff.1 hy)
  unfold Builtin.min_
  simp only [List.foldlM, Builtin.min2, ho]
  rcases Nat.lt_trichotomy x y with h | h | h
  · rw [Nat.compare_eq_lt.2 h, Nat.min_eq_left (Nat.le_of_lt h)]; rfl
  · subst h
    rw [Nat.compare_eq_eq.2 rfl, Nat.min_self]
    simp only [ite_self]
    rfl
  · rw [Nat.compare_eq_gt.2 h, Nat.min_eq_right (Nat.le_of_lt h)]; rfl
theorem run_max_spend {P : Program} {v g : Nat} (ts : Array TypeId) (t : TypeId) (hv : v ≤ 1148846080) (hg : g < INF) (w : World) :
    (Builtin.max_ ts t #[.float .f32 (subW v g), .float .f32 0]).run P w = .ok (.float .f32 (spendF v g)) w := by
  have hv' : v < INF := Nat.lt_of_le_of_lt hv (by decide)
  unfold Builtin.max_
  simp only [List.foldlM, Builtin.max2]
  unfold subW spendF
  by_cases h : g ≤ v
  · rw [if_pos h, if_pos h]
    have e1 := fsub_le hv' h
    have ho : FloatKind.f32.format.order (fsub v g) 0 = some (compare (fsub v g) 0) := order_lt (Nat.lt_of_le_of_lt e1 hv') (by decide)
    rw [ho]
    rcases Nat.eq_zero_or_pos (fsub v g) with h0 | h0
    · rw [h0, show compare 0 0 = Ordering.eq from rfl]
      simp only [ite_self]
      rfl
    · rw [Nat.compare_eq_gt.2 h0]; rfl
  · rw [if_neg h, if_neg h]
    have h' : v < g := by omega
    have e1 := fsub_le hg (Nat.le_of_lt h')
    have e2 := fsub_pos hg h'
    have hg' := hg
    rw [INF_val] at hg'
    have hf : finB (2147483648 + fsub g v) = true := by
      rw [finB_iff, INF_val]; unfold mg; omega
    have ho : FloatKind.f32.format.order (2147483648 + fsub g v) 0 = some .lt := order_neg_lt (by omega) hf (by omega)
    rw [ho]
    rfl
end Go.Fl
/- Two cells as results; a whole block stored, its neighbours kept; a builtin of two floats in a region. No program. -/
namespace Go.Fl
open Ieee Go Go.RowKit
section
variable {P : Program}
theorem results_two {fn : Func} {p q u v : Tmp} {ty tz : TypeId} (h : fn.results = #[.cell p ty, .cell q tz, .tmp u, .tmp v]) (tmps : Array Value) (w : World) (g : Nat) (t : TypeId) (cs : Array Value) (fr : Nat × Nat) (d : TypeDesc)
    (g' : Nat) (t' : TypeId) (cs' : Array Value) (fr' : Nat × Nat) (d' : TypeDesc)
    (hp : tmps.getD p undef = .pointer (some ⟨g, 0, none⟩)) (hg : w.heap[g]? = some (.cells cs t fr))
    (hu : P.underlying ty = some d) (hd : (match d with | .struct _ | .array _ _ => true | _ => false) = true) (hi : (P.info? ty).map (·.size) = some cs.size)
    (hq : tmps.getD q undef = .pointer (some ⟨g', 0, none⟩)) (hg' : w.heap[g']? = some (.cells cs' t' fr'))
    (hu' : P.underlying tz = some d') (hd' : (match d' with | .struct _ | .array _ _ => true | _ => false) = true) (hi' : (P.info? tz).map (·.size) = some cs'.size) :
    (results fn tmps).run P w = .ok (.tuple #[.agg cs, .agg cs', tmps.getD u undef, tmps.getD v undef]) w := by
  have hp' : tmps[p]?.getD undef = .pointer (some ⟨g, 0, none⟩) := by simpa using hp
  have hq' : tmps[q]?.getD undef = .pointer (some ⟨g', 0, none⟩) := by simpa using hq
  simp [results, h, hp', hq', asAddr, run_loadVar_row w g t ty cs fr d hg hu hd hi, run_loadVar_row w g' t' tz cs' fr' d' hg' hu' hd' hi']

theorem store_kept {ops : Array Oper} {rest : List Oper} {o : Oper} {a : Act} {w0 w : World} {l : List (Nat × Array Value × TypeId)} {Q : Exit → Act → World → Prop} (hgd : o.guard = none) (ty : TypeId) (x y : Operand) (ho : o.op = .store ty x y)
    (g : Nat) (cells : Array Value) (hx : a.eval x = .pointer (some ⟨g, 0, none⟩)) (hy : a.eval y = .agg cells)
    (T : TypeId) (old : Array Value) (k : Kept w0 ((g, old, T) :: l) w) (hB : w0.heap.size ≤ g) (hne : ∀ x ∈ l, x.1 ≠ g) (hi : (P.info? ty).map (·.size) = some cells.size)
    (hold : old.size = cells.size) (h1 : cells.all (·.oneCell') = true)
    (h : ∀ w', Kept w0 ((g, cells, T) :: l) w' → wpList P ops Q rest (a.put o.dst undef) w') : wpList P ops Q (o :: rest) a w :=
  wpList_store_row hgd ty x y ho g cells hx hy T old (k.at (x := (g, old, T)) (by simp)) hi hold h1 (h _ (k.set hB hne cells))

theorem run_builtin_val {ats : Array TypeId} {d : Option Tmp} {ty : TypeId} {ps : String} {af : Array Edge} {gd : Option (Nat × Bool)} {w : World} {v : Value} {a : Act} (p : Tmp) (X Y : Value) (hx : a.eval (.tmp p) = X)
    (h : (Builtin.max_ ats ty #[X, Y]).run P w = .ok v w) : (execOp a.eval ⟨d, .call { callee := .builtin .max, args := #[.tmp p, .const Y], argTypes := ats }, ty, ps, af, gd⟩).run P w = .ok (.value v) w := by
  have hx' : a.tmps[p]?.getD undef = X := by rw [← hx]; simp [Act.eval]
  unfold execOp
  simp [go_sem, hx', h]
end
theorem Kept.cell {w0 w : World} {l : List (Nat × Array Value × TypeId)} {g : Nat} {c : Nat → Nat} {T : TypeId} (k : Kept w0 ((g, fls c, T) :: l) w) (hB : w0.heap.size ≤ g) (hne : ∀ x ∈ l, x.1 ≠ g) (i v : Nat) :
    Kept w0 ((g, fls (upd c i v), T) :: l) (w.setCell ⟨g, i, none⟩ (.float .f32 v)) := by
  refine ⟨k.1.setCell (p := ⟨g, i, none⟩) hB _, fun x hx => ?_⟩
  rcases List.mem_cons.1 hx with rfl | hx
  · exact arrAt.set (k.at (x := (g, fls c, T)) (by simp)) i v
  · rw [Below.heap_setCell _ _ _ _ (hne x hx)]
    exact k.at (List.mem_cons_of_mem _ hx)
theorem ne_consG {x : Nat × Array Value × TypeId} {g : Nat} {l : List (Nat × Array Value × TypeId)} (h : x.1 ≠ g) (hl : ∀ z ∈ l, z.1 ≠ g) : ∀ z ∈ x :: l, z.1 ≠ g := fun z hz => by
  rcases List.mem_cons.1 hz with rfl | hz
  · exact h
  · exact hl z hz
theorem ne_tail {x y : Nat × Array Value × TypeId} {g : Nat} {l : List (Nat × Array Value × TypeId)} (h : ∀ z ∈ x :: l, z.1 ≠ g) (e : y.1 = x.1) : ∀ z ∈ y :: l, z.1 ≠ g := fun z hz => by
  rcases List.mem_cons.1 hz with rfl | hz
  · rw [e]; exact h x (by simp)
  · exact h z (List.mem_cons_of_mem _ hz)
end Go.Fl
/- Boxes of whole numbers, kernels: parts of a value, parts of a block. No program. -/
namespace Go.Fl
open Go.RowKit

def ilw (b : Nat → Int) : Nat → Value := fun i => .int .i64 (b i)

theorem vls_extract (n : Nat) (f : Nat → Value) (o m : Nat) (h : o + m ≤ n) : (vls n f).extract o (o + m) = vls m (fun j => f (o + j)) := by
  apply Array.ext_getElem?
  intro i
  rw [Array.getElem?_extract]
  by_cases hi : i < m
  · rw [vls_get _ hi, if_pos (by rw [vls_size]; omega), vls_get _ (by omega)]
  · rw [vls_none (n := m) _ (by omega), if_neg (by rw [vls_size]; omega)]

section
variable {P : Program}
theorem run_isAgg_row {e : TypeId} {d : TypeDesc} (he : P.underlying e = some d) (hd : (match d with | .struct _ | .array _ _ => true | _ => false) = true) (w : World) : (isAgg e).run P w = .ok true w := by
  unfold isAgg
  rw [Sem.run_bind, run_underlying he w]
  cases d <;> simp_all

theorem run_part_row {e : TypeId} {d : TypeDesc} (he : P.underlying e = some d) (hd : (match d with | .struct _ | .array _ _ => true | _ => false) = true) {m : Nat} (hi : (P.info? e).map (·.size) = some m)
    (n : Nat) (f : Nat → Value) (o : Nat) (h : o + m ≤ n) (w : World) : (part e (vls n f) o).run P w = .ok (.agg (vls m fun j => f (o + j))) w := by
  cases hq : P.info? e with
  | none => rw [hq] at hi; cases hi
  | some i =>
    rw [hq] at hi
    have hs : i.size = m := by simpa using hi
    subst hs
    simp [part, Sem.run_bind, run_isAgg_row he hd, sizeOf, typeInfo, hq, vls_extract n f o _ h]

theorem run_index_row {T e : TypeId} {d : TypeDesc} {n : Nat} (hT : P.underlying T = some (.array n e)) (he : P.underlying e = some d) (hd : (match d with | .struct _ | .array _ _ => true | _ => false) = true)
    {m : Nat} (hi : (P.info? e).map (·.size) = some m) (N : Nat) (f : Nat → Value) (k : Nat) (hk : k < n) (hN : k * m + m ≤ N) (w : World) :
    (Instr.index T (.agg (vls N f)) (.int .i64 (k : Int))).run P w = .ok (.agg (vls m fun j => f (k * m + j))) w := by
  have hs : (sizeOf e).run P w = .ok m w := by
    cases hq : P.info? e with
    | none => rw [hq] at hi; cases hi
    | some i =>
      rw [hq] at hi
      have hs : i.size = m := by simpa using hi
      simp [sizeOf, typeInfo, Sem.run_bind, hq, hs]
  simp only [Instr.index, asIntOf, Sem.run_bind, Sem.run_pure, Result.andThen_ok, run_underlying hT w]
  have h0 : (0 : Int) ≤ (k : Int) ∧ (k : Int) < (n : Int) := ⟨by omega, by omega⟩
  rw [if_pos h0, Sem.run_bind, hs]
  simp only [Result.andThen_ok, Int.toNat_natCast]
  exact run_part_row he hd hi N f (k * m) hN w

theorem run_field_row {T e : TypeId} {d : TypeDesc} {fs : Array Field} {i : Nat} {fd : Field} (hT : P.underlying T = some (.struct fs)) (hf : fs[i]? = some fd) (hty : fd.type = e) (he : P.underlying e = some d)
    (hd : (match d with | .struct _ | .array _ _ => true | _ => false) = true) {m : Nat} (hi : (P.info? e).map (·.size) = some m) (N : Nat) (f : Nat → Value) (o : Nat) (ho : fd.offset = o) (hN : o + m ≤ N) (w : World) :
    (Instr.field T (.agg (vls N f)) i).run P w = .ok (.agg (vls m fun j => f (o + j))) w := by
  subst hty ho
  simp only [Instr.field, Sem.run_bind, run_underlying hT w, Result.andThen_ok, hf, asAgg, Sem.run_pure]
  exact run_part_row he hd hi N f _ hN w

theorem run_field_one {T e : TypeId} {d : TypeDesc} {fs : Array Field} {i : Nat} {fd : Field} (hT : P.underlying T = some (.struct fs)) (hf : fs[i]? = some fd) (hty : fd.type = e) (he : P.underlying e = some d)
    (hd : (match d with | .struct _ | .array _ _ => true | _ => false) = false) (N : Nat) (f : Nat → Value) (o : Nat) (ho : fd.offset = o) (hN : o < N) (w : World) :
    (Instr.field T (.agg (vls N f)) i).run P w = .ok (f o) w := by
  subst hty ho
  simp only [Instr.field, Sem.run_bind, run_underlying hT w, Result.andThen_ok, hf, asAgg, Sem.run_pure]
  exact run_part_one he hd _ _ _ (vls_get _ hN) w

theorem run_index_vls {T e : TypeId} {d : TypeDesc} {n : Nat} (hT : P.underlying T = some (.array n e)) (he : P.underlying e = some d) (hd : (match d with | .struct _ | .array _ _ => true | _ => false) = false)
    (hi : (P.info? e).map (·.size) = some 1) (N : Nat) (f : Nat → Value) (k : Nat) (hk : k < n) (hN : k < N) (w : World) :
    (Instr.index T (.agg (vls N f)) (.int .i64 (k : Int))).run P w = .ok (f k) w := by
  cases hq : P.info? e with
  | none => rw [hq] at hi; cases hi
  | some i =>
    rw [hq] at hi
    exact run_index_arr hT he hd hq (by simpa using hi) _ k hk _ (vls_get f hN) w
end

/-! Parts of a block. -/
section
variable {w w' : World} {g n : Nat} {f : Nat → Value} {T : TypeId}
theorem vAt.range (h : vAt w g n f T) (o m : Nat) (hm : o + m ≤ n) : w.rangeAt g o (vls m fun j => f (o + j)).toList := by
  intro j v hv
  rw [Array.getElem?_toList] at hv
  have hj : j < m := by
    by_cases hj : j < m
    · exact hj
    · rw [vls_none _ (by omega)] at hv; cases hv
  rw [vls_get _ hj] at hv
  rw [h.cell (by omega), hv]
theorem vAt.there (h : vAt w g n f T) (o m : Nat) (hm : o + m ≤ n) : w.there g o m := fun j hj => ⟨by rw [h.cell (k := o + j) (by omega)]; rfl, h.frozen _⟩

/-- The places from o on as d has them, m of them; the others as f. -/
def updR (f : Nat → Value) (o m : Nat) (d : Nat → Value) : Nat → Value := fun i => if o ≤ i ∧ i < o + m then d (i - o) else f i

theorem vAt.setCells : ∀ (vs : List Value) {w : World} {f : Nat → Value} (_ : vAt w g n f T) (o : Nat), vAt (w.setCells g o vs) g n (fun i => if o ≤ i then (vs[i - o]?).getD (f i) else f i) T
  | [], w, f, h, o => by
    rw [World.setCells]
    exact h.ext fun i _ => by simp
  | v :: r, w, f, h, o => by
    rw [World.setCells]
    refine (vAt.setCells r (h.set o v) (o + 1)).ext fun i _ => ?_
    unfold updV
    by_cases h1 : o + 1 ≤ i
    · have e1 : ¬ i = o := by omega
      have e2 : o ≤ i := by omega
      have : i - o = (i - (o + 1)) + 1 := by omega
      simp only [if_pos h1, if_neg e1, if_pos e2, this, List.getElem?_cons_succ]
    · simp only [if_neg h1]
      by_cases h2 : i = o
      · subst h2
        simp
      · have e2 : ¬ o ≤ i := by omega
        simp only [if_neg h2, if_neg e2]
theorem vAt.setPart (h : vAt w g n f T) (o m : Nat) (d : Nat → Value) : vAt (w.setCells g o (vls m d).toList) g n (updR f o m d) T := by
  refine (vAt.setCells (vls m d).toList h o).ext fun i _ => ?_
  unfold updR
  by_cases h1 : o ≤ i
  · rw [if_pos h1]
    by_cases h2 : i < o + m
    · rw [if_pos ⟨h1, h2⟩, Array.getElem?_toList, vls_get _ (by omega)]; rfl
    · rw [if_neg (fun x => h2 x.2), Array.getElem?_toList, vls_none _ (by omega)]; rfl
  · rw [if_neg h1, if_neg (fun x => h1 x.1)]
theorem heap_setCells_other (g k : Nat) (hk : k ≠ g) : ∀ (vs : List Value) (o : Nat) (w : World), (w.setCells g o vs).heap[k]? = w.heap[k]?
  | [], _, _ => rfl
  | v :: r, o, w => by
    rw [World.setCells, heap_setCells_other g k hk r (o + 1) _]
    exact heap_setCell_other w _ k v hk
theorem vAt.setPartOther (h : vAt w g n f T) {k : Nat} (hk : g ≠ k) (o : Nat) (vs : List Value) : vAt (w.setCells k o vs) g n f T := by
  unfold vAt
  rw [heap_setCells_other k g hk]
  exact h
theorem below_cells {B : Nat} {w0 : World} (hg : B ≤ g) : ∀ (vs : List Value) (o : Nat) {w : World} (_ : Below B w0 w), Below B w0 (w.setCells g o vs)
  | [], _, _, h => h
  | v :: r, o, w, h => by
    rw [World.setCells]
    exact below_cells hg r (o + 1) (h.setCell (p := ⟨g, o, none⟩) hg v)
end

section
variable {P : Program}
/-- A part of a block, loaded. -/
theorem wpList_load_part {ops : Array Oper} {rest : List Oper} {op : Oper} {a : Act} {w : World} {Q : Exit → Act → World → Prop} (hgd : op.guard = none) (ty : TypeId) (x : Operand) (ho : op.op = .load ty x)
    (b o : Nat) (hx : a.eval x = .pointer (some ⟨b, o, none⟩)) (n : Nat) (f : Nat → Value) (T : TypeId) (hv : vAt w b n f T) (m : Nat) (hm : o + m ≤ n) (d : TypeDesc)
    (hu : P.underlying ty = some d) (hd : (match d with | .struct _ | .array _ _ => true | _ => false) = true) (hi : (P.info? ty).map (·.size) = some m)
    (h : wpList P ops Q rest (a.put op.dst (.agg (vls m fun j => f (o + j)))) w) : wpList P ops Q (op :: rest) a w := by
  refine wpList_load_mid hgd ty x ho b o hx (vls m fun j => f (o + j)).toList d (hv.range o m hm) hu (by cases d <;> simp_all [TypeDesc.isRow]) (by simpa using hi) ?_
  simpa using h
/-- A part of a block, stored. -/
theorem wpList_store_part {ops : Array Oper} {rest : List Oper} {op : Oper} {a : Act} {w : World} {Q : Exit → Act → World → Prop} (hgd : op.guard = none) (ty : TypeId) (x y : Operand) (ho : op.op = .store ty x y)
    (b o : Nat) (m : Nat) (d : Nat → Value) (hx : a.eval x = .pointer (some ⟨b, o, none⟩)) (hy : a.eval y = .agg (vls m d)) (n : Nat) (f : Nat → Value) (T : TypeId) (hv : vAt w b n f T) (hm : o + m ≤ n)
    (hi : (P.info? ty).map (·.size) = some m) (h1 : ∀ i, (d i).oneCell' = true)
    (h : wpList P ops Q rest (a.put op.dst undef) (w.setCells b o (vls m d).toList)) : wpList P ops Q (op :: rest) a w :=
  wpList_store_mid hgd ty x y ho b o (vls m d) hx hy (by rw [vls_size]; exact hv.there o m hm) (by simpa using hi) (vls_one h1) h
end

/-! A value that came in: n cells, each of one type. -/
theorem vls_of_array {cs : Array Value} {n : Nat} (hs : cs.size = n) : cs = vls n fun i => cs[i]?.getD undef := by
  apply Array.ext_getElem?
  intro i
  by_cases hi : i < n
  · rw [vls_get _ hi, Array.getElem?_eq_getElem (by omega)]; rfl
  · rw [vls_none _ (by omega), Array.getElem?_eq_none (by omega)]
def inI64 (n : Int) : Prop := -9223372036854775808 ≤ n ∧ n ≤ 9223372036854775807
theorem open_cells {P : Program} {w : World} {r : Reach} {b0 : Nat} {t e : TypeId} {v : Value} {d : TypeDesc} {n : Nat} (ht : P.underlying t = some d) (hd : (match d with | .struct _ | .array _ _ => true | _ => false) = true)
    (hc : P.cellsOf t = n) (hct : P.cellTypes P.depth t = some (List.replicate n e)) (h : Value.okWide P w r b0 t v) :
    ∃ f : Nat → Value, v = .agg (vls n f) ∧ ∀ i, i < n → Cell.okWide P w r b0 e (f i) := by
  have h' : ∃ cs, v = .agg cs ∧ cs.size = n ∧ ∃ ts, P.cellTypes P.depth t = some ts ∧ (∃ k, cs.size = k * ts.length) ∧ ∀ (i : Nat) c, cs[i]? = some c → ∃ u, ts[i % ts.length]? = some u ∧ Cell.okWide P w r b0 u c := by
    cases d <;> simp only [Value.okWide, ht] at h <;> first | (cases hd; done) | (obtain ⟨cs, e, hsz, hr⟩ := h; exact ⟨cs, e, by rw [hsz, hc], hr⟩)
  obtain ⟨cs, rfl, hsz, ts, h1, _, h3⟩ := h'
  rw [hct] at h1
  obtain rfl := Option.some.inj h1
  refine ⟨fun i => cs[i]?.getD undef, by rw [← vls_of_array hsz], fun i hi => ?_⟩
  have hv : cs[i]? = some (cs[i]'(by omega)) := Array.getElem?_eq_getElem (by omega)
  obtain ⟨u, hu, hok⟩ := h3 i _ hv
  have : u = e := by
    rw [List.length_replicate, Nat.mod_eq_of_lt hi, List.getElem?_replicate, if_pos hi] at hu
    exact (Option.some.inj hu).symm
  subst this
  simpa [hv] using hok
theorem cell_i64 {P : Program} {w : World} {r : Reach} {b0 : Nat} {e : TypeId} {v : Value} (he : P.underlying e = some (.int .i64)) (h : Cell.okWide P w r b0 e v) : ∃ n, v = .int .i64 n ∧ inI64 n := by
  unfold Cell.okWide at h
  rw [he] at h
  cases v <;> simp [Cell.ok, he] at h
  obtain ⟨rfl, hb⟩ := h
  exact ⟨_, rfl, by simpa [IntKind.has, IntKind.min, IntKind.max, IntKind.signed, IntKind.bits, inI64] using hb⟩
theorem cell_f32 {P : Program} {w : World} {r : Reach} {b0 : Nat} {e : TypeId} {v : Value} (he : P.underlying e = some (.float .f32)) (h : Cell.okWide P w r b0 e v) : ∃ b, v = .float .f32 b ∧ b < 4294967296 := by
  unfold Cell.okWide at h
  rw [he] at h
  cases v <;> simp [Cell.ok, he] at h
  obtain ⟨rfl, hb⟩ := h
  exact ⟨_, rfl, by simpa [FloatKind.has] using hb⟩
def flw (c : Nat → Nat) : Nat → Value := fun i => .float .f32 (c i)
theorem open_ints {P : Program} {w : World} {r : Reach} {b0 : Nat} {t e : TypeId} {v : Value} {d : TypeDesc} {n : Nat} (ht : P.underlying t = some d) (hd : (match d with | .struct _ | .array _ _ => true | _ => false) = true) (he : P.underlying e = some (.int .i64))
    (hc : P.cellsOf t = n) (hct : P.cellTypes P.depth t = some (List.replicate n e)) (h : Value.okWide P w r b0 t v) :
    ∃ b : Nat → Int, v = .agg (vls n (ilw b)) ∧ ∀ i, i < n → inI64 (b i) := by
  obtain ⟨f, rfl, hf⟩ := open_cells ht hd hc hct h
  refine ⟨fun i => match f i with | .int _ n => n | _ => 0, ?_, fun i hi => ?_⟩
  · congr 1
    apply vls_ext
    intro i hi
    obtain ⟨n, hn, _⟩ := cell_i64 he (hf i hi)
    simp [ilw, hn]
  · obtain ⟨n, hn, hb⟩ := cell_i64 he (hf i hi)
    simpa [hn] using hb
theorem open_floats {P : Program} {w : World} {r : Reach} {b0 : Nat} {t e : TypeId} {v : Value} {d : TypeDesc} {n : Nat} (ht : P.underlying t = some d) (hd : (match d with | .struct _ | .array _ _ => true | _ => false) = true) (he : P.underlying e = some (.float .f32))
    (hc : P.cellsOf t = n) (hct : P.cellTypes P.depth t = some (List.replicate n e)) (h : Value.okWide P w r b0 t v) :
    ∃ c : Nat → Nat, v = .agg (vls n (flw c)) ∧ ∀ i, i < n → c i < 4294967296 := by
  obtain ⟨f, rfl, hf⟩ := open_cells ht hd hc hct h
  refine ⟨fun i => match f i with | .float _ n => n | _ => 0, ?_, fun i hi => ?_⟩
  · congr 1
    apply vls_ext
    intro i hi
    obtain ⟨n, hn, _⟩ := cell_f32 he (hf i hi)
    simp [flw, hn]
  · obtain ⟨n, hn, hb⟩ := cell_f32 he (hf i hi)
    simpa [hn] using hb
end Go.Fl
namespace Go.Fl
open Ieee Go Go.RowKit
theorem fint_amt {n : Int} (h0 : 0 ≤ n) (h1 : n ≤ 1000000000) : amtB (floatOfInt .f32 n) = true := by
  obtain ⟨m, rfl⟩ := Int.eq_ofNat_of_zero_le h0
  have e : floatOfInt .f32 (m : Int) = S.nearest false m (-149 + 149) := by
    have hd : decide ((m : Int) < 0) = false := by simp
    show S.nearest (decide ((m : Int) < 0)) _ _ = _
    rw [hd]
    rfl
  rw [e]
  have hm := nearest_mono (m := m) (m' := 1000000000) (E := 149) (E' := 149) 0 0 (by omega) (by omega)
  have hk : S.nearest false 1000000000 (-149 + 149) = 1315859240 := by decide +kernel
  rw [hk] at hm
  exact amtB_iff.2 (by rw [INF_val]; omega)
end Go.Fl
/- Boxes and pairs of whole droplets: blocks of whole numbers, stores and loads of parts, what two droplets make. No program. -/
namespace Go.Fl
open Ieee Go Go.RowKit
/-- The first m cells of a block, loaded. -/
theorem wpList_load_head {P : Program} {ops : Array Oper} {rest : List Oper} {op : Oper} {a : Act} {w : World} {Q : Exit → Act → World → Prop} (hgd : op.guard = none) (ty : TypeId) (x : Operand) (ho : op.op = .load ty x)
    (b : Nat) (hx : a.eval x = .pointer (some ⟨b, 0, none⟩)) (n : Nat) (f : Nat → Value) (T : TypeId) (hv : vAt w b n f T) (m : Nat) (hm : m ≤ n) (d : TypeDesc)
    (hu : P.underlying ty = some d) (hd : (match d with | .struct _ | .array _ _ => true | _ => false) = true) (hi : (P.info? ty).map (·.size) = some m)
    (h : wpList P ops Q rest (a.put op.dst (.agg (vls m f))) w) : wpList P ops Q (op :: rest) a w := by
  refine wpList_load_part hgd ty x ho b 0 hx n f T hv m (by omega) d hu hd hi ?_
  have e : (vls m fun j => f (0 + j)) = vls m f := vls_ext fun i _ => by rw [Nat.zero_add]
  rw [e]
  exact h
end Go.Fl
namespace Go.Fl
open Ieee Go Go.RowKit
@[go_sem] theorem zeros21i : (#[Value.int .i64 0, Value.int .i64 0, Value.int .i64 0, Value.int .i64 0, Value.int .i64 0, Value.int .i64 0, Value.int .i64 0, Value.int .i64 0, Value.int .i64 0, Value.int .i64 0,
    Value.int .i64 0, Value.int .i64 0, Value.int .i64 0, Value.int .i64 0, Value.int .i64 0, Value.int .i64 0, Value.int .i64 0, Value.int .i64 0, Value.int .i64 0, Value.int .i64 0, Value.int .i64 0] : Array Value) = vls 21 (ilw fun _ => 0) := by
  apply Array.ext_getElem?
  intro i
  by_cases hi : i < 21
  · rw [vls_get _ hi]
    rcases i with _ | _ | _ | _ | _ | _ | _ | _ | _ | _ | _ | _ | _ | _ | _ | _ | _ | _ | _ | _ | _ | i <;> first | rfl | omega
  · rw [vls_none _ (by omega), Array.getElem?_eq_none]
    simp; omega
@[go_sem] theorem zeros20i : (#[Value.int .i64 0, Value.int .i64 0, Value.int .i64 0, Value.int .i64 0, Value.int .i64 0, Value.int .i64 0, Value.int .i64 0, Value.int .i64 0, Value.int .i64 0, Value.int .i64 0,
    Value.int .i64 0, Value.int .i64 0, Value.int .i64 0, Value.int .i64 0, Value.int .i64 0, Value.int .i64 0, Value.int .i64 0, Value.int .i64 0, Value.int .i64 0, Value.int .i64 0] : Array Value) = vls 20 (ilw fun _ => 0) := by
  apply Array.ext_getElem?
  intro i
  by_cases hi : i < 20
  · rw [vls_get _ hi]
    rcases i with _ | _ | _ | _ | _ | _ | _ | _ | _ | _ | _ | _ | _ | _ | _ | _ | _ | _ | _ | _ | i <;> first | rfl | omega
  · rw [vls_none _ (by omega), Array.getElem?_eq_none]
    simp; omega
theorem vAt.icell {w : World} {g n : Nat} {b : Nat → Int} {T : TypeId} (h : vAt w g n (ilw b) T) {k : Nat} (hk : k < n) : w.cell? ⟨g, k, none⟩ = some (.int .i64 (b k)) := h.cell hk
theorem ilw_one (b : Nat → Int) : ∀ i, (ilw b i).oneCell' = true := fun _ => rfl
end Go.Fl
namespace Go.Fl
open Ieee Go Go.RowKit
/-- A store into the first m cells of a block: the world behind it under a name of its own. -/
theorem wpList_store_head {P : Program} {ops : Array Oper} {rest : List Oper} {op : Oper} {a : Act} {w : World} {Q : Exit → Act → World → Prop} (hgd : op.guard = none) (ty : TypeId) (x y : Operand) (ho : op.op = .store ty x y)
    (b : Nat) (m : Nat) (d : Nat → Value) (hx : a.eval x = .pointer (some ⟨b, 0, none⟩)) (hy : a.eval y = .agg (vls m d)) (n : Nat) (f : Nat → Value) (T : TypeId) (hv : vAt w b n f T) (hm : m ≤ n)
    (hi : (P.info? ty).map (·.size) = some m) (h1 : ∀ i, (d i).oneCell' = true)
    (h : ∀ w', w' = w.setCells b 0 (vls m d).toList → wpList P ops Q rest (a.put op.dst undef) w') : wpList P ops Q (op :: rest) a w :=
  wpList_store_part hgd ty x y ho b 0 m d hx hy n f T hv (by omega) hi h1 (h _ rfl)
theorem updR_zero (f : Nat → Value) (m : Nat) (d : Nat → Value) (i : Nat) : updR f 0 m d i = prtV d f m i := by
  unfold updR prtV
  by_cases h : i < m
  · rw [if_pos ⟨Nat.zero_le _, by omega⟩, if_pos h, Nat.sub_zero]
  · rw [if_neg (fun x => h (by omega)), if_neg h]
end Go.Fl
namespace Go.Fl
open Ieee Go Go.RowKit
theorem stayB {w w' : World} {g : Nat} {o : Obj} (h : w.heap[g]? = some o) (hb : Below w.heap.size w w') : w'.heap[g]? = some o := by
  rw [hb.block g (lt_of_block h)]; exact h
theorem allocB {w : World} {g : Nat} {o : Obj} (h : w.heap[g]? = some o) (o' : Obj) : (w.alloc o').heap[g]? = some o := by
  rw [Below.heap_alloc w o' g (lt_of_block h)]; exact h
theorem rowOther {w : World} {g : Nat} {o : Obj} (h : w.heap[g]? = some o) {k : Nat} (hk : g ≠ k) (cs : Array Value) : (w.setRow k cs).heap[g]? = some o := by
  rw [setRow_other w k g cs hk]; exact h
theorem flw_one (b : Nat → Nat) : ∀ i, (flw b i).oneCell' = true := fun _ => rfl
end Go.Fl
namespace Go.Fl
open Ieee Go Go.RowKit
def updI (b : Nat → Int) (k : Nat) (x : Int) : Nat → Int := fun i => if i = k then x else b i
theorem updI_v (b : Nat → Int) (k : Nat) (x : Int) (i : Nat) : updV (ilw b) k (.int .i64 x) i = ilw (updI b k x) i := by
  unfold updV ilw updI
  by_cases h : i = k
  · rw [if_pos h, if_pos h]
  · rw [if_neg h, if_neg h]
theorem vAt.iset {w : World} {g n : Nat} {b : Nat → Int} {T : TypeId} (h : vAt w g n (ilw b) T) (k : Nat) (x : Int) : vAt (w.setCell ⟨g, k, none⟩ (.int .i64 x)) g n (ilw (updI b k x)) T :=
  (h.set k _).ext fun i _ => updI_v b k x i
end Go.Fl
namespace Go.Fl
open Ieee Go Go.RowKit
def kl (i j : Nat) : Nat := if i = j then (if i = 19 then 19 else i + 1) else max i j
theorem kl_lt {i j : Nat} (hi : i < 20) (hj : j < 20) : kl i j < 20 := by unfold kl; split <;> (try split) <;> omega
def ms (i j : Nat) : Int := (2 : Int) ^ i + (2 : Int) ^ j
def wm (i j : Nat) : Nat := floatOfInt .f32 (ms i j)
theorem wm_all : ((List.range 20).all fun i => (List.range 20).all fun j => amtB (wm i j) && decide (ONE ≤ wm i j) && (forF (wm i j) == kl i j) && decide ((2 : Int) ^ kl i j ≤ ms i j) && decide (ms i j ≤ 1048576) && (kl i j == 19 || decide (ms i j < (2 : Int) ^ (kl i j + 1)))) = true := by decide +kernel
theorem wm_facts {i j : Nat} (hi : i < 20) (hj : j < 20) : amtB (wm i j) = true ∧ ONE ≤ wm i j ∧ forF (wm i j) = kl i j ∧ (2 : Int) ^ kl i j ≤ ms i j ∧ ms i j ≤ 1048576 ∧ (kl i j = 19 ∨ ms i j < (2 : Int) ^ (kl i j + 1)) := by
  have h1 := List.all_eq_true.1 wm_all i (List.mem_range.2 hi)
  have h := List.all_eq_true.1 h1 j (List.mem_range.2 hj)
  simp only [Bool.and_eq_true, decide_eq_true_eq, beq_iff_eq, Bool.or_eq_true] at h
  obtain ⟨⟨⟨⟨⟨a, b⟩, c⟩, d⟩, e⟩, f⟩ := h
  exact ⟨a, b, c, d, e, f⟩
/-- Two droplets taken away. -/
def tk1 (b : Nat → Int) (i : Nat) : Nat → Int := updI b i (b i - 1)
def tk2 (b : Nat → Int) (i j : Nat) : Nat → Int := updI (tk1 b i) j (tk1 b i j - 1)
/-- One that comes, and the dust. -/
def tk3 (b : Nat → Int) (i j : Nat) : Nat → Int := updI (tk2 b i j) (kl i j) (tk2 b i j (kl i j) + 1)
def tk4 (b : Nat → Int) (i j : Nat) : Nat → Int := updI (tk3 b i j) 20 (tk3 b i j 20 + (ms i j - (2 : Int) ^ kl i j))
end Go.Fl
/- How fast droplets fall: closed facts at twenty classes. No program. -/
namespace Go.Fl
open Ieee Go Go.RowKit
def fallD (r : Nat) : Nat := fadd 1065353216 (fmul 1056964608 r)
@[irreducible] def fall (k : Nat) : Nat := fdiv (fmul (rad k) (rad k)) (fallD (rad k))
def fallB (k : Nat) : Bool := amtB (fmul (rad k) (rad k)) && amtB (fmul 1056964608 (rad k)) && amtB (fallD (rad k)) && (fallD (rad k) != 0) && amtB (fall k)
theorem fall_all : ((List.range 20).all fallB) = true := by decide +kernel
theorem fall_facts {k : Nat} (hk : k < 20) : amtB (fmul (rad k) (rad k)) = true ∧ amtB (fmul 1056964608 (rad k)) = true ∧ amtB (fallD (rad k)) = true ∧ fallD (rad k) ≠ 0 ∧ amtB (fall k) = true := by
  have h := List.all_eq_true.1 fall_all k (List.mem_range.2 hk)
  simp only [fallB, Bool.and_eq_true, bne_iff_ne] at h
  obtain ⟨⟨⟨⟨a, b⟩, c⟩, d⟩, e⟩ := h
  exact ⟨a, b, c, d, e⟩
theorem fall_is (k : Nat) : fdiv (fmul (rad k) (rad k)) (fadd 1065353216 (fmul 1056964608 (rad k))) = fall k := by unfold fall fallD; rfl
end Go.Fl
/- Kernels: four hundred singles, row by row. No program. -/
namespace Go.Fl
open Ieee Go Go.RowKit

def rowK (c : Nat → Nat) (k : Nat) : Nat → Nat := fun j => c (k * 20 + j)
theorem fls_flw (c : Nat → Nat) : fls c = vls 20 (flw c) := rfl
theorem row_is (c : Nat → Nat) (k : Nat) : (vls 20 fun j => flw c (k * 20 + j)) = fls (rowK c k) := rfl
/-- The first k rows as d has them, the others as c. -/
def rowsP (d c : Nat → Nat) (k : Nat) : Nat → Nat := fun i => if i < k * 20 then d i else c i
theorem rowsP_zero (d c : Nat → Nat) (i : Nat) : rowsP d c 0 i = c i := by simp [rowsP]
theorem rowsP_all (d c : Nat → Nat) (i : Nat) (h : i < 400) : rowsP d c 20 i = d i := if_pos h
theorem rowsP_row (d c : Nat → Nat) (k i : Nat) (_ : i < 400) : updR (flw (rowsP d c k)) (k * 20) 20 (flw (rowK d k)) i = flw (rowsP d c (k + 1)) i := by
  unfold updR flw rowsP rowK
  by_cases h1 : k * 20 ≤ i ∧ i < k * 20 + 20
  · rw [if_pos h1]
    have e : k * 20 + (i - k * 20) = i := by omega
    simp only [e]
    rw [if_pos (by omega)]
  · rw [if_neg h1]
    by_cases h2 : i < k * 20
    · rw [if_pos h2, if_pos (by omega)]
    · rw [if_neg h2, if_neg (by omega)]
/-- The first n places as d has them, the others as c. -/
theorem flw_upd (c : Nat → Nat) (k x i : Nat) : updV (flw c) k (.float .f32 x) i = flw (upd c k x) i := by
  unfold updV flw upd
  by_cases h : i = k
  · rw [if_pos h, if_pos h]
  · rw [if_neg h, if_neg h]
theorem vAt.fcell {w : World} {g n : Nat} {c : Nat → Nat} {T : TypeId} (h : vAt w g n (flw c) T) {k : Nat} (hk : k < n) : w.cell? ⟨g, k, none⟩ = some (.float .f32 (c k)) := h.cell hk
theorem vAt.fset {w : World} {g n : Nat} {c : Nat → Nat} {T : TypeId} (h : vAt w g n (flw c) T) (k x : Nat) : vAt (w.setCell ⟨g, k, none⟩ (.float .f32 x)) g n (flw (upd c k x)) T :=
  (h.set k _).ext fun i _ => flw_upd c k x i
theorem vAt.arr {w : World} {g : Nat} {c : Nat → Nat} {T : TypeId} (h : arrAt w g c T) : vAt w g 20 (flw c) T := h
/-- Which place is reached after i rows and j more. -/
theorem prt_step (f c : Nat → Nat) (k : Nat) : ∀ i, upd (prt f c k) k (f k) i = prt f c (k + 1) i := part_succ f c k

section
variable {P : Program}
theorem wpList_load_krow {ops : Array Oper} {rest : List Oper} {op : Oper} {a : Act} {w : World} {Q : Exit → Act → World → Prop} (hgd : op.guard = none) (ty : TypeId) (x : Operand) (ho : op.op = .load ty x)
    (b k : Nat) (hx : a.eval x = .pointer (some ⟨b, k * 20, none⟩)) (c : Nat → Nat) (T : TypeId) (hv : vAt w b 400 (flw c) T) (hk : k < 20) (d : TypeDesc)
    (hu : P.underlying ty = some d) (hd : (match d with | .struct _ | .array _ _ => true | _ => false) = true) (hi : (P.info? ty).map (·.size) = some 20)
    (h : wpList P ops Q rest (a.put op.dst (.agg (fls (rowK c k)))) w) : wpList P ops Q (op :: rest) a w :=
  wpList_load_part hgd ty x ho b (k * 20) hx 400 (flw c) T hv 20 (by omega) d hu hd hi h
theorem wpList_store_krow {ops : Array Oper} {rest : List Oper} {op : Oper} {a : Act} {w : World} {Q : Exit → Act → World → Prop} (hgd : op.guard = none) (ty : TypeId) (x y : Operand) (ho : op.op = .store ty x y)
    (b k : Nat) (d : Nat → Nat) (hx : a.eval x = .pointer (some ⟨b, k * 20, none⟩)) (hy : a.eval y = .agg (fls d)) (c : Nat → Nat) (T : TypeId) (hv : vAt w b 400 (flw c) T) (hk : k < 20)
    (hi : (P.info? ty).map (·.size) = some 20)
    (h : ∀ w', w' = w.setCells b (k * 20) (fls d).toList → wpList P ops Q rest (a.put op.dst undef) w') : wpList P ops Q (op :: rest) a w :=
  wpList_store_part hgd ty x y ho b (k * 20) 20 (flw d) hx hy 400 (flw c) T hv (by omega) hi (flw_one d) (h _ rfl)
end
theorem vAt.krow {P : Program} {w : World} {g k : Nat} {c : Nat → Nat} {T ty : TypeId} {d : TypeDesc} (h : vAt w g 400 (flw c) T) (hk : k < 20) (hu : P.underlying ty = some d) (hd : (match d with | .struct _ | .array _ _ => true | _ => false) = true) (hi : (P.info? ty).map (·.size) = some 20) :
    (loadVar ty ⟨g, k * 20, none⟩).run P w = .ok (.agg (fls (rowK c k))) w := by
  have := run_loadVar_mid (P := P) w g (k * 20) ty (fls (rowK c k)).toList d (h.range (k * 20) 20 (by omega)) hu (by cases d <;> simp_all [TypeDesc.isRow]) (by simpa using hi)
  simpa using this
theorem vAt.krowAt {P : Program} {w : World} {g k : Nat} {c : Nat → Nat} {T ty : TypeId} {d : TypeDesc} (h : vAt w g 400 (flw c) T) (hk : k < 20) (hu : P.underlying ty = some d) (hd : (match d with | .struct _ | .array _ _ => true | _ => false) = true) (hi : (P.info? ty).map (·.size) = some 20) :
    (Instr.loadAt ty (.pointer (some ⟨g, k * 20, none⟩))).run P w = .ok (.agg (fls (rowK c k))) w := by
  simp only [Instr.loadAt, Instr.sureAddr, Sem.run_bind, Sem.run_pure, Result.andThen_ok, h.krow hk hu hd hi]
theorem vAt.setKRow {w : World} {g : Nat} {d c : Nat → Nat} {k : Nat} {T : TypeId} (h : vAt w g 400 (flw (rowsP d c k)) T) : vAt (w.setCells g (k * 20) (fls (rowK d k)).toList) g 400 (flw (rowsP d c (k + 1))) T :=
  (h.setPart (k * 20) 20 (flw (rowK d k))).ext fun i hi => rowsP_row d c k i hi
end Go.Fl
namespace Go.Fl
open Go Go.RowKit
theorem still_load {P : Program} {ops : Array Oper} {w : World} {Q : Act → Prop} {a : Act} {o : Oper} {rest : List Oper} (hgd : o.guard = none) (ty : TypeId) (x : Operand) (hop : o.op = .load ty x) (p : Value) (hx : a.eval x = p) (v : Value)
    (hl : (Instr.loadAt ty p).run P w = .ok v w) (h : wpStill P ops w Q rest (a.put o.dst v)) : wpStill P ops w Q (o :: rest) a := by
  refine wpStill_step fun K hK => ?_
  have hw : Region.wanted o (yielded ops a.tmps) = true := by simp [Region.wanted, hgd]
  rw [if_pos hw]
  unfold Oper.still execOp
  simp only [hop, hx, Sem.run_bind, hl, Result.andThen_ok]
  exact ⟨rfl, hK _ h⟩
end Go.Fl
/- A region that draws its order and ends by a store of one single into a block of singles. No program. -/
namespace Go.Fl
open Go Go.RowKit
theorem Kept.fcell {w0 w : World} {l : List (Nat × Array Value × TypeId)} {g n : Nat} {c : Nat → Nat} {T : TypeId} (k : Kept w0 ((g, vls n (flw c), T) :: l) w) (hB : w0.heap.size ≤ g) (hne : ∀ x ∈ l, x.1 ≠ g) (i v : Nat) :
    Kept w0 ((g, vls n (flw (upd c i v)), T) :: l) (w.setCell ⟨g, i, none⟩ (.float .f32 v)) := by
  refine ⟨k.1.setCell (p := ⟨g, i, none⟩) hB _, fun x hx => ?_⟩
  rcases List.mem_cons.1 hx with rfl | hx
  · exact vAt.fset (k.at (x := (g, vls n (flw c), T)) (by simp)) i v
  · rw [Below.heap_setCell _ _ _ _ (hne x hx)]
    exact k.at (List.mem_cons_of_mem _ hx)
theorem run_storeVar_f32 {P : Program} {ty : TypeId} (hi : (P.info? ty).map (·.size) = some 1) {w : World} {g n : Nat} {c : Nat → Nat} {T : TypeId} (h : vAt w g n (flw c) T) (o v : Nat) (ho : o < n) :
    (storeVar ty ⟨g, o, none⟩ (.float .f32 v)).run P w = .ok () (w.setCell ⟨g, o, none⟩ (.float .f32 v)) := by
  cases hq : P.info? ty with
  | none => rw [hq] at hi; cases hi
  | some i =>
    rw [hq] at hi
    have hs : i.size = 1 := by simpa using hi
    have hc := h.fcell ho
    have hf := h.frozen o
    have ha : (⟨g, o, none⟩ : Addr).add 0 = ⟨g, o, none⟩ := by rw [Addr.add_mid]; rfl
    simp [storeVar, sizeOf, typeInfo, hq, hs, Value.cells, storeCells, ha, run_store_float, stored, hc, hf, Sem.run_bind]
section
variable {P : Program} {ops : Array Oper} {Q : Exit → Act → World → Prop} {md : Region.Mode} {S : World → Prop}
variable {w0 : World} {l : List (Nat × Array Value × TypeId)} {fuel : Nat} {listed : Array Bool} {a : Act} {w : World} {rs : List Nat}
variable {d : Option Tmp} {op : Op} {ty0 : TypeId} {ps : String} {af : Array Edge} {gd : Option (Nat × Bool)}
theorem storeCellK (i : Nat) (listed' : Array Bool) {g n : Nat} {c : Nat → Nat} {T : TypeId} (k : Kept w0 ((g, vls n (flw c), T) :: l) w) (hB : w0.heap.size ≤ g) (hne : ∀ x ∈ l, x.1 ≠ g) (ho : ops[i]? = some ⟨d, op, ty0, ps, af, gd⟩) (hw : Region.wanted ⟨d, op, ty0, ps, af, gd⟩ (yielded ops a.tmps) = true)
    (ty : TypeId) (x y : Operand) (hop : op = .store ty x y) (o v : Nat) (hon : o < n) (hx : a.eval x = .pointer (some ⟨g, o, none⟩)) (hy : a.eval y = .float .f32 v)
    (hi : (P.info? ty).map (·.size) = some 1) (hl : listed.setIfInBounds i true = listed')
    (hn : ∀ w', Kept w0 ((g, vls n (flw (upd c o v)), T) :: l) w' → S w' ∧ wpAnyH P md ops Q S fuel listed' (a.put d undef) w')
    (hs : AllReadyH P md ops Q S fuel listed a w rs) : AllReadyH P md ops Q S fuel listed a w (i :: rs) := by
  subst hl
  refine AllReadyH.cons ho (fun K' hK => ?_) hs
  rw [if_pos hw]
  have hv : vAt w g n (flw c) T := k.at (x := (g, vls n (flw c), T)) (by simp)
  have h := hn _ (k.fcell hB hne o v)
  unfold Oper.wp execOp
  simp only [hop, hx, hy, Instr.storeAt, Instr.sureAddr, Sem.run_bind, Sem.run_pure, Result.andThen_ok, run_storeVar_f32 hi hv o v hon]
  exact hK.out _ _ h.1 (fun _ => h.2)
end
end Go.Fl
namespace Go.Fl
open Go Go.RowKit
theorem still_val {P : Program} {ops : Array Oper} {w : World} {Q : Act → Prop} {a : Act} {o : Oper} {rest : List Oper} (hgd : o.guard = none) (v : Value)
    (hl : (execOp a.eval o).run P w = .ok (.value v) w) (h : wpStill P ops w Q rest (a.put o.dst v)) : wpStill P ops w Q (o :: rest) a := by
  refine wpStill_step fun K hK => ?_
  have hw : Region.wanted o (yielded ops a.tmps) = true := by simp [Region.wanted, hgd]
  rw [if_pos hw]
  unfold Oper.still
  rw [hl]
  exact ⟨rfl, hK _ h⟩
end Go.Fl
/- Pairs of falling droplets: closed facts; products with what may be infinite. No program. -/
namespace Go.Fl
open Ieee Go Go.RowKit
def reach (i j : Nat) : Nat := fadd (rad i) (rad j)
def area (i j : Nat) : Nat := fmul (reach i j) (reach i j)
@[irreducible] def dif (i j : Nat) : Nat := (floatBits .sub .f32 (fall i) (fall j)).getD 0
@[irreducible] def apart (i j : Nat) : Nat := dif i j % 2147483648
def pairB (i j : Nat) : Bool := amtB (reach i j) && amtB (area i j) && (floatBits .sub .f32 (fall i) (fall j) == some (dif i j)) && decide (dif i j < 4294967296) && decide (mg (dif i j) < INF) &&
  decide (wid (dif i j) < 18446744073709551616) && (floatToFloatBits .f64 (wid (dif i j) % 9223372036854775808) .f32 == some (apart i j)) && amtB (apart i j) && (apart i j == 0 || floatBits .mul .f32 INF (apart i j) == some INF)
theorem pair_all : ((List.range 20).all fun i => (List.range 20).all fun j => pairB i j) = true := by decide +kernel
structure PairOk (i j : Nat) : Prop where
  reach : amtB (reach i j) = true
  area : amtB (area i j) = true
  dif : floatBits .sub .f32 (fall i) (fall j) = some (dif i j)
  dlt : Go.Fl.dif i j < 4294967296
  dfin : mg (Go.Fl.dif i j) < INF
  wlt : wid (Go.Fl.dif i j) < 18446744073709551616
  back : floatToFloatBits .f64 (wid (Go.Fl.dif i j) % 9223372036854775808) .f32 = some (apart i j)
  apart : amtB (apart i j) = true
  inf : Go.Fl.apart i j = 0 ∨ floatBits .mul .f32 INF (Go.Fl.apart i j) = some INF
theorem pair_ok {i j : Nat} (hi : i < 20) (hj : j < 20) : PairOk i j := by
  have h := List.all_eq_true.1 (List.all_eq_true.1 pair_all i (List.mem_range.2 hi)) j (List.mem_range.2 hj)
  simp only [pairB, Bool.and_eq_true, decide_eq_true_eq, Bool.or_eq_true, beq_iff_eq] at h
  obtain ⟨⟨⟨⟨⟨⟨⟨⟨a, b⟩, c⟩, d⟩, e⟩, f⟩, g⟩, k⟩, l⟩ := h
  exact ⟨a, b, c, d, e, f, g, k, l⟩
theorem apart_is (i j : Nat) : dif i j % 2147483648 = apart i j := by unfold apart; rfl

/-- A product, infinite where the first is. -/
def prod (p d : Nat) : Nat := if amtB p = true then fmul p d else INF
/-- A word that stands for N: the same if N is finite, else not finite. -/
def Fits (N v : Nat) : Prop := v < 4294967296 ∧ (finB N = true → v = N) ∧ (finB N = false → finB v = false)
theorem fits_self {N : Nat} (h : N < 4294967296) : Fits N N := ⟨h, fun _ => rfl, fun h => h⟩
theorem fin_inf : finB INF = false := by decide
theorem prod_nn {p d : Nat} (hd : amtB d = true) : nnB (prod p d) = true := by
  unfold prod
  split
  · next h => exact (mul_eq h hd).2
  · decide
theorem run_prod {P : Program} (t : TypeId) {p d : Nat} (hp : nnB p = true) (hd : amtB d = true) (hi : d = 0 ∨ floatBits .mul .f32 INF d = some INF) (w : World) :
    ∃ v w', (binOp .mul t (.float .f32 p) (.float .f32 d)).run P w = .ok (.float .f32 v) w' ∧ Fits (prod p d) v ∧ (w' = w ∨ w' = w.drew) := by
  by_cases h : amtB p = true
  · refine ⟨fmul p d, w, run_mul t h hd w, ?_, .inl rfl⟩
    rw [show prod p d = fmul p d from if_pos h]
    exact fits_self (nn_lt (mul_eq h hd).2)
  · have hpi : p = INF := by
      rw [nnB_iff] at hp
      rw [amtB_iff] at h
      omega
    subst hpi
    rw [show prod INF d = INF from if_neg h]
    rcases hi with rfl | hi
    · obtain ⟨z, h1, h2, h3⟩ := run_arith_nan (P := P) (w := w) .mul (.inr (.inr (.inl rfl))) t INF 0 (by decide +kernel)
      refine ⟨z, w.drew, h1, ⟨h3, fun hf => absurd hf (by rw [fin_inf]; decide), fun _ => ?_⟩, .inr rfl⟩
      exact finB_iff'.2 (by omega)
    · exact ⟨INF, w, run_float_arith w .mul t .f32 INF d _ hi, fits_self (by decide), .inl rfl⟩
theorem run_dif {P : Program} (t : TypeId) {i j : Nat} (h : PairOk i j) (w : World) : (binOp .sub t (.float .f32 (fall i)) (.float .f32 (fall j))).run P w = .ok (.float .f32 (dif i j)) w :=
  run_float_arith w .sub t .f32 _ _ _ h.dif
end Go.Fl
/- Products with a sign, held between two bounds. No program. -/
namespace Go.Fl
open Ieee Go Go.RowKit
theorem mul_sgr {y t : Nat} (hy : y < 4294967296) (hf : mg y < INF) (ht : t < INF) : S.mul t y = some (sgnW y (fmul t (mg y))) := by
  obtain ⟨m, e, h1, h2⟩ := read_fin hy hf
  obtain ⟨n, k, h3⟩ := read_lt ht
  have e2 : fmul t (mg y) = S.write (.number false (n * m) (k + e)) := by
    unfold fmul Format.mul
    rw [h1, h3]; rfl
  unfold Format.mul
  rw [h2, h3]
  simp only [Datum.product, Option.map_some]
  rw [write_signS, ← e2]
  unfold sgnW
  by_cases h : 2147483648 ≤ y
  · rw [decide_eq_true h, if_pos h]; rfl
  · rw [decide_eq_false h, if_neg h]; rfl
theorem datum_swap (a b : Datum) : a.order b = (b.order a).map Ordering.swap := by
  cases a with
  | nan s t => cases b <;> rfl
  | infinity s => cases b with
    | nan s t => rfl
    | infinity t => cases s <;> cases t <;> rfl
    | number t n j => cases s <;> rfl
  | number s m i => cases b with
    | nan s t => rfl
    | infinity t => cases t <;> rfl
    | number t n j =>
      simp only [Datum.order, Option.map_some]
      rw [Int.min_comm j i, Int.compare_swap]
theorem order_swap (x y : Nat) : S.order x y = (S.order y x).map Ordering.swap := datum_swap _ _
theorem read_pINF : S.read INF = .infinity false := by decide
theorem read_nINF : S.read 4286578688 = .infinity true := by decide
/-- A number that is not negative, or infinite, beside one above 0. -/
theorem ord_pp {q m : Nat} (hq : q ≤ INF) (hm : m < INF) : S.order q m = some (compare q m) := by
  rcases Nat.lt_or_eq_of_le hq with h | rfl
  · exact order_lt h hm
  · obtain ⟨n, k, h3⟩ := read_lt hm
    unfold Format.order
    rw [read_pINF, h3, Nat.compare_eq_gt.2 hm]; rfl
theorem ord_np {q m : Nat} (hq : q ≤ INF) (hm : m < INF) (h0 : 0 < m) : S.order (2147483648 + q) m = some .lt := by
  rcases Nat.lt_or_eq_of_le hq with h | rfl
  · exact order_neg_pos (by rw [INF_val] at h; omega) (finB_iff.2 (by rw [INF_val] at h; rw [INF_val]; unfold mg; omega)) (by omega) h0 hm
  · obtain ⟨n, k, h3⟩ := read_lt hm
    unfold Format.order
    rw [show 2147483648 + INF = 4286578688 from rfl, read_nINF, h3]; rfl
theorem ord_pn {q m : Nat} (hq : q ≤ INF) (hm : m < INF) (h0 : 0 < m) : S.order q (2147483648 + m) = some .gt := by
  rw [order_swap]
  have hm' := hm
  rw [INF_val] at hm'
  have hf : finB (2147483648 + m) = true := finB_iff.2 (by rw [INF_val]; unfold mg; omega)
  rcases Nat.lt_or_eq_of_le hq with h | rfl
  · rcases Nat.eq_zero_or_pos q with rfl | hp
    · rw [order_neg_lt (by omega) hf (by omega)]; rfl
    · rw [order_neg_pos (by omega) hf (by omega) hp h]; rfl
  · obtain ⟨n, k, h1, h2⟩ := read_fin (x := 2147483648 + m) (by omega) (finB_iff.1 hf)
    unfold Format.order
    rw [read_pINF, h2]; rfl
theorem neg_shift (a b : Nat) : compare (-(a : Int)) (-(b : Int)) = compare (b : Int) (a : Int) := by
  rcases Int.lt_trichotomy (a : Int) b with h | h | h
  · rw [Int.compare_eq_gt.2 (by omega), Int.compare_eq_gt.2 (by omega)]
  · rw [h, Int.compare_eq_eq.2 rfl, Int.compare_eq_eq.2 rfl]
  · rw [Int.compare_eq_lt.2 (by omega), Int.compare_eq_lt.2 (by omega)]
theorem ord_nn {q m : Nat} (hq : q ≤ INF) (hm : m < INF) : S.order (2147483648 + q) (2147483648 + m) = some (compare m q) := by
  have hm' := hm
  rw [INF_val] at hm'
  have em : mg (2147483648 + m) = m := by unfold mg; omega
  obtain ⟨n, k, h1, h2⟩ := read_fin (x := 2147483648 + m) (by omega) (by rw [em]; exact hm)
  rw [em] at h1
  rcases Nat.lt_or_eq_of_le hq with h | rfl
  · have h' := h
    rw [INF_val] at h'
    have eq : mg (2147483648 + q) = q := by unfold mg; omega
    obtain ⟨n', k', h3, h4⟩ := read_fin (x := 2147483648 + q) (by omega) (by rw [eq]; exact h)
    rw [eq] at h3
    have ho := order_lt hm h
    unfold Format.order at ho ⊢
    rw [h1, h3] at ho
    rw [h2, h4, decide_eq_true (by omega), decide_eq_true (by omega)]
    simp only [Datum.order, signed, if_true, Bool.false_eq_true, if_false] at ho ⊢
    rw [neg_shift, Int.min_comm k' k, ho]
  · unfold Format.order
    rw [show 2147483648 + INF = 4286578688 from rfl, read_nINF, h2, decide_eq_true (by omega), Nat.compare_eq_lt.2 hm]; rfl
end Go.Fl
/- The share that a class has of a loss: a function of any word. No program. -/
namespace Go.Fl
open Ieee Go Go.RowKit
/-- Which part of a loss l the amount c is enough for. -/
def shareW (c l : Nat) : Nat := if (FloatKind.f32.format.order l c == some .gt) = true then (S.div c l).getD 0 else 1065353216
theorem order_none_gt {c l : Nat} (h : INF < mg l) : (FloatKind.f32.format.order l c == some .gt) = false := by
  rw [show FloatKind.f32.format.order l c = none from order_nan32 h]; rfl
theorem gt_pos {c l : Nat} (hc : amtB c = true) (hl : l < 4294967296) (h : (FloatKind.f32.format.order l c == some .gt) = true) : l ≤ INF ∧ c < l := by
  have hc' := amtB_iff.1 hc
  have hI := hc'
  rw [INF_val] at hI
  by_cases hn : INF < mg l
  · rw [order_none_gt hn] at h; cases h
  have hm : mg l ≤ INF := Nat.le_of_not_lt hn
  have hm' := hm
  rw [INF_val] at hm'
  by_cases hs : 2147483648 ≤ l
  · exfalso
    have e : l = 2147483648 + mg l := by unfold mg; omega
    rcases Nat.eq_zero_or_pos c with rfl | hp
    · rcases Nat.lt_or_eq_of_le hm with h1 | h1
      · have : FloatKind.f32.format.order l 0 = S.order l 0 := rfl
        rcases order_neg_le hl (finB_iff.2 h1) hs with h2 | h2 <;> · rw [this, h2] at h; cases h
      · rw [e, h1] at h
        exact absurd h (by decide +kernel)
    · rw [e, show FloatKind.f32.format.order (2147483648 + mg l) c = some .lt from ord_np hm hc' hp] at h
      cases h
  · have e : l = mg l := by unfold mg; omega
    rw [← e] at hm
    refine ⟨hm, ?_⟩
    rw [show FloatKind.f32.format.order l c = some (compare l c) from ord_pp hm hc'] at h
    rcases Nat.lt_trichotomy l c with h1 | h1 | h1
    · rw [Nat.compare_eq_lt.2 h1] at h; cases h
    · rw [Nat.compare_eq_eq.2 h1] at h; cases h
    · exact h1
theorem div_by_inf {c : Nat} (hc : c < INF) : S.div c INF = some 0 := by
  obtain ⟨m, e, h1⟩ := read_lt hc
  unfold Format.div
  rw [h1, read_pINF]
  simp only [Datum.quotient, Option.map_some]
  decide
theorem share_ok {c l : Nat} (hc : amtB c = true) (hl : l < 4294967296) : (FloatKind.f32.format.order l c == some .gt) = true → S.div c l = some (shareW c l) ∧ nnB (shareW c l) = true := by
  intro h
  obtain ⟨h1, h2⟩ := gt_pos hc hl h
  have hc' := amtB_iff.1 hc
  rw [show shareW c l = (S.div c l).getD 0 from if_pos h]
  rcases Nat.lt_or_eq_of_le h1 with h3 | rfl
  · have hd := div_eq (amt_nn hc) (amtB_iff.2 h3) (by omega)
    rw [hd.1]
    exact ⟨rfl, hd.2⟩
  · rw [div_by_inf hc']
    exact ⟨rfl, by decide⟩
theorem share_none {c l : Nat} (h : (FloatKind.f32.format.order l c == some .gt) = false) : shareW c l = 1065353216 := if_neg (by rw [h]; decide)
end Go.Fl
/- Parcels: three numbers, the last two of them air. No program. -/
namespace Go.Fl
open Go.RowKit

def hgtB (x : Nat) : Bool := amtB x && (S.order x 1106247680 == some .lt || S.order x 1106247680 == some .eq)
def parB (a h v : Nat) : Bool := hgtB a && airB h v
theorem parB_iff {a h v : Nat} : parB a h v = true ↔ hgtB a = true ∧ airB h v = true := by simp [parB]
theorem hgt_amt {x : Nat} (h : hgtB x = true) : amtB x = true := by
  unfold hgtB at h; rw [Bool.and_eq_true] at h; exact h.1

/-- A block of three numbers. -/
def parAt (w : World) (g a h v : Nat) (T : TypeId) : Prop := w.heap[g]? = some (.cells #[.float .f32 a, .float .f32 h, .float .f32 v] T (0, 0))
section
variable {w w' w0 : World} {g a h v : Nat} {T : TypeId} {l : List (Nat × Array Value × TypeId)}
theorem parAt.c0 (k : parAt w g a h v T) : w.cell? ⟨g, 0, none⟩ = some (.float .f32 a) := by rw [cell_of_row w g 0 _ _ _ k]; rfl
theorem parAt.c1 (k : parAt w g a h v T) : w.cell? ⟨g, 1, none⟩ = some (.float .f32 h) := by rw [cell_of_row w g 1 _ _ _ k]; rfl
theorem parAt.c2 (k : parAt w g a h v T) : w.cell? ⟨g, 2, none⟩ = some (.float .f32 v) := by rw [cell_of_row w g 2 _ _ _ k]; rfl
theorem parAt.fz (k : parAt w g a h v T) (i : Nat) : w.frozen? ⟨g, i, none⟩ = false := frozen_of_row w g i _ _ k
theorem parAt.new (w : World) (a h v : Nat) (T : TypeId) : parAt (w.alloc (.cells #[.float .f32 a, .float .f32 h, .float .f32 v] T)) w.heap.size a h v T := heap_alloc_new _ _
theorem parAt.stay (k : parAt w g a h v T) (hb : Below w.heap.size w w') : parAt w' g a h v T := by
  have hl : g < w.heap.size := lt_of_block k
  unfold parAt
  rw [hb.block g hl]; exact k
theorem range_air (k : parAt w g a h v T) : w.rangeAt g 1 [.float .f32 h, .float .f32 v] := by
  intro j x hx
  match j, hx with
  | 0, hx => simp only [List.getElem?_cons_zero, Option.some.injEq] at hx; subst hx; exact k.c1
  | 1, hx => simp only [List.getElem?_cons_succ, List.getElem?_cons_zero, Option.some.injEq] at hx; subst hx; exact k.c2
theorem there_air (k : parAt w g a h v T) : w.there g 1 2 := by
  intro j hj
  have : j = 0 ∨ j = 1 := by omega
  rcases this with rfl | rfl
  · exact ⟨by rw [show 1 + 0 = 1 from rfl, k.c1]; rfl, k.fz _⟩
  · exact ⟨by rw [show 1 + 1 = 2 from rfl, k.c2]; rfl, k.fz _⟩
/-- One cell of a kept block, written. -/
theorem Kept.lcell {cs : Array Value} (k : Kept w0 ((g, cs, T) :: l) w) (hB : w0.heap.size ≤ g) (hne : ∀ x ∈ l, x.1 ≠ g) (i : Nat) (x : Value) : Kept w0 ((g, cs.setIfInBounds i x, T) :: l) (w.setCell ⟨g, i, none⟩ x) := by
  refine ⟨k.1.setCell (p := ⟨g, i, none⟩) hB x, fun y hy => ?_⟩
  rcases List.mem_cons.1 hy with rfl | hy
  · exact heap_setCell_same w g i _ _ _ (k.2 (g, cs, T) (by simp))
  · rw [heap_setCell_other w ⟨g, i, none⟩ y.1 x (hne y hy)]
    exact k.2 y (List.mem_cons_of_mem _ hy)
end
section
variable {P : Program} {ops : Array Oper} {rest : List Oper} {op : Oper} {a : Act} {w w0 : World} {Q : Exit → Act → World → Prop} {g p h v p' h' v' : Nat} {T : TypeId} {l : List (Nat × Array Value × TypeId)}
/-- The air of a parcel, loaded. -/
theorem wpList_load_air (hw : Region.wanted op (yielded ops a.tmps) = true) (ty : TypeId) (x : Operand) (ho : op.op = .load ty x) (g : Nat) (hx : a.eval x = .pointer (some ⟨g, 1, none⟩)) (p h v : Nat) (T : TypeId) (k : parAt w g p h v T)
    (d : TypeDesc) (hu : P.underlying ty = some d) (hd : d.isRow = true) (hi : (P.info? ty).map (·.size) = some 2)
    (hn : wpList P ops Q rest (a.put op.dst (.agg #[.float .f32 h, .float .f32 v])) w) : wpList P ops Q (op :: rest) a w :=
  wpList_step fun _ hK => by
    rw [if_pos hw]
    exact wp_load_mid ty x ho g 1 hx [.float .f32 h, .float .f32 v] d (range_air k) hu hd hi (hK _ _ hn)
theorem run_load_air {d : Option Tmp} {ty0 : TypeId} {ps : String} {af : Array Edge} {gd : Option (Nat × Bool)} (ty : TypeId) (x : Operand) (g : Nat) (hx : a.eval x = .pointer (some ⟨g, 1, none⟩)) (p h v : Nat) (T : TypeId) (k : parAt w g p h v T)
    (dd : TypeDesc) (hu : P.underlying ty = some dd) (hd : dd.isRow = true) (hi : (P.info? ty).map (·.size) = some 2) : (execOp a.eval ⟨d, .load ty x, ty0, ps, af, gd⟩).run P w = .ok (.value (.agg #[.float .f32 h, .float .f32 v])) w := by
  unfold execOp
  simp only [hx, Instr.loadAt, Instr.sureAddr, Sem.run_bind, Sem.run_pure, Result.andThen_ok, run_loadVar_mid w g 1 ty [.float .f32 h, .float .f32 v] dd (range_air k) hu hd hi]
/-- The air of a parcel, stored. -/
theorem store_air (hgd : op.guard = none) (ty : TypeId) (x y : Operand) (ho : op.op = .store ty x y) (g : Nat) (hx : a.eval x = .pointer (some ⟨g, 1, none⟩)) (h' v' : Nat) (hy : a.eval y = .agg #[.float .f32 h', .float .f32 v'])
    (p h v : Nat) (T : TypeId) (k : Kept w0 ((g, #[.float .f32 p, .float .f32 h, .float .f32 v], T) :: l) w) (hB : w0.heap.size ≤ g) (hne : ∀ x ∈ l, x.1 ≠ g) (hi : (P.info? ty).map (·.size) = some 2)
    (hn : ∀ w', Kept w0 ((g, #[.float .f32 p, .float .f32 h', .float .f32 v'], T) :: l) w' → wpList P ops Q rest (a.put op.dst undef) w') : wpList P ops Q (op :: rest) a w := by
  have kb : parAt w g p h v T := k.at (x := (g, #[.float .f32 p, .float .f32 h, .float .f32 v], T)) (by simp)
  refine wpList_store_mid hgd ty x y ho g 1 #[.float .f32 h', .float .f32 v'] hx hy (there_air kb) hi (by simp [Value.oneCell']) (hn _ ?_)
  exact (k.lcell hB hne 1 (.float .f32 h')).lcell hB hne 2 (.float .f32 v')
end
end Go.Fl
