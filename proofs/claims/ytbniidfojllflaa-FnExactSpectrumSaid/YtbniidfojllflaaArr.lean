import Derived.Test.YtbniidfojllflaaFlN
import Derived.ProofKit
import Derived.WalkKit
/- Arrays of twenty single-precision numbers as values. No program. -/
namespace Go.Fl
open Go.RowKit

def fls (c : Nat → Nat) : Array Value := Array.ofFn (n := 20) fun i => Value.float .f32 (c i.val)

@[simp, go_sem] theorem fls_size (c : Nat → Nat) : (fls c).size = 20 := by simp [fls]

theorem fls_get (c : Nat → Nat) {k : Nat} (h : k < 20) : (fls c)[k]? = some (.float .f32 (c k)) := by
  simp [fls, h]

theorem fls_none (c : Nat → Nat) {k : Nat} (h : 20 ≤ k) : (fls c)[k]? = none := by
  simp [fls]; omega

theorem fls_ext {c d : Nat → Nat} (h : ∀ i, i < 20 → c i = d i) : fls c = fls d := by
  unfold fls
  congr 1
  funext i
  rw [h i.val i.isLt]

def upd (c : Nat → Nat) (k x : Nat) : Nat → Nat := fun i => if i = k then x else c i

theorem fls_set (c : Nat → Nat) (k x : Nat) : (fls c).setIfInBounds k (.float .f32 x) = fls (upd c k x) := by
  apply Array.ext_getElem?
  intro i
  rw [Array.getElem?_setIfInBounds]
  by_cases hi : i < 20
  · rw [fls_get _ hi, fls_get _ hi, fls_size]
    by_cases h : k = i
    · subst h; simp [upd, hi]
    · simp [h, upd, Ne.symm h]
  · rw [fls_none _ (by omega), fls_none _ (by omega), fls_size]
    by_cases h : k = i
    · subst h; simp [hi]
    · simp [h]

theorem fls_of_array {cs : Array Value} (hs : cs.size = 20) (h : ∀ i : Nat, i < 20 → ∃ b, cs[i]? = some (.float .f32 b) ∧ b < 4294967296) :
    ∃ c : Nat → Nat, cs = fls c ∧ ∀ i, i < 20 → c i < 4294967296 := by
  refine ⟨fun i => match cs[i]? with | some (.float _ b) => b | _ => 0, ?_, ?_⟩
  · apply Array.ext
    · simp [hs]
    · intro i h1 h2
      rw [hs] at h1
      obtain ⟨b, hb, _⟩ := h i h1
      have hb' := hb
      rw [Array.getElem?_eq_getElem (by omega)] at hb'
      simp only [fls, Array.getElem_ofFn, hb]
      exact Option.some.inj hb'
  · intro i hi
    obtain ⟨b, hb, hl⟩ := h i hi
    simp only [hb]
    exact hl

theorem open_fls {P : Program} {w : World} {r : Reach} {b0 : Nat} {t e : TypeId} {v : Value} (ht : P.underlying t = some (.array 20 e)) (he : P.underlying e = some (.float .f32))
    (hc : P.cellsOf t = 20) (hct : P.cellTypes P.depth t = some (List.replicate 20 e)) (h : Value.okWide P w r b0 t v) :
    ∃ c : Nat → Nat, v = .agg (fls c) ∧ ∀ i, i < 20 → c i < 4294967296 := by
  simp only [Value.okWide, ht] at h
  obtain ⟨cs, rfl, hsz, ts, h1, h2, h3⟩ := h
  rw [hc] at hsz
  rw [hct] at h1
  obtain rfl := Option.some.inj h1
  have : ∀ i : Nat, i < 20 → ∃ b, cs[i]? = some (.float .f32 b) ∧ b < 4294967296 := by
    intro i hi
    have hv : cs[i]? = some (cs[i]'(by omega)) := Array.getElem?_eq_getElem (by omega)
    obtain ⟨u, hu, hok⟩ := h3 i _ hv
    have : u = e := by
      rw [List.length_replicate, Nat.mod_eq_of_lt hi, List.getElem?_replicate, if_pos hi] at hu
      exact (Option.some.inj hu).symm
    subst this
    rw [hv]
    generalize cs[i]'(by omega) = x at hok
    unfold Cell.okWide at hok
    rw [he] at hok
    cases x <;> simp [Cell.ok, he] at hok
    obtain ⟨rfl, hb⟩ := hok
    exact ⟨_, rfl, by simpa [FloatKind.has] using hb⟩
  obtain ⟨c, rfl, hb⟩ := fls_of_array hsz this
  exact ⟨c, rfl, hb⟩

theorem open_f32 {P : Program} {w : World} {r : Reach} {b0 : Nat} {t : TypeId} {v : Value} (ht : P.underlying t = some (.float .f32)) (h : Value.okWide P w r b0 t v) :
    ∃ b, v = .float .f32 b ∧ b < 4294967296 := by
  simp only [Value.okWide, ht, Cell.okWide] at h
  cases v <;> simp [Cell.ok, ht] at h
  obtain ⟨rfl, hb⟩ := h
  exact ⟨_, rfl, by simpa [FloatKind.has] using hb⟩

theorem open_i64 {P : Program} {w : World} {r : Reach} {b0 : Nat} {t : TypeId} {v : Value} (ht : P.underlying t = some (.int .i64)) (h : Value.okWide P w r b0 t v) :
    ∃ n, v = .int .i64 n ∧ -9223372036854775808 ≤ n ∧ n ≤ 9223372036854775807 := by
  simp only [Value.okWide, ht, Cell.okWide] at h
  cases v <;> simp [Cell.ok, ht] at h
  obtain ⟨rfl, hb⟩ := h
  exact ⟨_, rfl, by simpa [IntKind.has, IntKind.min, IntKind.max, IntKind.signed, IntKind.bits] using hb⟩
end Go.Fl
