import Derived.Test.YtbniidfojllflaaLibC
/- Rounding to the nearest word never turns an order round. No program. -/
namespace Go.Fl
open Ieee

/-- 'cut' to the nearest whole number, ties to even: when is it at least j? -/
theorem cut_ge {n d j : Nat} (hj : 1 ≤ j) : j ≤ Toward.even.cut false n d ↔ (2 * j - 1) * 2 ^ d < 2 * n ∨ ((2 * j - 1) * 2 ^ d = 2 * n ∧ j % 2 = 0) := by
  unfold Toward.cut
  simp only [Nat.one_shiftLeft]
  by_cases hd : d ≤ n.log2 + 2
  · rw [Nat.min_eq_left hd]
    have hG : 0 < 2 ^ d := Nat.two_pow_pos d
    generalize 2 ^ d = G at hG
    have hn := Nat.div_add_mod n G
    have hr := Nat.mod_lt n hG
    generalize n / G = q at hn ⊢
    generalize n % G = r at hn hr ⊢
    subst hn
    have hmul : G * q = q * G := Nat.mul_comm _ _
    rw [hmul]
    rcases Nat.lt_trichotomy q (j - 1) with h | h | h
    · have h1 : (2 * q + 3) * G ≤ (2 * j - 1) * G := Nat.mul_le_mul_right G (by omega)
      have h2 : (2 * q + 3) * G = 2 * (q * G) + 3 * G := by rw [Nat.add_mul, Nat.mul_assoc]
      have hm : (decide (G < 2 * r) || (G == 2 * r && q % 2 == 1)).toNat ≤ 1 := Bool.toNat_le _
      constructor
      · intro h'; omega
      · intro h'; omega
    · subst h
      obtain ⟨p, rfl⟩ : ∃ p, j = p + 1 := ⟨j - 1, by omega⟩
      simp only [Nat.add_sub_cancel] at *
      have h2 : (2 * (p + 1) - 1) * G = 2 * (p * G) + G := by
        rw [show 2 * (p + 1) - 1 = 2 * p + 1 by omega, Nat.add_mul, Nat.mul_assoc, Nat.one_mul]
      rw [h2]
      by_cases c1 : G < 2 * r
      · simp [c1]; omega
      · by_cases c2 : G = 2 * r
        · by_cases c3 : p % 2 = 1
          · have : (p + 1) % 2 = 0 := by omega
            simp [c2, c3, this]; omega
          · have : ¬ (p + 1) % 2 = 0 := by omega
            have c3' : (p % 2 == 1) = false := by simpa using c3
            simp [c2, c3', this]; omega
        · have c2' : (G == 2 * r) = false := by simpa using c2
          simp [c1, c2']; omega
    · have h1 : (2 * j - 1) * G + G ≤ 2 * (q * G) := by
        have : (2 * j - 1 + 1) * G ≤ (2 * q) * G := Nat.mul_le_mul_right G (by omega)
        rw [Nat.add_mul, Nat.one_mul, Nat.mul_assoc] at this
        exact this
      constructor
      · intro _; left; omega
      · intro _; omega
  · rw [Nat.min_eq_right (by omega)]
    have hn : n < 2 ^ (n.log2 + 1) := Nat.lt_log2_self
    have h4 : 2 ^ (n.log2 + 2) = 2 * 2 ^ (n.log2 + 1) := by rw [Nat.pow_succ 2 (n.log2 + 1), Nat.mul_comm]
    have h5 : 2 ^ (n.log2 + 2) ≤ 2 ^ d := Nat.pow_le_pow_right (by decide) (by omega)
    have hdiv : n / 2 ^ (n.log2 + 2) = 0 := Nat.div_eq_of_lt (by omega)
    have hmod : n % 2 ^ (n.log2 + 2) = n := Nat.mod_eq_of_lt (by omega)
    rw [hdiv, hmod]
    have c1 : ¬ 2 ^ (n.log2 + 2) < 2 * n := by omega
    have c2 : ¬ 2 ^ (n.log2 + 2) = 2 * n := by omega
    have c2' : (2 ^ (n.log2 + 2) == 2 * n) = false := by simpa using c2
    simp only [c1, decide_false, c2', Bool.false_and, Bool.or_self, Bool.toNat_false, Nat.add_zero]
    have h6 : 1 * 2 ^ d ≤ (2 * j - 1) * 2 ^ d := Nat.mul_le_mul_right _ (by omega)
    constructor
    · intro h; omega
    · intro h; omega
end Go.Fl
namespace Go.Fl
open Ieee

theorem cut_mono {n d n' d' : Nat} (h : n * 2 ^ d' ≤ n' * 2 ^ d) : Toward.even.cut false n d ≤ Toward.even.cut false n' d' := by
  generalize hj : Toward.even.cut false n d = j
  rcases Nat.eq_zero_or_pos j with h0 | h0
  · rw [h0]; exact Nat.zero_le _
  have hle : j ≤ Toward.even.cut false n d := by rw [hj]; exact Nat.le_refl _
  have hG : 0 < 2 ^ d := Nat.two_pow_pos d
  have hG' : 0 < 2 ^ d' := Nat.two_pow_pos d'
  rw [cut_ge h0] at hle ⊢
  generalize 2 ^ d = G at *
  generalize 2 ^ d' = G' at *
  generalize 2 * j - 1 = q at *
  have key : q * G ≤ 2 * n → q * G' ≤ 2 * n' := by
    intro hq
    have h1 : q * G * G' ≤ 2 * n * G' := Nat.mul_le_mul_right G' hq
    have h2 : 2 * n * G' ≤ 2 * n' * G := by rw [Nat.mul_assoc, Nat.mul_assoc]; exact Nat.mul_le_mul_left 2 h
    have h3 : q * G' * G ≤ 2 * n' * G := by rw [show q * G' * G = q * G * G' by rw [Nat.mul_assoc, Nat.mul_comm G' G, ← Nat.mul_assoc]]; exact Nat.le_trans h1 h2
    exact Nat.le_of_mul_le_mul_right h3 hG
  rcases hle with h1 | ⟨h1, h2⟩
  · have h3 : q * G * G' < 2 * n * G' := Nat.mul_lt_mul_of_pos_right h1 hG'
    have h4 : 2 * n * G' ≤ 2 * n' * G := by rw [Nat.mul_assoc, Nat.mul_assoc]; exact Nat.mul_le_mul_left 2 h
    have h5 : q * G' * G < 2 * n' * G := by rw [show q * G' * G = q * G * G' by rw [Nat.mul_assoc, Nat.mul_comm G' G, ← Nat.mul_assoc]]; exact Nat.lt_of_lt_of_le h3 h4
    exact .inl (Nat.lt_of_mul_lt_mul_right h5)
  · rcases Nat.lt_or_eq_of_le (key (Nat.le_of_eq h1)) with h3 | h3
    · exact .inl h3
    · exact .inr ⟨h3, h2⟩

theorem cut_le {n d K : Nat} (h : n ≤ K * 2 ^ d) : Toward.even.cut false n d ≤ K := by
  refine Nat.le_of_not_lt fun hlt => ?_
  have := (cut_ge (n := n) (d := d) (j := K + 1) (by omega)).1 hlt
  have hG : 0 < 2 ^ d := Nat.two_pow_pos d
  generalize 2 ^ d = G at *
  have e : (2 * (K + 1) - 1) * G = 2 * (K * G) + G := by rw [show 2 * (K + 1) - 1 = 2 * K + 1 by omega, Nat.add_mul, Nat.mul_assoc, Nat.one_mul]
  rw [e] at this
  omega

theorem le_cut {n d K : Nat} (h : K * 2 ^ d ≤ n) : K ≤ Toward.even.cut false n d := by
  rcases Nat.eq_zero_or_pos K with h0 | h0
  · rw [h0]; exact Nat.zero_le _
  rw [cut_ge h0]
  have hG : 0 < 2 ^ d := Nat.two_pow_pos d
  generalize 2 ^ d = G at *
  have e : (2 * K - 1) * G + G = 2 * (K * G) := by
    have : (2 * K - 1 + 1) * G = 2 * K * G := by rw [show 2 * K - 1 + 1 = 2 * K by omega]
    rw [Nat.add_mul, Nat.one_mul, Nat.mul_assoc] at this
    exact this
  left; omega

/-- The rung of a positive number of single precision, before it is held at infinity: E is its place above the least one. -/
def rungT (m : Nat) (E : Int) : Nat := (max (E + (m.log2 : Int) - 23) 0).toNat
def rungK (m : Nat) (E : Int) : Nat := Toward.even.cut false (m * 2 ^ (E - rungT m E).toNat) ((rungT m E : Int) - E).toNat

theorem lp_S : S.leastPlace = -149 := by decide
theorem fb_S : S.fractionBits = 23 := by decide

theorem nearest_rung {m : Nat} (hm : m ≠ 0) (E : Int) : S.nearest false m (-149 + E) = min (rungT m E * 8388608 + rungK m E) 2139095040 := by
  unfold Format.nearest
  rw [if_neg hm]
  have e1 : max (-149 + E + (m.log2 : Int) - (S.fractionBits : Nat)) S.leastPlace = -149 + (rungT m E : Int) := by
    rw [lp_S, fb_S]; unfold rungT; omega
  simp only [e1]
  rw [lp_S, Nat.shiftLeft_eq, bin_S, infRung_S, show (-149 + E - (-149 + (rungT m E : Int))).toNat = (E - rungT m E).toNat by omega,
    show (-149 + (rungT m E : Int) - (-149 + E)).toNat = ((rungT m E : Int) - E).toNat by omega, show (-149 + (rungT m E : Int) - -149).toNat = rungT m E by omega]
  simp [Format.word, rungK]

theorem pow_mul_lt {a b : Nat} (h : 2 ^ a < 2 ^ b) : a < b := (Nat.pow_lt_pow_iff_right (by decide)).1 h

/-- ROUNDING IS MONOTONE. -/
theorem nearest_mono {m m' : Nat} {E E' : Int} (p p' : Nat) (hp : E - E' = (p : Int) - p') (h : m * 2 ^ p ≤ m' * 2 ^ p') : S.nearest false m (-149 + E) ≤ S.nearest false m' (-149 + E') := by
  by_cases hm : m = 0
  · subst hm
    unfold Format.nearest
    simp [Format.word]
  have hm' : m' ≠ 0 := by
    intro h0
    rw [h0, Nat.zero_mul] at h
    have : 0 < m * 2 ^ p := Nat.mul_pos (Nat.pos_of_ne_zero hm) (Nat.two_pow_pos _)
    omega
  rw [nearest_rung hm, nearest_rung hm']
  have l1 : 2 ^ m.log2 ≤ m := Nat.log2_self_le hm
  have l2 : m < 2 ^ (m.log2 + 1) := Nat.lt_log2_self
  have l1' : 2 ^ m'.log2 ≤ m' := Nat.log2_self_le hm'
  have l2' : m' < 2 ^ (m'.log2 + 1) := Nat.lt_log2_self
  have hlog : m.log2 + p < m'.log2 + 1 + p' := by
    apply pow_mul_lt
    rw [Nat.pow_add, Nat.pow_add]
    calc 2 ^ m.log2 * 2 ^ p ≤ m * 2 ^ p := Nat.mul_le_mul_right _ l1
      _ ≤ m' * 2 ^ p' := h
      _ < 2 ^ (m'.log2 + 1) * 2 ^ p' := Nat.mul_lt_mul_of_pos_right l2' (Nat.two_pow_pos _)
  have hT : rungT m E ≤ rungT m' E' := by unfold rungT; omega
  have hR : rungT m E * 8388608 + rungK m E ≤ rungT m' E' * 8388608 + rungK m' E' := by
    rcases Nat.lt_or_eq_of_le hT with hlt | heq
    · have k1 : rungK m E ≤ 16777216 := by
        unfold rungK
        apply cut_le
        rw [show (16777216 : Nat) = 2 ^ 24 by decide, ← Nat.pow_add]
        calc m * 2 ^ (E - rungT m E).toNat ≤ 2 ^ (m.log2 + 1) * 2 ^ (E - rungT m E).toNat := Nat.mul_le_mul_right _ (Nat.le_of_lt l2)
          _ = 2 ^ (m.log2 + 1 + (E - rungT m E).toNat) := (Nat.pow_add 2 (m.log2 + 1) _).symm
          _ ≤ _ := Nat.pow_le_pow_right (by decide) (by unfold rungT; omega)
      have k2 : 8388608 ≤ rungK m' E' := by
        unfold rungK
        apply le_cut
        rw [show (8388608 : Nat) = 2 ^ 23 by decide, ← Nat.pow_add]
        calc 2 ^ (23 + ((rungT m' E' : Int) - E').toNat) ≤ 2 ^ (m'.log2 + (E' - rungT m' E').toNat) := Nat.pow_le_pow_right (by decide) (by unfold rungT at *; omega)
          _ = 2 ^ m'.log2 * 2 ^ (E' - rungT m' E').toNat := Nat.pow_add 2 m'.log2 _
          _ ≤ _ := Nat.mul_le_mul_right _ l1'
      generalize rungT m E = a at *
      generalize rungT m' E' = b at *
      generalize rungK m E = c at *
      generalize rungK m' E' = d at *
      omega
    · rw [heq]
      have : rungK m E ≤ rungK m' E' := by
        unfold rungK
        rw [heq]
        clear hT heq hlog l1 l2 l1' l2'
        apply cut_mono
        generalize rungT m' E' = t
        rw [Nat.mul_assoc, ← Nat.pow_add, Nat.mul_assoc, ← Nat.pow_add]
        rcases Nat.le_total p' p with hpp | hpp
        · obtain ⟨s, rfl⟩ : ∃ s, p = p' + s := ⟨p - p', by omega⟩
          have hs : m * 2 ^ s ≤ m' := by
            rw [Nat.pow_add, show m * (2 ^ p' * 2 ^ s) = m * 2 ^ s * 2 ^ p' by rw [Nat.mul_comm (2 ^ p'), Nat.mul_assoc]] at h
            exact Nat.le_of_mul_le_mul_right h (Nat.two_pow_pos _)
          have e : (E - (t : Int)).toNat + ((t : Int) - E').toNat = s + ((E' - (t : Int)).toNat + ((t : Int) - E).toNat) := by omega
          rw [e, Nat.pow_add 2 s, ← Nat.mul_assoc m (2 ^ s)]
          exact Nat.mul_le_mul_right _ hs
        · obtain ⟨s, rfl⟩ : ∃ s, p' = p + s := ⟨p' - p, by omega⟩
          have hs : m ≤ m' * 2 ^ s := by
            rw [Nat.pow_add, show m' * (2 ^ p * 2 ^ s) = m' * 2 ^ s * 2 ^ p by rw [Nat.mul_comm (2 ^ p), Nat.mul_assoc]] at h
            exact Nat.le_of_mul_le_mul_right h (Nat.two_pow_pos _)
          have e : (E' - (t : Int)).toNat + ((t : Int) - E).toNat = s + ((E - (t : Int)).toNat + ((t : Int) - E').toNat) := by omega
          rw [e, Nat.pow_add 2 s, ← Nat.mul_assoc m' (2 ^ s)]
          exact Nat.mul_le_mul_right _ hs
      exact Nat.add_le_add_left this _
  exact Nat.le_min.2 ⟨Nat.le_trans (Nat.min_le_left _ _) hR, Nat.min_le_right _ _⟩
end Go.Fl
