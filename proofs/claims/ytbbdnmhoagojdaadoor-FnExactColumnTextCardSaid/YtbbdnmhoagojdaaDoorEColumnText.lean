import Derived.Test.YtbbdnmhoagojdaaDoorCColumnText
import Derived.Laws.FloatArith
import Derived.ProofKit
import Derived.WalkKit
import Derived.WalkLawsBesides
import Derived.WalkSpells
import Derived.Deep.RegionHeld3
import Derived.ChangeKeysEq
import Derived.Laws.BitsAllLaws
import Derived.Deep.MidRow
import Derived.Deep.WholeRow
import Derived.StillTailTactics
import Derived.Deep.Slices
import Derived.ChangeSame
import Derived.OrdersIn
import Derived.ControlIn
import Derived.RangeFuncSeq
import Derived.RangeFuncNested
import Derived.ArgAppend
import Derived.OwnWalkIn
import Derived.TacticsInMore
import Derived.Below
import Derived.Laws.AppendOwn
import Derived.Laws.ComplexArith
import Derived.Deep.Strs
import Derived.Laws.IdiomStrings
import Derived.Laws.Bits64b
import Derived.Deep.QuietTactic
import Derived.BigQuiet
import Derived.OpenShut
import Derived.Stop.LaidErr
import Derived.LaidMore
import Derived.Handed
import Derived.LaidHandle
import Derived.Stop.Joined
import Derived.MakeChecks
import Derived.Lib.LaidTab
import Derived.StillTail
import Derived.Shelf.Strings.OnBuilder
import Derived.Lib.Join
import Derived.RangeFuncLeaves
import Derived.RangeFuncBox
import Derived.MapKept
import Derived.Lib.ItoaNum
import Derived.Lib.ItoaLen
import Derived.Lib.ItoaMem
import Derived.Shelf.Strconv.Itoa4
import Derived.Lib.AppendIntMem
import Derived.Shelf.Strings.BuilderK
import Derived.HandedShaped
import Derived.Shelf.Vars
import Derived.Lay
import Derived.SevenTiedAt
/- What the law ColumnText leans on, of no program: words of singles and doubles, blocks of memory, regions. -/
/- The spot of a gate: bounds of a unit's parts, and what is nearest to a product with a gate. No program. -/
namespace Go.Fl
open Ieee Go Go.RowKit
def YB : Nat := fmulD TAU TAU
def zC (j : Nat) : Nat := fdivD YB (kc (14 - j)) + 1
def zS (j : Nat) : Nat := fdivD YB (ks (14 - j)) + 1
def bC : Nat → Nat
  | 0 => 4607182418800017408
  | j + 1 => faddD 4607182418800017408 (max 4607182418800017408 (fmulD (zC j) (bC j)))
def bZ : Nat → Nat
  | 0 => 4607182418800017408
  | j + 1 => faddD 4607182418800017408 (max 4607182418800017408 (fmulD (zS j) (bZ j)))
/-- 320 -/
def KW : Nat := 1134559232
theorem b2_all : ((List.range 14).all fun j => decide (zC j < DINF) && decide (valD YB * 2 ^ VONED ≤ valD (kc (14 - j)) * valD (zC j)) && decide (bC j < DINF) && decide (max 4607182418800017408 (fmulD (zC j) (bC j)) < DINF) && decide (zS j < DINF) && decide (valD YB * 2 ^ VONED ≤ valD (ks (14 - j)) * valD (zS j)) && decide (bZ j < DINF) && decide (max 4607182418800017408 (fmulD (zS j) (bZ j)) < DINF)) = true := by decide +kernel
theorem b2_end : bC 14 ≤ wid KW ∧ bZ 14 < DINF ∧ fmulD TAU (bZ 14) ≤ wid KW ∧ TAU < DINF ∧ YB < DINF ∧ KW < INF := by decide +kernel
theorem step2 {y k C z b : Nat} (hy : y < DINF) (hyb : valD y ≤ valD YB) (hk : 4607182418800017408 ≤ k) (hk2 : k < DINF) (hz : z < DINF) (hzv : valD YB * 2 ^ VONED ≤ valD k * valD z) (hC : MgD C b) (hb : b < DINF) (hm : max 4607182418800017408 (fmulD z b) < DINF) :
    MgD (stepD k y C) (faddD 4607182418800017408 (max 4607182418800017408 (fmulD z b))) := by
  have h0 : k ≠ 0 := by omega
  have q1 := div_someD hy hk2 h0
  have q2 : fdivD y k ≤ z := fdiv_le hy hk2 h0 hz (Nat.le_trans (Nat.mul_le_mul_right _ hyb) hzv)
  have hq : MgD (fdivD y k) z := ⟨false, _, (Nat.zero_add _).symm, q2⟩
  obtain ⟨r, hr, hr2⟩ := hq.mul hC hz hb
  obtain ⟨v, hv, hv2⟩ := (hr2.mono (Nat.le_max_right 4607182418800017408 _)).one_less (Nat.le_max_left _ _) hm
  have hs : stepD k y C = v := by
    unfold stepD
    rw [q1, Option.getD_some, hr, Option.getD_some, hv, Option.getD_some]
  rw [hs]
  exact hv2
theorem cosF2 {y : Nat} (hy : y < DINF) (hyb : valD y ≤ valD YB) : ∀ j, j ≤ 14 → MgD (cosF y j) (bC j) ∧ MgD (sinF y j) (bZ j)
  | 0, _ => ⟨⟨false, _, (Nat.zero_add _).symm, Nat.le_refl _⟩, ⟨false, _, (Nat.zero_add _).symm, Nat.le_refl _⟩⟩
  | j + 1, h => by
    obtain ⟨i1, i2⟩ := cosF2 hy hyb j (by omega)
    obtain ⟨⟨a, b, c, d⟩, _⟩ := con_facts (m := 14 - j) (by omega) (by omega)
    have := List.all_eq_true.1 b2_all j (List.mem_range.2 (by omega))
    simp only [Bool.and_eq_true, decide_eq_true_eq] at this
    obtain ⟨⟨⟨⟨⟨⟨⟨c1, c2⟩, c3⟩, c4⟩, s1⟩, s2⟩, s3⟩, s4⟩ := this
    exact ⟨step2 hy hyb a b c1 c2 i1 c3 c4, step2 hy hyb c d s1 s2 i2 s3 s4⟩
theorem mg_sgS {s : Bool} {m : Nat} (h : m < INF) : mg (sgS s m) = m := by
  rw [INF_val] at h
  unfold mg sgS
  split <;> omega
theorem unit_f2 {x : Nat} (hx : x < 4294967296) (h : finB x = true) : ∃ s m n g X y a b p, UnitF x s m n g X y a b p ∧ mg a ≤ KW ∧ mg b ≤ KW := by
  obtain ⟨s, m, hw, hm⟩ := wid_sg hx h
  obtain ⟨n, hn, he, n1, n2⟩ := even_near (s := s) hm
  obtain ⟨g, hg, g0, g1⟩ : ∃ g, MgD g 4607182418800017408 ∧ (n = 0 → g = sgD s m ∧ D.sub (sgD s m) 0 = some g) ∧ (n ≠ 0 → D.sub (sgD s m) (sgD s n) = some g) := by
    by_cases h0 : n = 0
    · refine ⟨sgD s m, ⟨s, m, rfl, one_of_val ?_⟩, fun _ => ⟨rfl, sub_zeroD hm⟩, fun h1 => absurd h0 h1⟩
      rw [h0, show valD 0 = 0 by decide, Nat.zero_add] at n1
      exact n1
    · obtain ⟨r, hr, hr2⟩ := sub_near (s := s) hm hn n1 n2
      exact ⟨r, hr2, fun h1 => absurd h1 h0, fun _ => hr⟩
  obtain ⟨S', M, q1, q2, q3, q4, q5⟩ := angle_facts hg
  obtain ⟨b1, b2, b3, b4, b5, b6⟩ := b2_end
  have hyb : valD (fmulD M M) ≤ valD YB := val_leD (fmul_mono2D q3 q3 b4 b4)
  obtain ⟨c1, c2⟩ := cosF2 q4 hyb 14 (Nat.le_refl _)
  obtain ⟨p, hp, hp2⟩ := MgD.mul (X := sgD S' M) (b := TAU) ⟨S', M, rfl, q3⟩ c2 b4 b2
  obtain ⟨sc, mc, ec, lc⟩ := c1
  obtain ⟨sp, mp, ep, lp⟩ := hp2
  have wk := wid_val b6
  rw [show WEXP = 925 from rfl] at wk
  have up : wid KW ≤ p64 254 := by decide +kernel
  have na := narr_sg (s := sc) (Nat.le_trans (Nat.le_trans lc b1) up)
  have nb := narr_sg (s := sp) (Nat.le_trans (Nat.le_trans lp b3) up)
  have ka : narr mc ≤ KW := narr_le b6 wk.1 wk.2 (Nat.le_trans lc b1)
  have kb : narr mp ≤ KW := narr_le b6 wk.1 wk.2 (Nat.le_trans lp b3)
  rw [← ec] at na
  rw [← ep] at nb
  exact ⟨s, m, n, g, sgD S' M, fmulD M M, _, _, p, ⟨hw, hm, hn, he, g0, g1, q1, q2, q4, q5, hp, na.1, nb.1, sgS_fin na.2, sgS_fin nb.2⟩, by rw [mg_sgS na.2]; exact ka, by rw [mg_sgS nb.2]; exact kb⟩
def iD (K : Nat) : Nat := D.write (.number false K 0)
def iS (K : Nat) : Nat := S.write (.number false K 0)
def sgI (s : Bool) (K : Nat) : Int := if s then -(K : Int) else K
/-- Rounding to even of a double that is not great: a whole number. -/
theorem even_int {s : Bool} {m : Nat} (hm : m < DINF) (hb : valD m ≤ 10240 * 2 ^ VONED) : ∃ K, K ≤ 10241 ∧ D.write ((D.read (sgD s m)).integral .even) = sgD s (iD K) := by
  obtain ⟨M, k, r1, v1, w1, b1, c1⟩ := read_repD hm
  obtain ⟨M2, e, p1, p2⟩ := read_sgD (s := s) hm
  rw [r1] at p1
  simp only [Datum.number.injEq, true_and] at p1
  obtain ⟨rfl, rfl⟩ := p1
  rw [p2]
  simp only [Datum.integral]
  have hV := VONED_val
  rw [v1] at hb
  refine ⟨_, ?_, by rw [write_signD]; rfl⟩
  rcases Nat.lt_or_ge k VONED with hk | hk
  · obtain ⟨d, hd⟩ : ∃ d, VONED = k + d := ⟨VONED - k, by omega⟩
    rw [show (-1074 + (k : Int)).toNat = 0 by omega, show (-(-1074 + (k : Int))).toNat = d by omega, Nat.shiftLeft_eq, Nat.pow_zero, Nat.mul_one]
    obtain ⟨a1, a2⟩ := cut_even s M d
    generalize Toward.even.cut s M d = N at *
    rw [hd, Nat.pow_add, Nat.mul_comm (2 ^ k), ← Nat.mul_assoc] at hb
    have h1 : M ≤ 10240 * 2 ^ d := Nat.le_of_mul_le_mul_right hb (Nat.two_pow_pos k)
    have h2 : N * 2 ^ d ≤ 10241 * 2 ^ d := by
      have : 10241 * 2 ^ d = 10240 * 2 ^ d + 2 ^ d := by rw [show (10241 : Nat) = 10240 + 1 from rfl, Nat.add_mul, Nat.one_mul]
      omega
    exact Nat.le_of_mul_le_mul_right h2 (Nat.two_pow_pos d)
  · obtain ⟨t, rfl⟩ : ∃ t, k = VONED + t := ⟨k - VONED, by omega⟩
    rw [show (-1074 + ((VONED + t : Nat) : Int)).toNat = t by omega, show (-(-1074 + ((VONED + t : Nat) : Int))).toNat = 0 by omega, Nat.shiftLeft_eq]
    rw [show Toward.even.cut s (M * 2 ^ t) 0 = M * 2 ^ t from by simp [Toward.cut, Nat.mod_one]]
    have h1 : M * 2 ^ t * 2 ^ VONED ≤ 10240 * 2 ^ VONED := by rw [Nat.mul_assoc, ← Nat.pow_add, Nat.add_comm t]; exact hb
    have := Nat.le_of_mul_le_mul_right h1 (Nat.two_pow_pos VONED)
    omega
theorem iS_all : ((List.range 10242).all fun K => decide (val (iS K) = K * 2 ^ 149) && decide (iS K < INF)) = true := by decide +kernel
theorem iS_val {K : Nat} (h : K ≤ 10241) : val (iS K) = K * 2 ^ 149 ∧ iS K < INF := by
  have := List.all_eq_true.1 iS_all K (List.mem_range.2 (by omega))
  simp only [Bool.and_eq_true, decide_eq_true_eq] at this
  exact this
theorem iD_val {K : Nat} (h : K ≤ 10241) : valD (iD K) = K * 2 ^ VONED ∧ iD K < DINF := by
  obtain ⟨W, hW, hv⟩ := int_word (N := K) (by omega)
  have : iD K = W := nearest_word hW hv
  rw [this]
  exact ⟨hv, hW⟩
theorem cutz_s (s : Bool) (m d : Nat) : Toward.zero.cut s m d = Toward.zero.cut false m d := rfl
theorem min_max16 : IntKind.i16.min = -32768 ∧ IntKind.i16.max = 32767 := by decide
theorem toInt_sg {s : Bool} {M k K B : Nat} (h : M * 2 ^ k = K * 2 ^ B) : (Datum.number s M (-(B : Int) + (k : Nat))).toInt .zero = some (sgI s K) := by
  unfold Datum.toInt
  simp only [Datum.integral]
  rw [cutz_s, cutz_unit, h, Nat.mul_div_cancel _ (Nat.two_pow_pos B)]
  cases s <;> simp [signed, sgI]
theorem i16_of {s : Bool} {K : Nat} (h : K ≤ 10241) : IntKind.i16.min ≤ sgI s K ∧ sgI s K ≤ IntKind.i16.max := by
  obtain ⟨m1, m2⟩ := min_max16
  rw [m1, m2]
  unfold sgI
  split <;> constructor <;> omega
theorem toI64 {s : Bool} {K : Nat} (h : K ≤ 10241) : floatToIntVal .f64 (sgD s (iD K)) .i16 = some (sgI s K) := by
  obtain ⟨v, hW⟩ := iD_val h
  obtain ⟨M, k, r1, v1, _⟩ := read_repD hW
  obtain ⟨M2, e, p1, p2⟩ := read_sgD (s := s) hW
  rw [r1] at p1
  simp only [Datum.number.injEq, true_and] at p1
  obtain ⟨rfl, rfl⟩ := p1
  unfold floatToIntVal
  have e1 : FloatKind.f64.decode (sgD s (iD K)) = .number s M (-1074 + (k : Nat)) := p2
  have hV := VONED_val
  rw [e1, show (-1074 + (k : Int)) = (-((VONED : Nat) : Int) + (k : Nat)) by omega, toInt_sg (K := K) (by rw [← v1, v])]
  simp only
  rw [if_pos (i16_of h)]
theorem toI32 {s : Bool} {K : Nat} (h : K ≤ 10241) : floatToIntVal .f32 (sgS s (iS K)) .i16 = some (sgI s K) := by
  obtain ⟨v, hW⟩ := iS_val h
  obtain ⟨M, k, r1, v1⟩ := read_val hW
  obtain ⟨f1, f2⟩ := sgS_fin (s := s) hW
  obtain ⟨m', e', p1, p2⟩ := read_fin f1 (finB_iff.1 f2)
  rw [mg_sgS hW, r1] at p1
  simp only [Datum.number.injEq, true_and] at p1
  obtain ⟨rfl, rfl⟩ := p1
  have hs : decide (2147483648 ≤ sgS s (iS K)) = s := by
    rw [INF_val] at hW
    unfold sgS
    cases s <;> simp <;> omega
  rw [hs] at p2
  unfold floatToIntVal
  have e1 : FloatKind.f32.decode (sgS s (iS K)) = .number s M (-149 + (k : Nat)) := p2
  rw [e1, show (-149 + (k : Int)) = (-((149 : Nat) : Int) + (k : Nat)) by omega, toInt_sg (K := K) (by rw [← v1, v])]
  simp only
  rw [if_pos (i16_of h)]
theorem p2gen (K a b c : Nat) (h : c = a + b) : K * 2 ^ c = K * 2 ^ a * 2 ^ b := by subst h; rw [Nat.pow_add, Nat.mul_assoc]
theorem narr_iD {K : Nat} (h : K ≤ 10241) : narr (iD K) = iS K := by
  obtain ⟨v, hW⟩ := iS_val h
  obtain ⟨w, hD⟩ := iD_val h
  have e : valD (iD K) = val (iS K) * 2 ^ 925 := by rw [w, v]; exact p2gen K 149 925 VONED VONED_val
  exact Nat.le_antisymm (narr_le hW hD e (Nat.le_refl _)) (le_narr hW hD e (Nat.le_refl _))
theorem iD_low {K : Nat} (h : K ≤ 10241) : iD K ≤ p64 254 := by
  have up : 10241 * 2 ^ VONED ≤ valD (p64 254) := by decide +kernel
  refine le_of_valD ?_
  rw [(iD_val h).1]
  exact Nat.le_trans (Nat.mul_le_mul_right _ h) up
theorem nar64 {s : Bool} {K : Nat} (h : K ≤ 10241) : floatToFloatBits .f64 (sgD s (iD K)) .f32 = some (sgS s (iS K)) := by
  have := (narr_sg (s := s) (iD_low h)).1
  rwa [narr_iD h] at this
theorem W10_two : 32 * val KW = val 1176502272 ∧ val 1176502272 = 10240 * 2 ^ 149 ∧ 1176502272 < INF := by decide +kernel
theorem W10_val : 32 * val KW = val 1176502272 ∧ val 1176502272 * 2 ^ WEXP = 10240 * 2 ^ VONED ∧ 1176502272 < INF := ⟨W10_two.1, by rw [W10_two.2.1]; exact (p2gen 10240 149 WEXP VONED rfl).symm, W10_two.2.2⟩
theorem wide_gen {a b c E : Nat} (h : a ≤ b) (e : b * E = c) : a * E ≤ c := e ▸ Nat.mul_le_mul_right _ h
theorem wid_sg2 {x : Nat} (hx : x < 4294967296) (h : mg x < INF) : wid x = sgD (decide (2147483648 ≤ x)) (wid (mg x)) := by
  rw [wid_fin hx h]
  unfold sgD
  simp
/-- What is nearest to the product of a gate and a part. -/
structure CoordF (N a p : Nat) (s : Bool) (m K : Nat) : Prop where
  mul : S.mul (wS N) a = some p
  lt : p < 4294967296
  fin : mg p < INF
  wide : wid p = sgD s m
  hm : m < DINF
  hK : K ≤ 10241
  even : D.write ((D.read (sgD s m)).integral .even) = sgD s (iD K)
theorem inf_small {F : Nat} (h : F < INF) : F < 2147483648 := by rw [INF_val] at h; omega
theorem val_mono {x y : Nat} (h : x ≤ y) : val x ≤ val y := by
  rcases Nat.lt_or_eq_of_le h with h | h
  · exact Nat.le_of_lt (val_lt h)
  · rw [h]; exact Nat.le_refl _
theorem prod_le {N m : Nat} (hN : N ≤ 32) (hm : m ≤ KW) (o1 : val (wS N) = N * 2 ^ 149) (o2 : wS N < INF) (hma : m < INF) : fmul (wS N) m ≤ 1176502272 := by
  obtain ⟨w1, _, w3⟩ := W10_two
  have hv := val_mono hm
  rw [fmul_val o2 hma]
  refine nearest_le_word w3 0 149 (by omega) ?_
  rw [o1, ← w1, Nat.pow_zero, Nat.mul_one]
  generalize val m = a at *
  generalize val KW = b at *
  generalize 2 ^ 149 = c
  calc N * c * a ≤ 32 * c * b := Nat.mul_le_mul (Nat.mul_le_mul_right _ hN) hv
    _ = 32 * b * c := by rw [Nat.mul_assoc, Nat.mul_comm c, ← Nat.mul_assoc]
theorem wide_le {F : Nat} (h : F ≤ 1176502272) (hF : F < INF) : wid F < DINF ∧ valD (wid F) ≤ 10240 * 2 ^ VONED := by
  have wv := wid_val hF
  refine ⟨wv.1, ?_⟩
  rw [wv.2]
  exact wide_gen (val_mono h) W10_val.2.1
theorem coord_f {N a : Nat} (hN : N ≤ 32) (ha : a < 4294967296) (hm : mg a ≤ KW) : ∃ p s m K, CoordF N a p s m K := by
  have b6 : KW < INF := by decide
  obtain ⟨o1, o2, _, _⟩ := whole_one (N := N) (by omega)
  have hma : mg a < INF := Nat.lt_of_le_of_lt hm b6
  have hmul := mul_sgr (t := wS N) ha hma o2
  have hle := prod_le hN hm o1 o2 hma
  have hF : fmul (wS N) (mg a) < INF := Nat.lt_of_le_of_lt hle W10_two.2.2
  clear o1
  generalize fmul (wS N) (mg a) = F at *
  obtain ⟨hpm, hpl⟩ := sgnW_mg (x := a) (inf_small hF)
  have hpf : mg (sgnW a F) < INF := by rw [hpm]; exact hF
  obtain ⟨h1, h2⟩ := wide_le hle hF
  obtain ⟨K, hK, hE⟩ := even_int (s := decide (2147483648 ≤ sgnW a F)) h1 h2
  have hw := wid_sg2 hpl hpf
  rw [hpm] at hw
  exact ⟨_, _, _, K, hmul, hpl, hpf, hw, h1, hK, hE⟩
end Go.Fl
/- Cells of a map of echoes: two small numbers, a single, a number; slices of them that came in. No program. -/
namespace Go.Fl
open Ieee Go Go.RowKit Go.ChangeShapes
structure E4 where
  a : Int
  b : Int
  q : Nat
  s : Int
def e4 (c : E4) : List Value := [.int .i16 c.a, .int .i16 c.b, .float .f32 c.q, .int .i64 c.s]
def i16B (n : Int) : Prop := -32768 ≤ n ∧ n ≤ 32767
def E4.ok (c : E4) : Prop := c.q < 4294967296 ∧ i16B c.a ∧ i16B c.b
theorem E4.zero_ok : (⟨0, 0, 0, 0⟩ : E4).ok := ⟨Nat.zero_lt_succ _, by constructor <;> decide, by constructor <;> decide⟩
def Bef (c d : E4) : Prop := c.a < d.a ∨ (c.a = d.a ∧ c.b < d.b)
instance (c d : E4) : Decidable (Bef c d) := inferInstanceAs (Decidable (_ ∨ _))
/-- Reads as n cells. -/
def RdE (w : World) (v : Value) (n : Nat) (x : Nat → E4) : Prop := ∃ p cap, v = .slice p n cap ∧ (0 < n → ∃ b o, p = some ⟨b, o, none⟩ ∧ ∀ i, i < n → w.rangeAt b (o + i * 4) (e4 (x i)))
theorem range_cells {w : World} {b o : Nat} {c : E4} (h : w.rangeAt b o (e4 c)) :
    w.cell? ⟨b, o, none⟩ = some (.int .i16 c.a) ∧ w.cell? ⟨b, o + 1, none⟩ = some (.int .i16 c.b) ∧ w.cell? ⟨b, o + 2, none⟩ = some (.float .f32 c.q) ∧ w.cell? ⟨b, o + 3, none⟩ = some (.int .i64 c.s) :=
  ⟨h 0 _ rfl, h 1 _ rfl, h 2 _ rfl, h 3 _ rfl⟩
theorem range_of_cells {w : World} {b o : Nat} {c : E4} (h : w.cell? ⟨b, o, none⟩ = some (.int .i16 c.a) ∧ w.cell? ⟨b, o + 1, none⟩ = some (.int .i16 c.b) ∧ w.cell? ⟨b, o + 2, none⟩ = some (.float .f32 c.q) ∧ w.cell? ⟨b, o + 3, none⟩ = some (.int .i64 c.s)) :
    w.rangeAt b o (e4 c) := by
  obtain ⟨h0, h1, h2, h3⟩ := h
  intro j v hv
  match j, hv with
  | 0, hv => simp only [e4, List.getElem?_cons_zero, Option.some.injEq] at hv; subst hv; exact h0
  | 1, hv => simp only [e4, List.getElem?_cons_succ, List.getElem?_cons_zero, Option.some.injEq] at hv; subst hv; exact h1
  | 2, hv => simp only [e4, List.getElem?_cons_succ, List.getElem?_cons_zero, Option.some.injEq] at hv; subst hv; exact h2
  | 3, hv => simp only [e4, List.getElem?_cons_succ, List.getElem?_cons_zero, Option.some.injEq] at hv; subst hv; exact h3
  | j + 4, hv => simp [e4] at hv
theorem range_stay {w w' : World} {m b o : Nat} {c : E4} (h : w.rangeAt b o (e4 c)) (hm : m = w.heap.size) (hb : Below m w w') : w'.rangeAt b o (e4 c) := by
  subst hm
  refine range_of_cells ?_
  obtain ⟨h0, h1, h2, h3⟩ := range_cells h
  exact ⟨by rw [hb.cell (block_lt_of_cell h0)]; exact h0, by rw [hb.cell (block_lt_of_cell h1)]; exact h1, by rw [hb.cell (block_lt_of_cell h2)]; exact h2, by rw [hb.cell (block_lt_of_cell h3)]; exact h3⟩
theorem range_two {w : World} {b o : Nat} {c : E4} (h : w.rangeAt b o (e4 c)) : w.rangeAt b o [.int .i16 c.a, .int .i16 c.b] := by
  obtain ⟨h0, h1, _, _⟩ := range_cells h
  intro j v hv
  match j, hv with
  | 0, hv => simp only [List.getElem?_cons_zero, Option.some.injEq] at hv; subst hv; exact h0
  | 1, hv => simp only [List.getElem?_cons_succ, List.getElem?_cons_zero, Option.some.injEq] at hv; subst hv; exact h1
  | j + 2, hv => simp at hv
section
variable {H : Type} {enc : TypeId × Value → H} {P : Program} {w : World} {base : Nat} {spare : Nat → Bool} {held : Bool}
theorem trod_intK {t : TypeId} {k : IntKind} {fuel : Nat} {cs : List Value} {x : DataW H × List MemPlace} (ht : P.underlying t = some (.int k)) (h : DataW.trod enc P w base spare held fuel t cs = some x) : ∃ n, cs = [.int k n] ∧ (Lit.int k n).wf = true := by
  cases fuel with
  | zero => simp [DataW.trod] at h
  | succ n =>
    unfold DataW.trod at h
    rw [ht] at h
    split at h <;> simp_all
theorem wf_i16 {n : Int} (h : (Lit.int .i16 n).wf = true) : i16B n := by
  simpa [Lit.wf, IntKind.has, IntKind.min, IntKind.max, IntKind.signed, IntKind.bits, i16B] using h
theorem trod_array2 {t e : TypeId} {fuel : Nat} {c0 c1 : Value} {x : DataW H × List MemPlace} (ht : P.underlying t = some (.array 2 e)) (hce : P.cellsOf e = 1)
    (h : DataW.trod enc P w base spare held fuel t [c0, c1] = some x) :
    ∃ y0 y1 n, DataW.trod enc P w base spare held n e [c0] = some y0 ∧ DataW.trod enc P w base spare held n e [c1] = some y1 := by
  cases fuel with
  | zero => simp [DataW.trod] at h
  | succ n =>
    unfold DataW.trod at h
    rw [ht] at h
    have r2 : List.range 2 = [0, 1] := rfl
    simp [r2, hce] at h
    obtain ⟨_, h⟩ := h
    cases h0 : DataW.trod enc P w base spare held n e [c0] with
    | none => simp [h0] at h
    | some y0 =>
      cases h1 : DataW.trod enc P w base spare held n e [c1] with
      | none => simp [h0, h1] at h
      | some y1 => exact ⟨y0, y1, n, h0, h1⟩
theorem open_echo {t e f i16 i64 sp : TypeId} {f0 f1 f2 : Field} {v : Value} {d : DataW H} {p : List MemPlace} (ht : P.underlying t = some (.slice e)) (he : P.underlying e = some (.struct #[f0, f1, f2])) (hs : P.underlying sp = some (.array 2 i16)) (h16 : P.underlying i16 = some (.int .i16))
    (hf : P.underlying f = some (.float .f32)) (h64 : P.underlying i64 = some (.int .i64)) (e0 : f0.type = sp ∧ f0.offset = 0) (e1 : f1.type = f ∧ f1.offset = 2) (e2 : f2.type = i64 ∧ f2.offset = 3) (hC : P.cellsOf e = 4) (hS : P.cellsOf sp = 2) (h1 : P.cellsOf i16 = 1) (hF : P.cellsOf f = 1) (hI : P.cellsOf i64 = 1)
    (h : DataW.Trod enc P w base spare held t v d p) (hv : v.cells.toList = [v]) : ∃ n x, RdE w v n x ∧ n ≤ maxLen ∧ ∀ k, (x k).ok := by
  obtain ⟨fuel, h⟩ := h
  rw [hv] at h
  rcases Go.Deep.open_slice ht h with ⟨h0, _⟩ | ⟨ad, len, cap, m, n, D, Pl, hcs, _, hlc, hcm, hm, _, hel⟩
  · injection h0 with h0 _
    subst h0
    exact ⟨0, fun _ => ⟨0, 0, 0, 0⟩, ⟨none, 0, rfl, fun h => by omega⟩, Nat.zero_le _, fun _ => E4.zero_ok⟩
  · injection hcs with hcs _
    subst hcs
    have hlm : len ≤ m := by rw [hm]; split <;> omega
    have one : ∀ i, i < len → ∃ c : E4, (w.cell? (ad.add (i * 4)) = some (.int .i16 c.a) ∧ w.cell? (ad.add (i * 4 + 1)) = some (.int .i16 c.b) ∧ w.cell? (ad.add (i * 4 + 2)) = some (.float .f32 c.q) ∧ w.cell? (ad.add (i * 4 + 3)) = some (.int .i64 c.s)) ∧ c.ok := by
      intro i hi
      obtain ⟨cs', hc, ht'⟩ := hel i (by omega)
      rw [hC] at hc
      obtain ⟨_, hlen, hat⟩ := World.cells?_some hc
      obtain ⟨y0, y1, y2, n1, _, _, k0, k1, k2⟩ := Go.Deep.trod_struct3 he ht'
      rw [e0.1, e0.2, hS] at k0
      rw [e1.1, e1.2, hF] at k1
      rw [e2.1, e2.2, hI] at k2
      match cs', hlen with
      | [c0, c1, c2, c3], _ =>
        simp only [List.drop_zero, List.take_succ_cons, List.take_zero, List.drop_succ_cons] at k0 k1 k2
        obtain ⟨z0, z1, n2, l0, l1⟩ := trod_array2 hs h1 k0
        obtain ⟨q0, r0, s0⟩ := trod_intK h16 l0
        obtain ⟨q1, r1, s1⟩ := trod_intK h16 l1
        obtain ⟨q2, r2, s2⟩ := trod_f32 hf k1
        obtain ⟨q3, r3, _⟩ := trod_intK h64 k2
        simp only [List.cons.injEq, and_true] at r0 r1 r2 r3
        subst r0 r1 r2 r3
        have a0 := hat 0 (by omega)
        have a1 := hat 1 (by omega)
        have a2 := hat 2 (by omega)
        have a3 := hat 3 (by omega)
        simp only [Addr.add_add] at a0 a1 a2 a3
        exact ⟨⟨q0, q1, q2, q3⟩, ⟨by simpa using a0, by simpa using a1, by simpa using a2, by simpa using a3⟩, s2, wf_i16 s0, wf_i16 s1⟩
    obtain ⟨Q, hQ⟩ : ∃ Q : Nat → E4, ∀ i, i < len → (w.cell? (ad.add (i * 4)) = some (.int .i16 (Q i).a) ∧ w.cell? (ad.add (i * 4 + 1)) = some (.int .i16 (Q i).b) ∧ w.cell? (ad.add (i * 4 + 2)) = some (.float .f32 (Q i).q) ∧ w.cell? (ad.add (i * 4 + 3)) = some (.int .i64 (Q i).s)) ∧ (Q i).ok :=
      ⟨fun i => if hi : i < len then Classical.choose (one i hi) else ⟨0, 0, 0, 0⟩, fun i hi => by simp only [dif_pos hi]; exact Classical.choose_spec (one i hi)⟩
    refine ⟨len, fun k => if k < len then Q k else ⟨0, 0, 0, 0⟩, ⟨some ad, cap, rfl, fun hn => ?_⟩, Nat.le_trans hlc hcm, fun k => ?_⟩
    · have hsp : ad.spot = none := by
        have := (hQ 0 hn).1.1
        unfold World.cell? at this
        split at this
        · split at this
          · cases this
          · rename_i hs; simpa [Addr.add] using hs
        · cases this
      obtain ⟨b, o, sp⟩ := ad
      obtain rfl : sp = none := hsp
      refine ⟨b, o, rfl, fun i hi => ?_⟩
      have hq := (hQ i hi).1
      simp only [Addr.add_mid] at hq
      show w.rangeAt b (o + i * 4) (e4 (if i < len then Q i else ⟨0, 0, 0, 0⟩))
      rw [if_pos hi]
      simp only [← Nat.add_assoc] at hq
      exact range_of_cells hq
    · show (if k < len then Q k else ⟨0, 0, 0, 0⟩ : E4).ok
      split
      · rename_i hk; exact (hQ k hk).2
      · exact E4.zero_ok
end

/-- The first k cells of a block of n are those of x. -/
def LvE (cs : Array Value) (n k : Nat) (x : Nat → E4) : Prop := cs.size = 4 * n ∧ ∀ i, i < k → cs[i * 4]? = some (.int .i16 (x i).a) ∧ cs[i * 4 + 1]? = some (.int .i16 (x i).b) ∧ cs[i * 4 + 2]? = some (.float .f32 (x i).q) ∧ cs[i * 4 + 3]? = some (.int .i64 (x i).s)
theorem LvE.step {cs : Array Value} {n k : Nat} {x : Nat → E4} (h : LvE cs n k x) (hk : k < n) : LvE (putCells cs (k * 4) (e4 (x k))) n (k + 1) x := by
  have hs := h.1
  show LvE ((((cs.setIfInBounds (k * 4) _).setIfInBounds (k * 4 + 1) _).setIfInBounds (k * 4 + 1 + 1) _).setIfInBounds (k * 4 + 1 + 1 + 1) _) n (k + 1) x
  refine ⟨by simpa using hs, fun i hi => ?_⟩
  simp only [Array.getElem?_setIfInBounds, Array.size_setIfInBounds]
  by_cases he : i = k
  · subst he
    refine ⟨?_, ?_, ?_, ?_⟩
    · rw [if_neg (by omega), if_neg (by omega), if_neg (by omega), if_pos rfl, if_pos (by omega)]
    · rw [if_neg (by omega), if_neg (by omega), if_pos rfl, if_pos (by omega)]
    · rw [if_neg (by omega), if_pos (by omega), if_pos (by omega)]
    · rw [if_pos (by omega), if_pos (by omega)]
  · have := h.2 i (by omega)
    refine ⟨?_, ?_, ?_, ?_⟩
    · rw [if_neg (by omega), if_neg (by omega), if_neg (by omega), if_neg (by omega)]; exact this.1
    · rw [if_neg (by omega), if_neg (by omega), if_neg (by omega), if_neg (by omega)]; exact this.2.1
    · rw [if_neg (by omega), if_neg (by omega), if_neg (by omega), if_neg (by omega)]; exact this.2.2.1
    · rw [if_neg (by omega), if_neg (by omega), if_neg (by omega), if_neg (by omega)]; exact this.2.2.2
theorem LvE.rd {w w0 : World} {cs : Array Value} {n B : Nat} {T : TypeId} {x : Nat → E4} {l : List (Nat × Array Value × TypeId)} (h : LvE cs n n x) (k : Kept w0 l w) (hm : (B, cs, T) ∈ l) (cap : Nat) : RdE w (.slice (some ⟨B, 0, none⟩) n cap) n x := by
  have hb := k.at hm
  refine ⟨_, cap, rfl, fun _ => ⟨B, 0, rfl, fun i hi => range_of_cells ?_⟩⟩
  obtain ⟨h0, h1, h2, h3⟩ := h.2 i hi
  rw [Nat.zero_add]
  exact ⟨(cell_of_row w B _ _ _ _ hb).trans h0, (cell_of_row w B _ _ _ _ hb).trans h1, (cell_of_row w B _ _ _ _ hb).trans h2, (cell_of_row w B _ _ _ _ hb).trans h3⟩
theorem run_makeE {P : Program} {t e : TypeId} (ht : P.underlying t = some (.slice e)) (hi : (P.info? e).map (fun i => (i.zero, i.size, i.bytes)) = some (some (.agg #[.int .i16 0, .int .i16 0, .float .f32 0, .int .i64 0]), 4, 16)) {n : Nat} (hn : n ≤ 1048576) (w : World) :
    ∃ cs, LvE cs n 0 (fun _ => ⟨0, 0, 0, 0⟩) ∧ (Instr.makeSlice t (.int .i64 (n : Int)) (.int .i64 (n : Int))).run P w = .ok (.slice (some ⟨w.heap.size, 0, none⟩) n n) (w.alloc (.cells cs e)) := by
  obtain ⟨i, hi1, hi2⟩ := Option.map_eq_some_iff.1 hi
  injection hi2 with h2 hi3
  injection hi3 with h3 h4
  have h := run_make (P := P) w t e i _ ht hi1 h2 .i64 .i64 n n (by omega) (Int.le_refl _) (by rw [h4]; omega) (by omega)
  refine ⟨_, ⟨?_, fun i hi => absurd hi (Nat.not_lt_zero _)⟩, by rw [h, h3]; simp only [Int.toNat_natCast]; rfl⟩
  simp [madeCells]
  omega
section
variable {P : Program} {md : Region.Mode} {ops : Array Oper} {Q : Exit → Act → World → Prop} {S : World → Prop} {fuel : Nat} {listed : Array Bool} {a : Act} {w : World} {d : Option Tmp} {op : Op} {ty0 : TypeId} {ps : String} {af : Array Edge} {gd : Option (Nat × Bool)}
/-- An operation whose guard does not hold is passed. -/
theorem take_skip (i : Nat) (a' : Act) (listed' : Array Bool) (ho : ops[i]? = some ⟨d, op, ty0, ps, af, gd⟩) (hw : Region.wanted ⟨d, op, ty0, ps, af, gd⟩ (yielded ops a.tmps) = false)
    (hs : Region.noSelect ops = true) (hf : Region.free md ops listed i = true) (hr : (Region.ready md ops listed).contains i = true)
    (ha : a.put d undef = a') (hl : listed.setIfInBounds i true = listed') (hS : S w)
    (h : wpAnyH P md ops (NoPanic Q) S fuel listed' a' w) : wpAnyH P md ops (NoPanic Q) S (fuel + 1) listed a w := by
  subst ha hl
  exact wpAnyH_take ho hs hf hr (fun _ _ _ h => h) (.inr ⟨hw, rfl⟩) hS h
end
end Go.Fl
/- Slices whose elements have one cell; the words of noise. No program. -/
namespace Go.Fl
open Ieee Go Go.RowKit
/-- The first m cells are y. -/
def LvV (cs : Array Value) (m : Nat) (y : Nat → Value) : Prop := m ≤ cs.size ∧ ∀ k, k < m → cs[k]? = some (y k)
def upV (y : Nat → Value) (i : Nat) (a : Value) : Nat → Value := fun k => if k = i then a else y k
theorem LvV.set {cs : Array Value} {m : Nat} {y : Nat → Value} (h : LvV cs m y) (i : Nat) (a : Value) : LvV (cs.setIfInBounds i a) m (upV y i a) := by
  refine ⟨by simp [h.1], fun k hk => ?_⟩
  unfold upV
  by_cases e : k = i
  · subst e
    rw [if_pos rfl, Array.getElem?_setIfInBounds_self_of_lt (by have := h.1; omega)]
  · rw [if_neg e, Array.getElem?_setIfInBounds_ne (by omega)]
    exact h.2 k hk
theorem LvV.ext {cs : Array Value} {m : Nat} {y z : Nat → Value} (h : LvV cs m y) (e : ∀ k, k < m → y k = z k) : LvV cs m z := ⟨h.1, fun k hk => by rw [h.2 k hk, e k hk]⟩
def RdV (w : World) (v : Value) (n : Nat) (y : Nat → Value) : Prop := ∃ p cap, v = .slice p n cap ∧ (0 < n → ∃ b o, p = some ⟨b, o, none⟩ ∧ ∀ k, k < n → w.cell? ⟨b, o + k, none⟩ = some (y k))
section
variable {w0 w w' : World} {l : List (Nat × Array Value × TypeId)} {B : Nat} {cs : Array Value} {T : TypeId} {y : Nat → Value} {n m : Nat}
theorem LvV.cell (h : LvV cs m y) (hb : w.heap[B]? = some (.cells cs T (0, 0))) {k : Nat} (hk : k < m) : w.cell? ⟨B, k, none⟩ = some (y k) :=
  (cell_of_row w B k _ _ _ hb).trans (h.2 k hk)
theorem LvV.rd (h : LvV cs n y) (hb : w.heap[B]? = some (.cells cs T (0, 0))) (cap : Nat) : RdV w (.slice (some ⟨B, 0, none⟩) n cap) n y :=
  ⟨some ⟨B, 0, none⟩, cap, rfl, fun _ => ⟨B, 0, rfl, fun k hk => by rw [Nat.zero_add]; exact h.cell hb hk⟩⟩
theorem Kept.rdV (k : Kept w0 l w) (h : LvV cs n y) (hm : (B, cs, T) ∈ l) (cap : Nat) : RdV w (.slice (some ⟨B, 0, none⟩) n cap) n y := h.rd (k.at hm) cap
theorem RdV.zero (w : World) (p : Option Addr) (cap : Nat) (y : Nat → Value) : RdV w (.slice p 0 cap) 0 y := ⟨p, cap, rfl, fun h => absurd h (Nat.lt_irrefl _)⟩
theorem RdV.stay {v : Value} (h : RdV w v n y) (hb : Below w.heap.size w w') : RdV w' v n y := by
  obtain ⟨p, cap, rfl, hc⟩ := h
  refine ⟨p, cap, rfl, fun hn => ?_⟩
  obtain ⟨b, o, rfl, hr⟩ := hc hn
  exact ⟨b, o, rfl, fun k hk => by have h1 := hr k hk; rw [hb.cell (block_lt_of_cell h1)]; exact h1⟩
end
/-- Marks in place up to m, as before from there on. -/
def mrV (y f : Nat → Value) (m : Nat) : Nat → Value := fun j => if j < m then f j else y j
theorem mrV_zero (y f : Nat → Value) : mrV y f 0 = y := by funext j; simp [mrV]
theorem mrV_step (y f : Nat → Value) (m : Nat) : upV (mrV y f m) m (f m) = mrV y f (m + 1) := by
  funext j
  unfold mrV upV
  by_cases h : j = m
  · subst h; rw [if_pos rfl, if_pos (by omega)]
  · rw [if_neg h]
    by_cases h1 : j < m
    · show (if j < m then f j else y j) = _
      rw [if_pos h1, if_pos (by omega)]
    · show (if j < m then f j else y j) = _
      rw [if_neg h1, if_neg (by omega)]
section
variable {P : Program} {ops : Array Oper} {rest : List Oper} {o : Oper} {a : Act} {w w0 : World} {Q : Exit → Act → World → Prop} {l : List (Nat × Array Value × TypeId)} {T : TypeId} {cs : Array Value} {m : Nat} {y : Nat → Value}
/-- One element of a kept block, stored. -/
theorem store_lv1 (hgd : o.guard = none) (ty : TypeId) (x z : Operand) (ho : o.op = .store ty x z) (hi : (P.info? ty).map (·.size) = some 1) (B i : Nat) (v : Value) (hx : a.eval x = .pointer (some ⟨B, i, none⟩)) (hz : a.eval z = v) (h1 : v.oneCell' = true) (hs1 : v.cells = #[v])
    (k : Kept w0 ((B, cs, T) :: l) w) (h : LvV cs m y) (hm : i < m) (hB : w0.heap.size ≤ B) (hne : ∀ x ∈ l, x.1 ≠ B)
    (hn : ∀ w', Kept w0 ((B, cs.setIfInBounds i v, T) :: l) w' → LvV (cs.setIfInBounds i v) m (upV y i v) → wpList P ops Q rest (a.put o.dst undef) w') : wpList P ops Q (o :: rest) a w := by
  have hb := k.at (x := (B, cs, T)) (by simp)
  have hr := run_store_any (P := P) hi h1 hs1 (h.cell hb hm) (frozen_of_row w B i _ _ hb)
  refine wpList_plain hgd fun K hK' => ?_
  unfold Oper.wp
  simp [execOp, ho, Instr.storeAt, Instr.sureAddr, hx, hz, hr, Result.andThen]
  exact hK' _ _ (hn _ (k.lcell hB hne i _) (h.set i v))
def wdv (x : Nat → Value) (m : Nat) : List Value := (List.range m).map x
theorem wdv_get {x : Nat → Value} {m i : Nat} (h : i < m) : (wdv x m)[i]? = some (x i) := by simp [wdv, h]
theorem wdv_one (x : Nat → Value) (k : Nat) : wdv x k ++ [x k] = wdv x (k + 1) := by
  unfold wdv
  rw [List.range_succ]
  simp
theorem own_keptV {v : Value} {n : Nat} {x : Nat → Value} (hn : 0 < n) (h : w.ownsRow w0.heap.size T 1 v n (wdv x n)) (hb : Below w0.heap.size w0 w) :
    ∃ B cs cap, v = .slice (some ⟨B, 0, none⟩) n cap ∧ w0.heap.size ≤ B ∧ LvV cs n x ∧ Kept w0 [(B, cs, T)] w := by
  rcases h.2 with ⟨_, h0⟩ | ⟨g, cap, cur, e, hB, hg, hnc, hcm, hcs, ht⟩
  · omega
  · refine ⟨g, cur, cap, e, hB, ⟨?_, fun k hk => ?_⟩, ⟨hb, fun y hy => ?_⟩⟩
    · rw [hcs]; omega
    · have h1 : (cur.toList.take (n * 1))[k]? = some (x k) := by rw [ht]; exact wdv_get (by omega)
      rw [List.getElem?_take, if_pos (by omega), Array.getElem?_toList] at h1
      exact h1
    · simp only [List.mem_cons, List.not_mem_nil, or_false] at hy
      subst hy
      exact hg
/-- One element appended to a slice of one's own. -/
theorem append_one (hg : o.guard = none) (s y : Operand) (t : TypeId) (hop : o.op = Op.call { callee := Callee.builtin Builtin.append, args := #[s, y], argTypes := #[t, t] })
    (e : TypeId) (ht : P.underlying t = some (.slice e)) (z : Value) (by8 : Nat) (hzc : z.cells = #[z]) (h8 : 0 < by8 ∧ by8 ≤ 8) (hi : (P.info? e).map (fun i => (i.zero, i.size, i.bytes)) = some (some z, 1, by8))
    (v : Value) (k : Nat) (x : Nat → Value) (hs : a.eval s = v) (hown : w.ownsRow w0.heap.size e 1 v k (wdv x k)) (hb : Below w0.heap.size w0 w)
    (ad : Nat) (A : Value) (hA : x k = A) (h1c : A.oneCell' = true) (hx : a.eval y = .slice (some ⟨ad, 0, none⟩) 1 1) (hrow : w.heap[ad]? = some (.cells #[A] e (0, 0))) (hk : k ≤ 1048576)
    (h : ∀ v' w', w'.ownsRow w0.heap.size e 1 v' (k + 1) (wdv x (k + 1)) → Below w0.heap.size w0 w' → wpList P ops Q rest (a.put o.dst v') w') : wpList P ops Q (o :: rest) a w := by
  obtain ⟨i, hi1, hi2⟩ := Option.map_eq_some_iff.1 hi
  injection hi2 with hz hi3
  injection hi3 with hsize hby
  refine wpList_append_own w hg s y t hop w0.heap.size e i _ 1 by8 ht hi1 hz hsize hby (by rw [hzc]; rfl) (by omega) v k (wdv x k) hs hown ⟨ad, 0, none⟩ 1 1 [A] hx rfl (fun j u hj => ?_) (by simp [h1c]) (Nat.le_trans (show k + 1 ≤ 2097152 by omega) (by decide)) (by have := Nat.mul_le_mul (show k + 1 ≤ 1048577 by omega) h8.2; omega) hb.size (fun v' w' h1 h2 _ => h v' w' ?_ ?_)
  · rw [Addr.add_mid, cell_of_row w ad (0 + j) _ _ _ hrow, Nat.zero_add]
    rw [← hj, ← Array.getElem?_toList]
  · subst hA
    rw [wdv_one] at h1
    exact h1
  · exact hb.grown h2 hb.size fun g hgv => (hown.lt g hgv).1
theorem run_makeV {t e : TypeId} (ht : P.underlying t = some (.slice e)) (z : Value) (by8 : Nat) (hz : z.cells = #[z]) (h8 : by8 ≤ 8) (hi : (P.info? e).map (fun i => (i.zero, i.size, i.bytes)) = some (some z, 1, by8)) {n : Nat} (hn : n ≤ 1048576) (w : World) :
    ∃ cs, LvV cs n (fun _ => z) ∧ (Instr.makeSlice t (.int .i64 (n : Int)) (.int .i64 (n : Int))).run P w = .ok (.slice (some ⟨w.heap.size, 0, none⟩) n n) (w.alloc (.cells cs e)) := by
  obtain ⟨i, hi1, hi2⟩ := Option.map_eq_some_iff.1 hi
  injection hi2 with h2 hi3
  injection hi3 with h3 h4
  have h := run_make (P := P) w t e i _ ht hi1 h2 .i64 .i64 n n (by omega) (Int.le_refl _) (by rw [h4]; have := Nat.mul_le_mul h8 hn; omega) (by omega)
  refine ⟨_, ⟨?_, fun k hk => ?_⟩, by rw [h, h3]; simp only [Int.toNat_natCast]; rfl⟩
  · simp [madeCells]
  · simp [madeCells, hz, hk, Nat.mod_one]
end
/-! The words of noise. -/
def nzF (s : Int) : Nat := floatOfInt .f32 (s / 65536 - 32768)
def nzQ (s : Int) : Nat := sgnW (nzF s) (fdiv (mg (nzF s)) 1191182336)
def nzW (st : Nat) (s : Int) : Nat := sgnW (nzQ s) (fmul st (mg (nzQ s)))
theorem int_low {i : Int} (h : -32768 ≤ i ∧ i ≤ 32768) : floatOfInt .f32 i < 4294967296 ∧ mg (floatOfInt .f32 i) ≤ 1191182336 := by
  have e : floatOfInt .f32 i = sgS (decide (i < 0)) (iS i.natAbs) := by
    show S.write (.number (decide (i < 0)) i.natAbs 0) = _
    rw [write_signS]
    unfold sgS iS
    simp
  have hle : iS i.natAbs ≤ 1191182336 := by
    show S.nearest false i.natAbs (-149 + ((149 : Int))) ≤ 1191182336
    refine nearest_le_word (by decide) 149 0 (by omega) ?_
    have hv : val 1191182336 = 32768 * 2 ^ 149 := by decide +kernel
    rw [hv, Nat.pow_zero, Nat.mul_one]
    exact Nat.mul_le_mul_right _ (by omega)
  have hI : iS i.natAbs < INF := Nat.lt_of_le_of_lt hle (by decide)
  rw [e, mg_sgS hI]
  exact ⟨(sgS_fin hI).1, hle⟩
theorem noise_f {st : Nat} {s : Int} (hst : amtB st = true) (hs : 0 ≤ s ∧ s < 4294967296) : S.div (nzF s) 1191182336 = some (nzQ s) ∧ S.mul st (nzQ s) = some (nzW st s) ∧ nzW st s < 4294967296 ∧ finB (nzW st s) = true := by
  obtain ⟨l1, l2⟩ := int_low (i := s / 65536 - 32768) (by omega)
  have hm : mg (nzF s) < INF := Nat.lt_of_le_of_lt l2 (by decide)
  have hd := div_sgn (x := nzF s) (y := 1191182336) l1 hm (by decide) (by decide)
  have hq : fdiv (mg (nzF s)) 1191182336 ≤ 1065353216 := quo_le_one (by decide) (by decide) l2
  have hqi : fdiv (mg (nzF s)) 1191182336 < INF := Nat.lt_of_le_of_lt hq (by decide)
  obtain ⟨g1, g2⟩ := sgnW_mg (x := nzF s) (inf_small hqi)
  have hq2 : mg (nzQ s) ≤ 1065353216 := by show mg (sgnW _ _) ≤ _; rw [g1]; exact hq
  have hmul := mul_sgr (t := st) (y := nzQ s) g2 (Nat.lt_of_le_of_lt hq2 (by decide)) (amtB_iff.1 hst)
  have hle : fmul st (mg (nzQ s)) ≤ st := by
    rw [fmul_comm (amtB_iff.1 hst) (Nat.lt_of_le_of_lt hq2 (by decide))]
    exact fmul_le hq2 (amtB_iff.1 hst)
  have hli : fmul st (mg (nzQ s)) < INF := Nat.lt_of_le_of_lt hle (amtB_iff.1 hst)
  obtain ⟨k1, k2⟩ := sgnW_mg (x := nzQ s) (inf_small hli)
  exact ⟨hd, hmul, k2, finB_iff.2 (by show mg (sgnW _ _) < INF; rw [k1]; exact hli)⟩
/-- The next seed; the seed after k draws. -/
def nxN (s : Int) : Int := (1664525 * s % 4294967296 + 1013904223) % 4294967296
def sdN (s : Int) : Nat → Int
  | 0 => s
  | k + 1 => nxN (sdN s k)
theorem nxN_bnd (s : Int) : 0 ≤ nxN s ∧ nxN s < 4294967296 := by unfold nxN; omega
theorem nxN_alt (s : Int) : (1664525 * s + 1013904223) % 4294967296 = nxN s := by unfold nxN; omega
theorem sdN_bnd {s : Int} (h : 0 ≤ s ∧ s < 4294967296) : ∀ k, 0 ≤ sdN s k ∧ sdN s k < 4294967296
  | 0 => h
  | _ + 1 => nxN_bnd _
/-- The pulses of noise. -/
def nzV (st : Nat) (s : Int) (k : Nat) : Value := .complex .f32 (nzW st (sdN s (2 * k + 1))) (nzW st (sdN s (2 * k + 2)))
/-- A mark. -/
def ckV (k : Nat) : Value := .complex .f32 (wS k) 1065353216
theorem ck_all : ((List.range 130).all fun k => (cConvBits .f64 (floatOfInt .f64 (k : Int)) 4607182418800017408 .f32 == some (wS k, 1065353216)) && (FloatKind.f32.format.order (wS k) (wS k) == some .eq)) = true := by decide +kernel
theorem ck_one {k : Nat} (h : k < 130) : cConvBits .f64 (floatOfInt .f64 (k : Int)) 4607182418800017408 .f32 = some (wS k, 1065353216) ∧ (FloatKind.f32.format.order (wS k) (wS k) == some .eq) = true := by
  have := List.all_eq_true.1 ck_all k (List.mem_range.2 h)
  simp only [Bool.and_eq_true, beq_iff_eq] at this
  exact ⟨this.1, by rw [this.2]; rfl⟩
end Go.Fl
/- The text of a number: hexadecimal digits. No program. -/
namespace Go.Fl
open Ieee Go Go.RowKit
def hexN (d : Nat) : Nat := if d < 10 then 48 + d else 87 + d
def hexD (d : Nat) : UInt8 := UInt8.ofNat (hexN d)
theorem hexN_lt {d : Nat} (h : d < 16) : hexN d < 256 := by unfold hexN; split <;> omega
theorem hexD_nat {d : Nat} (h : d < 16) : (hexD d).toNat = hexN d := by
  unfold hexD
  rw [UInt8.toNat_ofNat']
  exact Nat.mod_eq_of_lt (hexN_lt h)
/-- The last k digits of n. -/
def hexL (n : Nat) : Nat → List UInt8
  | 0 => []
  | k + 1 => hexL (n / 16) k ++ [hexD (n % 16)]
theorem hexL_length : ∀ (k n : Nat), (hexL n k).length = k
  | 0, _ => rfl
  | k + 1, n => by simp [hexL, hexL_length k]
theorem hexL_nil : ∀ j, hexL 0 j = List.replicate j 48
  | 0 => rfl
  | j + 1 => by
    show hexL (0 / 16) j ++ [hexD (0 % 16)] = _
    rw [Nat.zero_div, hexL_nil j, List.replicate_succ']; rfl
theorem hexL_zeros : ∀ (k n j : Nat), n < 16 ^ k → hexL n (k + j) = List.replicate j 48 ++ hexL n k
  | 0, n, j, h => by
    have : n = 0 := by simpa using h
    subst this
    rw [Nat.zero_add, hexL_nil]; simp [hexL]
  | k + 1, n, j, h => by
    rw [show k + 1 + j = k + j + 1 by omega]
    show hexL (n / 16) (k + j) ++ [hexD (n % 16)] = List.replicate j 48 ++ (hexL (n / 16) k ++ [hexD (n % 16)])
    rw [hexL_zeros k (n / 16) j (by rw [Nat.pow_succ] at h; omega), List.append_assoc]
theorem hexL_get : ∀ (k n i : Nat), i < k → (hexL n k)[i]? = some (hexD (n / 16 ^ (k - 1 - i) % 16))
  | 0, _, _, h => by omega
  | k + 1, n, i, h => by
    show (hexL (n / 16) k ++ [hexD (n % 16)])[i]? = _
    by_cases e : i = k
    · subst e
      rw [List.getElem?_append_right (by rw [hexL_length]; omega), hexL_length, Nat.sub_self]
      rw [show i + 1 - 1 - i = 0 by omega]; simp
    · rw [List.getElem?_append_left (by rw [hexL_length]; omega), hexL_get k (n / 16) i (by omega), Nat.div_div_eq_div_mul, show k + 1 - 1 - i = (k - 1 - i) + 1 by omega, Nat.pow_succ, Nat.mul_comm]
/-- Digits that are written from the last one on, t of them, in m cells. -/
def hxW (n m t : Nat) : Nat → Value := fun j => if m ≤ j + t then .int .u8 (hexN (n / 16 ^ (m - 1 - j) % 16) : Int) else .int .u8 0
theorem hxW_zero (n m : Nat) {j : Nat} (h : j < m) : hxW n m 0 j = .int .u8 0 := by unfold hxW; rw [if_neg (by omega)]
theorem hxW_step (n m : Nat) {t : Nat} (h : t < m) (j : Nat) (_ : j < m) : updV (hxW n m t) (m - 1 - t) (.int .u8 (hexN (n / 16 ^ t % 16) : Int)) j = hxW n m (t + 1) j := by
  unfold updV hxW
  by_cases e : j = m - 1 - t
  · rw [if_pos e, if_pos (by omega), show m - 1 - j = t by omega]
  · rw [if_neg e]
    by_cases e2 : m ≤ j + t
    · rw [if_pos e2, if_pos (by omega)]
    · rw [if_neg e2, if_neg (by omega)]
theorem hxW_read (n m : Nat) {k i : Nat} (hk : k ≤ m) (hi : i < k) : hxW n m k (m - k + i) = .int .u8 (((hexL n k)[i]'(by rw [hexL_length]; exact hi)).toNat : Int) := by
  have h := hexL_get k n i hi
  rw [List.getElem?_eq_getElem (by rw [hexL_length]; exact hi)] at h
  rw [Option.some.inj h, hexD_nat (Nat.mod_lt _ (by decide))]
  unfold hxW
  rw [if_pos (by omega), show m - 1 - (m - k + i) = k - 1 - i by omega]
theorem hx_more {n t : Nat} (hn : n < 4294967296) (h : 16 ≤ n / 16 ^ t) : t < 7 := by
  rcases Nat.lt_or_ge t 7 with h1 | h1
  · exact h1
  · exfalso
    have h2 : n / 16 ^ t ≤ n / 16 ^ 7 := Nat.div_le_div_left (Nat.pow_le_pow_right (by decide) h1) (by decide)
    have h3 : n / 16 ^ 7 < 16 := by
      rw [Nat.div_lt_iff_lt_mul (by decide)]; exact hn
    omega
theorem hx_next (n t : Nat) : n / 16 ^ t / 16 = n / 16 ^ (t + 1) := by rw [Nat.div_div_eq_div_mul, Nat.pow_succ]
theorem hx_last {n t : Nat} (h : n / 16 ^ t < 16) : n < 16 ^ (t + 1) := by
  rw [Nat.pow_succ, Nat.mul_comm]; exact (Nat.div_lt_iff_lt_mul (Nat.pow_pos (by decide))).1 h
theorem hx_st {n t u j : Nat} (hu : u = n / 16 ^ t) (hj : j + t = 64) (i : Nat) (hi : i < 65) : updV (hxW n 65 t) j (.int .u8 (hexN (u % 16) : Int)) i = hxW n 65 (t + 1) i := by
  have := hxW_step n 65 (t := t) (by omega) i hi
  rwa [← hu, show 65 - 1 - t = j by omega] at this
theorem index_hex {P : Program} {s : ByteArray} {T : TypeId} (k : IntKind) (hT : P.underlying T = some .string) (hs : 16 ≤ s.size) (hd : ∀ d (h : d < 16), (s[d]'(by omega)).toNat = hexN d) (d : Nat) (h : d < 16) (w : World) :
    (Instr.index T (.string s) (.int k (d : Int))).run P w = .ok (.int .u8 (hexN d : Int)) w := by
  rw [run_index_string w T s k (d : Int) hT, dif_pos ⟨by omega, by omega⟩]
  have := hd d h
  simp only [Int.toNat_natCast]
  rw [this]
theorem hx_st' {n t u j : Nat} (hu : u = n / 16 ^ t) (h : u < 16) (hj : j + t = 64) (i : Nat) (hi : i < 65) : updV (hxW n 65 t) j (.int .u8 (hexN u : Int)) i = hxW n 65 (t + 1) i := by
  have := hx_st hu hj i hi
  rwa [Nat.mod_eq_of_lt h] at this
theorem hx_up {n t u j : Nat} (hu : u = n / 16 ^ t) (hj : j + t = 7) (i : Nat) (hi : i < 8) : upV (hxW n 8 t) j (.int .u8 (hexN (u % 16) : Int)) i = hxW n 8 (t + 1) i := by
  have := hxW_step n 8 (t := t) (by omega) i hi
  rwa [← hu, show 8 - 1 - t = j by omega] at this
theorem keptG {w : World} {g : Nat} {cs : Array Value} {T : TypeId} (h : w.heap[g]? = some (.cells cs T (0, 0))) : Kept w [(g, cs, T)] w :=
  ⟨Below.refl _ _, fun x hx => by rw [List.mem_singleton.1 hx]; exact h⟩
end Go.Fl
/- The frame of a law over any list of parameters: out of the walk's contract the row's step. No program. -/
namespace Go.LawFrame
open Go.ChangeShapes Go.WideShapes Go.ChangeAt Go.RowKit

section
variable {H : Type} {enc : TypeId × Value → H} {P : Program}

theorem trodAll_stays (hl : laidOutB P = true) : ∀ {ts : List TypeId} {vs : List Value} {ds : List (DataW H)} {ps : List MemPlace} {W W' : World} {sp : Nat → Bool},
    (∀ t ∈ ts, P.readableRec t = true ∧ t < P.types.size) → DataW.TrodAll enc P W 0 (fun _ => true) true ts vs ds ps → (∀ p ∈ ps, W.sameAt W' p) → (∀ p ∈ ps, sp p.block = true) →
    DataW.TrodAll enc P W' 0 sp true ts vs ds ps
  | [], [], [], _, _, _, _, _, h, _, _ => h
  | t :: ts, v :: vs, d :: ds, ps, W, W', sp, hts, h, hs, hp => by
    obtain ⟨p, q, h1, h2, rfl⟩ := h
    refine ⟨p, q, ?_, ?_, rfl⟩
    · exact WideElems.Trod_stays hl (hts t (by simp)).1 (hts t (by simp)).2 h1 (fun x hx => hs x (by simp [hx])) (fun x hx => hp x (by simp [hx]))
    · exact trodAll_stays hl (fun t' ht' => hts t' (by simp [ht'])) h2 (fun x hx => hs x (by simp [hx])) (fun x hx => hp x (by simp [hx]))

theorem trodAll_length : ∀ {ts : List TypeId} {vs : List Value} {ds : List (DataW H)} {ps : List MemPlace} {W : World} {b : Nat} {sp : Nat → Bool} {held : Bool},
    DataW.TrodAll enc P W b sp held ts vs ds ps → vs.length = ts.length ∧ ds.length = ts.length
  | [], [], [], _, _, _, _, _, _ => ⟨rfl, rfl⟩
  | _ :: ts, _ :: vs, _ :: ds, _, _, _, _, _, h => by
    obtain ⟨p, q, h1, h2, rfl⟩ := h
    obtain ⟨a, b⟩ := trodAll_length h2
    exact ⟨by simp [a], by simp [b]⟩
end

/-- THE ROW's STEP: where every call returns true and what was there before it is as it was. -/
theorem lifted {C : Checked} {os : Os} (started : os.Started) {H : Type} {enc : TypeId × Value → H} {f : FuncId} {fn : Func} {s : ChangeSpec} {n : Nat} {tb : TypeId}
    (own : ownKnob C.prog.godebug = none) (noInit : C.prog.inits.idxOf? f = none) (hfn : C.prog.funcs[f]? = some fn)
    (hl : laidOutB C.prog = true) (hts : ∀ t ∈ fn.params.toList, C.prog.readableRec t = true ∧ t < C.prog.types.size)
    (hn : fn.params.size = n) (hvars : s.vars = []) (hs : ∀ ds : List (DataW H), ds.length = n → s.fn H ds = { results := [.lit (.bool true)], args := ds })
    (hres : fn.resultTypes = #[tb]) (hb : C.prog.underlying tb = some .bool)
    (wit : ∃ (w : World) (tape : Tape) (i : Input), w.os = os ∧ (w.forCall tape i).Shaped C.prog ∧ i.vars = [] ∧ Input.okWide C.prog (w.forCall tape i) .any w.heap.size f i ∧
      s.pre6 enc C.prog fn [] false (w.forCall tape i).memory i.args ∧ ({} : Assume).holds C.prog (lone (Frame.enter C.prog f i.args .normal) [] (w.forCall tape i)))
    (walk : ∀ (W : World) (base : Nat) (args : Array Value) (ds : List (DataW H)) (ps : List MemPlace), (∀ (j : Nat) t v, fn.params[j]? = some t → args[j]? = some v → Value.okWide C.prog W .any base t v) → args.size = n →
      DataW.TrodAll enc C.prog W 0 (fun _ => true) true fn.params.toList args.toList ds ps →
      Calls C.prog f args W fun e W' => e = .returned (.bool true) ∧ Below W.heap.size W W') :
    ReturnsInHanded {} C os f .any (s.pre6 enc C.prog fn [] false) (s.post enc C.prog fn false true false false) := by
  refine returnsInHanded_of_change own started noInit hfn wit ?_
  intro W base args ds gs before hval hW _ _
  have hW' := hW
  obtain ⟨p, q, hA, hV, hb', hfz, hnd⟩ := hW
  rw [hvars] at hV
  obtain ⟨rfl, rfl⟩ := trodVars_none hV
  rw [List.append_nil] at hb'
  subst hb'
  obtain ⟨hlen, hlen2⟩ := trodAll_length hA
  simp only [Array.length_toList] at hlen hlen2
  refine (walk W base args ds before hval (hlen.trans hn) hA).mono fun e W' ⟨he, hg⟩ => ?_
  subst he
  have hsp := hs ds (hlen2.trans hn)
  have hlt : ∀ x ∈ before, x.block < W.heap.size := fun x hx => hW'.lt x hx
  have hr : ∀ (b : Nat) (sp : Nat → Bool) (hd : Bool), DataW.TrodAll enc C.prog W' b sp hd fn.resultTypes.toList ((Value.bool true).resultList fn.resultTypes.size) (s.fn H (ds ++ [])).results [] := by
    intro b sp hd
    rw [List.append_nil, hsp, hres]
    exact trodAll_cons_mk (shut_bool hb _) trodAll_mk0
  have ha : ∀ sp : Nat → Bool, (∀ x ∈ before, sp x.block = true) → DataW.TrodAll enc C.prog W' 0 sp true fn.params.toList args.toList (s.fn H (ds ++ [])).args before := by
    intro sp hsp'
    rw [List.append_nil, hsp]
    exact trodAll_stays hl hts hA (fun x hx => hg.same (hlt x hx)) hsp'
  have hv : ∀ sp : Nat → Bool, DataW.TrodVars enc C.prog W' sp s.vars (s.fn H (ds ++ [])).vars [] := by
    intro sp
    rw [List.append_nil, hsp, hvars]
    rfl
  refine ⟨_, rfl, ds, [], before, [], before, [], hW', hr _ _ _, ha _ (fun x hx => by simpa using hlt x hx), hv _, World.keptBut_mono (fun x hx => ⟨hx, .inr (by simpa using hx)⟩) (hg.frame (· ∈ before)), fun _ => ?_⟩
  have hT := trodAll_append (ha (fun _ => true) (fun _ _ => rfl)) (hr 0 (fun _ => true) true)
  refine ⟨ok_one hres rfl (okWide_bool_mk hb _), _, _, before, ⟨_, [], hT, hv _, by simp, ?_, fun h => by cases h⟩, fun x hx _ => by simpa using hx⟩
  intro b off hx
  rw [hg.frozen (hlt _ hx)]
  exact hfz b off (by simpa using hx)
end Go.LawFrame
/- Columns and acts that come in. No program. -/
namespace Go.Fl
open Ieee Go Go.RowKit
/-- A value of n cells, each of its own type. -/
theorem open_each {P : Program} {w : World} {r : Reach} {b0 : Nat} {t : TypeId} {v : Value} {d : TypeDesc} {n : Nat} {ts : List TypeId} (ht : P.underlying t = some d) (hd : (match d with | .struct _ | .array _ _ => true | _ => false) = true)
    (hc : P.cellsOf t = n) (hct : P.cellTypes P.depth t = some ts) (hl : ts.length = n) (h : Value.okWide P w r b0 t v) :
    ∃ f : Nat → Value, v = .agg (vls n f) ∧ ∀ i e, i < n → ts[i]? = some e → Cell.okWide P w r b0 e (f i) := by
  have h' : ∃ cs, v = .agg cs ∧ cs.size = n ∧ ∃ ts, P.cellTypes P.depth t = some ts ∧ (∃ k, cs.size = k * ts.length) ∧ ∀ (i : Nat) c, cs[i]? = some c → ∃ u, ts[i % ts.length]? = some u ∧ Cell.okWide P w r b0 u c := by
    cases d <;> simp only [Value.okWide, ht] at h <;> first | (cases hd; done) | (obtain ⟨cs, e, hsz, hr⟩ := h; exact ⟨cs, e, by rw [hsz, hc], hr⟩)
  obtain ⟨cs, rfl, hsz, ts', h1, _, h3⟩ := h'
  rw [hct] at h1
  obtain rfl := Option.some.inj h1
  refine ⟨fun i => cs[i]?.getD undef, by rw [← vls_of_array hsz], fun i e hi he => ?_⟩
  have hv : cs[i]? = some (cs[i]'(by omega)) := Array.getElem?_eq_getElem (by omega)
  obtain ⟨u, hu, hok⟩ := h3 i _ hv
  rw [hl, Nat.mod_eq_of_lt hi, he] at hu
  obtain rfl := Option.some.inj hu
  simpa [hv] using hok
theorem rep_head (n : Nat) (a b : TypeId) (i : Nat) (hi : i < n) : (List.replicate n a ++ [b])[i]? = some a := by
  rw [List.getElem?_append_left (by simpa using hi), List.getElem?_replicate, if_pos hi]
theorem rep_last (n : Nat) (a b : TypeId) : (List.replicate n a ++ [b])[n]? = some b := by
  rw [List.getElem?_append_right (by simp)]; simp
theorem rep_len (n : Nat) (a b : TypeId) : (List.replicate n a ++ [b]).length = n + 1 := by simp
theorem open_col {P : Program} {w : World} {r : Reach} {b0 : Nat} {t ef ei : TypeId} {v : Value} {d : TypeDesc} (ht : P.underlying t = some d) (hd : (match d with | .struct _ | .array _ _ => true | _ => false) = true)
    (hf : P.underlying ef = some (.float .f32)) (hi : P.underlying ei = some (.int .i64)) (hc : P.cellsOf t = 178) (hct : P.cellTypes P.depth t = some (List.replicate 177 ef ++ [ei])) (h : Value.okWide P w r b0 t v) :
    ∃ (c : Nat → Nat) (n : Int), v = .agg (vls 178 (clw c n)) ∧ (∀ i, i < 177 → c i < 4294967296) ∧ inI64 n := by
  obtain ⟨f, rfl, hk⟩ := open_each ht hd hc hct (rep_len 177 ef ei) h
  have hL := rep_head 177 ef ei
  have hR := rep_last 177 ef ei
  clear hct
  generalize List.replicate 177 ef ++ [ei] = ts at hk hL hR
  obtain ⟨n, hn, hb⟩ := cell_i64 hi (hk 177 ei (by omega) hR)
  refine ⟨fun i => match f i with | .float _ n => n | _ => 0, n, congrArg Value.agg (vls_ext fun i hi => ?_), fun i hi => ?_, hb⟩
  · by_cases e : i = 177
    · rw [e]; exact hn.trans clw_t.symm
    · obtain ⟨m, hm, _⟩ := cell_f32 hf (hk i ef hi (hL i (by omega)))
      rw [clw_f (by omega)]
      simp [hm]
  · obtain ⟨m, hm, hb⟩ := cell_f32 hf (hk i ef (by omega) (hL i hi))
    simpa [hm] using hb
theorem open_act {P : Program} {w : World} {r : Reach} {b0 : Nat} {t ef ei : TypeId} {v : Value} {d : TypeDesc} (ht : P.underlying t = some d) (hd : (match d with | .struct _ | .array _ _ => true | _ => false) = true)
    (hf : P.underlying ef = some (.float .f32)) (hi : P.underlying ei = some (.int .i64)) (hc : P.cellsOf t = 4) (hct : P.cellTypes P.depth t = some [ei, ei, ef, ef]) (h : Value.okWide P w r b0 t v) :
    ∃ (k q : Int) (a b : Nat), v = .agg #[.int .i64 k, .int .i64 q, .float .f32 a, .float .f32 b] ∧ inI64 k ∧ inI64 q ∧ a < 4294967296 ∧ b < 4294967296 := by
  obtain ⟨f, rfl, hk⟩ := open_each ht hd hc hct rfl h
  obtain ⟨k, e0, b0⟩ := cell_i64 hi (hk 0 ei (by omega) rfl)
  obtain ⟨q, e1, b1⟩ := cell_i64 hi (hk 1 ei (by omega) rfl)
  obtain ⟨a, e2, b2⟩ := cell_f32 hf (hk 2 ef (by omega) rfl)
  obtain ⟨b, e3, b3⟩ := cell_f32 hf (hk 3 ef (by omega) rfl)
  exact ⟨k, q, a, b, by show Value.agg #[f 0, f 1, f 2, f 3] = _; rw [e0, e1, e2, e3], b0, b1, b2, b3⟩
end Go.Fl
/- Laws over package-level variables that hold errors of errors.New: what is told of them; the frame. No program. -/
namespace Go.Fl
open Go.RowKit Go.ChangeShapes Go.WideShapes Go.ChangeAt
variable {P : Program}

/-- Such a variable's reading. -/
def sentD (nm : String) (t : List UInt8) : DataW Unit := .iface nm (.ptr (.agg [.lit (.string t)]))

/-- What is told of five listed errors: each variable points to a cell of its own. -/
theorem laid_five {n0 n1 n2 n3 n4 nm : String} {x0 x1 x2 x3 x4 : List UInt8} {W : World} {g0 g1 g2 g3 g4 : Nat} {ti tp te ts : TypeId} {ms : Array (String × TypeId)} {f : Field}
    (h : laidMet P [(n0, sentD nm x0), (n1, sentD nm x1), (n2, sentD nm x2), (n3, sentD nm x3), (n4, sentD nm x4)] W)
    (hg0 : P.globalNamed n0 = some g0) (ht0 : (P.globals[g0]?).map (·.type) = some ti)
    (hg1 : P.globalNamed n1 = some g1) (ht1 : (P.globals[g1]?).map (·.type) = some ti)
    (hg2 : P.globalNamed n2 = some g2) (ht2 : (P.globals[g2]?).map (·.type) = some ti)
    (hg3 : P.globalNamed n3 = some g3) (ht3 : (P.globals[g3]?).map (·.type) = some ti)
    (hg4 : P.globalNamed n4 = some g4) (ht4 : (P.globals[g4]?).map (·.type) = some ti)
    (hi : P.underlying ti = some (.interface ms)) (hrow : ∀ u, P.typeName? 3 u = some nm → u = tp)
    (hp : P.underlying tp = some (.pointer te)) (he : P.underlying te = some (.struct #[f])) (hft : f.type = ts) (hfo : f.offset = 0) (hs : P.underlying ts = some .string) (hc : P.cellsOf te = 1) (hcs : P.cellsOf ts = 1) :
    ∃ a0 a1 a2 a3 a4 : Addr, (W.var? P n0 = some #[.iface tp (.pointer (some a0))] ∧ W.var? P n1 = some #[.iface tp (.pointer (some a1))] ∧ W.var? P n2 = some #[.iface tp (.pointer (some a2))] ∧ W.var? P n3 = some #[.iface tp (.pointer (some a3))] ∧ W.var? P n4 = some #[.iface tp (.pointer (some a4))]) ∧
      ((∃ c t, W.heap[a0.block]? = some (.cells c t (0, 0))) ∧ (∃ c t, W.heap[a1.block]? = some (.cells c t (0, 0))) ∧ (∃ c t, W.heap[a2.block]? = some (.cells c t (0, 0))) ∧ (∃ c t, W.heap[a3.block]? = some (.cells c t (0, 0))) ∧ (∃ c t, W.heap[a4.block]? = some (.cells c t (0, 0)))) ∧
      (a0 ≠ a1 ∧ a0 ≠ a2 ∧ a0 ≠ a3 ∧ a0 ≠ a4 ∧ a1 ≠ a2 ∧ a1 ≠ a3 ∧ a1 ≠ a4 ∧ a2 ≠ a3 ∧ a2 ≠ a4 ∧ a3 ≠ a4) := by
  obtain ⟨ps, ⟨h0g, t0g, cs0, f0, p0, q0, k0, l0, hv0, hd0, ⟨h1g, t1g, cs1, f1, p1, q1, k1, l1, hv1, hd1, ⟨h2g, t2g, cs2, f2, p2, q2, k2, l2, hv2, hd2, ⟨h3g, t3g, cs3, f3, p3, q3, k3, l3, hv3, hd3, ⟨h4g, t4g, cs4, f4, p4, q4, k4, l4, hv4, hd4, e5, e4⟩, e3⟩, e2⟩, e1⟩, e0⟩, hnd, hrows⟩ := h
  obtain rfl := Option.some.inj (hg0.symm.trans k0)
  obtain rfl := Option.some.inj (ht0.symm.trans l0)
  obtain rfl := Option.some.inj (hg1.symm.trans k1)
  obtain rfl := Option.some.inj (ht1.symm.trans l1)
  obtain rfl := Option.some.inj (hg2.symm.trans k2)
  obtain rfl := Option.some.inj (ht2.symm.trans l2)
  obtain rfl := Option.some.inj (hg3.symm.trans k3)
  obtain rfl := Option.some.inj (ht3.symm.trans l3)
  obtain rfl := Option.some.inj (hg4.symm.trans k4)
  obtain rfl := Option.some.inj (ht4.symm.trans l4)
  subst e5
  subst e4
  subst e3
  subst e2
  subst e1
  subst e0
  obtain ⟨l0c⟩ := cs0
  obtain ⟨l1c⟩ := cs1
  obtain ⟨l2c⟩ := cs2
  obtain ⟨l3c⟩ := cs3
  obtain ⟨l4c⟩ := cs4
  have ok0 : ∀ u v, l0c = [.iface u v] → Value.okWide P W .any 0 u v := fun u v e => by
    subst e
    exact (hrows g0 0 (by simp [MemPlace.row])).2 u v (by simpa using World.var?_cell hg0 hv0 0)
  have ok1 : ∀ u v, l1c = [.iface u v] → Value.okWide P W .any 0 u v := fun u v e => by
    subst e
    exact (hrows g1 0 (by simp [MemPlace.row])).2 u v (by simpa using World.var?_cell hg1 hv1 0)
  have ok2 : ∀ u v, l2c = [.iface u v] → Value.okWide P W .any 0 u v := fun u v e => by
    subst e
    exact (hrows g2 0 (by simp [MemPlace.row])).2 u v (by simpa using World.var?_cell hg2 hv2 0)
  have ok3 : ∀ u v, l3c = [.iface u v] → Value.okWide P W .any 0 u v := fun u v e => by
    subst e
    exact (hrows g3 0 (by simp [MemPlace.row])).2 u v (by simpa using World.var?_cell hg3 hv3 0)
  have ok4 : ∀ u v, l4c = [.iface u v] → Value.okWide P W .any 0 u v := fun u v e => by
    subst e
    exact (hrows g4 0 (by simp [MemPlace.row])).2 u v (by simpa using World.var?_cell hg4 hv4 0)
  obtain ⟨a0, s0, rfl, hc0, hs0, hz0, rfl⟩ := errorString_of_trod hi hrow hp he hft hfo hs hc hcs hd0 ok0
  obtain ⟨a1, s1, rfl, hc1, hs1, hz1, rfl⟩ := errorString_of_trod hi hrow hp he hft hfo hs hc hcs hd1 ok1
  obtain ⟨a2, s2, rfl, hc2, hs2, hz2, rfl⟩ := errorString_of_trod hi hrow hp he hft hfo hs hc hcs hd2 ok2
  obtain ⟨a3, s3, rfl, hc3, hs3, hz3, rfl⟩ := errorString_of_trod hi hrow hp he hft hfo hs hc hcs hd3 ok3
  obtain ⟨a4, s4, rfl, hc4, hs4, hz4, rfl⟩ := errorString_of_trod hi hrow hp he hft hfo hs hc hcs hd4 ok4
  have b0 := (hrows a0.block a0.off (by simp [MemPlace.row])).1
  have b1 := (hrows a1.block a1.off (by simp [MemPlace.row])).1
  have b2 := (hrows a2.block a2.off (by simp [MemPlace.row])).1
  have b3 := (hrows a3.block a3.off (by simp [MemPlace.row])).1
  have b4 := (hrows a4.block a4.off (by simp [MemPlace.row])).1
  refine ⟨a0, a1, a2, a3, a4, ⟨hv0, hv1, hv2, hv3, hv4⟩, ⟨b0, b1, b2, b3, b4⟩, ?_, ?_, ?_, ?_, ?_, ?_, ?_, ?_, ?_, ?_⟩ <;>
    (rintro rfl; simp [MemPlace.row] at hnd)

/-- Named variables that hold such values. -/
def VarsAre (P : Program) (W : World) : List String → List Value → Prop
  | [], [] => True
  | n :: ns, x :: xs => (∃ g ti ms, P.globalNamed n = some g ∧ (P.globals[g]?).map (·.type) = some ti ∧ P.underlying ti = some (.interface ms) ∧ W.var? P n = some #[x] ∧ IsIface x) ∧ VarsAre P W ns xs
  | _, _ => False
theorem VarsAre.length : ∀ {ns : List String} {xs : List Value} {W : World}, VarsAre P W ns xs → xs.length = ns.length
  | [], [], _, _ => rfl
  | _ :: _, _ :: _, _, h => by simp [VarsAre.length h.2]
theorem VarsAre.stay : ∀ {ns : List String} {xs : List Value} {W W' : World}, VarsAre P W ns xs → Below W.heap.size W W' → VarsAre P W' ns xs
  | [], [], _, _, _, _ => trivial
  | n :: ns, x :: xs, W, W', h, hb => by
    obtain ⟨⟨g, ti, ms, h1, h2, h3, h4, h5⟩, h6⟩ := h
    refine ⟨⟨g, ti, ms, h1, h2, h3, ?_, h5⟩, VarsAre.stay h6 hb⟩
    unfold World.var? at h4 ⊢
    simp only [h1, Option.bind_some] at h4 ⊢
    have hlt : g < W.heap.size := by
      rcases Nat.lt_or_ge g W.heap.size with h' | h'
      · exact h'
      · simp [Array.getElem?_eq_none h'] at h4
    rw [hb.block g hlt]
    exact h4
def varPlaces (P : Program) (ns : List String) : List MemPlace := ns.map fun n => .cell ((P.globalNamed n).getD 0) 0
theorem VarsAre.read {H : Type} {enc : TypeId × Value → H} : ∀ {ns : List String} {xs : List Value} {W : World} (sp : Nat → Bool), VarsAre P W ns xs → DataW.TrodVars enc P W sp ns (xs.map (tok enc)) (varPlaces P ns)
  | [], [], _, _, _ => rfl
  | n :: ns, x :: xs, W, sp, h => by
    obtain ⟨⟨g, ti, ms, h1, h2, h3, h4, h5⟩, h6⟩ := h
    exact ⟨g, ti, #[x], 1, [], varPlaces P ns, h1, h2, h4, trod_held h3 h5 0, VarsAre.read sp h6, by simp [varPlaces, h1, MemPlace.row]⟩
end Go.Fl
namespace Go.LawFrame
open Go.ChangeShapes Go.WideShapes Go.ChangeAt Go.RowKit Go.Fl
/-- THE ROW's STEP, where the law may look into listed variables. -/
theorem lifted_vars {C : Checked} {os : Os} (started : os.Started) {H : Type} {enc : TypeId × Value → H} {f : FuncId} {fn : Func} {s : ChangeSpec} {n : Nat} {tb : TypeId} {laidL : List (String × DataW Unit)}
    (own : ownKnob C.prog.godebug = none) (noInit : C.prog.inits.idxOf? f = none) (hfn : C.prog.funcs[f]? = some fn)
    (hl : laidOutB C.prog = true) (hts : ∀ t ∈ fn.params.toList, C.prog.readableRec t = true ∧ t < C.prog.types.size)
    (hn : fn.params.size = n) (hs : ∀ ds gs : List (DataW H), ds.length = n → gs.length = s.vars.length → s.fn H (ds ++ gs) = { results := [.lit (.bool true)], args := ds, vars := gs })
    (hres : fn.resultTypes = #[tb]) (hb : C.prog.underlying tb = some .bool)
    (hread : ∀ W, laidMetH C.prog laidL W → ∃ xs, VarsAre C.prog W s.vars xs)
    (wit : ∃ (w : World) (tape : Tape) (i : Input), w.os = os ∧ (w.forCall tape i).Shaped C.prog ∧ i.vars = [] ∧ Input.okWide C.prog (w.forCall tape i) .any w.heap.size f i ∧
      ((s.pre enc C.prog fn [] false (w.forCall tape i).memory i.args ∧ laidMetH C.prog laidL (w.forCall tape i).memory) ∧ sizedMet enc C.prog fn (OpenSpec.ofChange s) false (w.forCall tape i).memory i.args) ∧ ({} : Assume).holds C.prog (lone (Frame.enter C.prog f i.args .normal) [] (w.forCall tape i)))
    (walk : ∀ (W : World) (base : Nat) (args : Array Value) (ds : List (DataW H)) (ps : List MemPlace), (∀ (j : Nat) t v, fn.params[j]? = some t → args[j]? = some v → Value.okWide C.prog W .any base t v) → args.size = n →
      DataW.TrodAll enc C.prog W 0 (fun _ => true) true fn.params.toList args.toList ds ps → laidMetH C.prog laidL W →
      Calls C.prog f args W fun e W' => e = .returned (.bool true) ∧ Below W.heap.size W W') :
    ReturnsInHanded {} C os f .any (fun w args => (s.pre enc C.prog fn [] false w args ∧ laidMetH C.prog laidL w) ∧ sizedMet enc C.prog fn (OpenSpec.ofChange s) false w args) (s.post enc C.prog fn false true false false) := by
  refine returnsInHanded_of_change_and (C := C) (X := fun w _ => laidMetH C.prog laidL w) (fun _ _ _ hh h => laidMetH.of_heap hh h) own started noInit hfn wit ?_
  intro W base args ds gs before hval hW _ _ hL _
  have hW' := hW
  obtain ⟨p, q, hA, hV, hb', hfz, hnd⟩ := hW
  subst hb'
  obtain ⟨xs, hxs⟩ := hread W hL
  obtain ⟨rfl, rfl⟩ := hV.unique (hxs.read _)
  obtain ⟨hlen, hlen2⟩ := trodAll_length hA
  simp only [Array.length_toList] at hlen hlen2
  refine (walk W base args ds p hval (hlen.trans hn) hA hL).mono fun e W' ⟨he, hg⟩ => ?_
  subst he
  have hsp := hs ds (xs.map (tok enc)) (hlen2.trans hn) (by rw [List.length_map]; exact hxs.length)
  have hlt : ∀ x ∈ p ++ varPlaces C.prog s.vars, x.block < W.heap.size := fun x hx => hW'.lt x hx
  have hr : ∀ (b : Nat) (sp : Nat → Bool) (hd : Bool), DataW.TrodAll enc C.prog W' b sp hd fn.resultTypes.toList ((Value.bool true).resultList fn.resultTypes.size) (s.fn H (ds ++ xs.map (tok enc))).results [] := by
    intro b sp hd
    rw [hsp, hres]
    exact trodAll_cons_mk (shut_bool hb _) trodAll_mk0
  have ha : ∀ sp : Nat → Bool, (∀ x ∈ p, sp x.block = true) → DataW.TrodAll enc C.prog W' 0 sp true fn.params.toList args.toList (s.fn H (ds ++ xs.map (tok enc))).args p := by
    intro sp hsp'
    rw [hsp]
    exact trodAll_stays hl hts hA (fun x hx => hg.same (hlt x (List.mem_append_left _ hx))) hsp'
  have hv : ∀ sp : Nat → Bool, DataW.TrodVars enc C.prog W' sp s.vars (s.fn H (ds ++ xs.map (tok enc))).vars (varPlaces C.prog s.vars) := by
    intro sp
    rw [hsp]
    exact (hxs.stay hg).read sp
  refine ⟨_, rfl, ds, _, p ++ varPlaces C.prog s.vars, [], p, varPlaces C.prog s.vars, hW', hr _ _ _, ha _ (fun x hx => by simpa using hlt x (List.mem_append_left _ hx)), hv _, World.keptBut_mono (fun x hx => ⟨hx, .inr (by simpa using hx)⟩) (hg.frame (· ∈ p ++ varPlaces C.prog s.vars)), fun _ => ?_⟩
  have hT := trodAll_append (ha (fun _ => true) (fun _ _ => rfl)) (hr 0 (fun _ => true) true)
  refine ⟨ok_one hres rfl (okWide_bool_mk hb _), _, _, p ++ varPlaces C.prog s.vars, ⟨_, _, hT, hv _, by simp, ?_, fun h => by cases h⟩, fun x hx _ => by simpa using hx⟩
  intro b off hx
  rw [hg.frozen (hlt _ hx)]
  exact hfz b off (by simpa using hx)
end Go.LawFrame
/- A share of a loss is an amount of at most one; drawn regions whose ways end alike; a call whose result is one of several values. No program. -/
namespace Go.Fl
open Ieee Go Go.RowKit

theorem shareW_amt {c l : Nat} (hc : amtB c = true) (hl : l < 4294967296) : amtB (shareW c l) = true ∧ shareW c l ≤ 1065353216 := by
  rcases h : (FloatKind.f32.format.order l c == some .gt) with _ | _
  · rw [share_none h]
    exact ⟨by decide, Nat.le_refl _⟩
  · obtain ⟨h1, h2⟩ := gt_pos hc hl h
    have hc' := amtB_iff.1 hc
    rw [show shareW c l = (S.div c l).getD 0 from if_pos h]
    rcases Nat.lt_or_eq_of_le h1 with h3 | rfl
    · have hd := div_eq (amt_nn hc) (amtB_iff.2 h3) (by omega)
      have hq := quo_le_one (x := c) (y := l) h3 (by omega) (Nat.le_of_lt h2)
      rw [hd.1]
      exact ⟨amtB_iff.2 (Nat.lt_of_le_of_lt hq (by decide)), hq⟩
    · rw [div_by_inf hc']
      exact ⟨by decide, by decide⟩

section
variable {P : Program} {ops : Array Oper} {Q : Exit → Act → World → Prop} {md : Region.Mode} {S : World → Prop}
variable {w0 : World} {l : List (Nat × Array Value × TypeId)} {fuel : Nat} {listed : Array Bool} {a : Act} {w : World} {rs : List Nat}
variable {d : Option Tmp} {op : Op} {ty0 : TypeId} {ps : String} {af : Array Edge} {gd : Option (Nat × Bool)}
/-- A drawn region whose ways all end in R: what comes behind is walked once. -/
theorem region_then {id : Nat} {w0 : World} {l : List (Nat × Array Value × TypeId)} {a : Act} {w : World} (R : Act → World → Prop) (n : Nat) (listed : Array Bool) (hm : P.follows .mixedOrders = true) (hn : ops.size = n) (hl : Array.replicate ops.size false = listed)
    (h : wpAnyH P .any ops (NoPanic fun e a w => e = .normal ∧ R a w) (Kept w0 l) n listed a w.drew) (hR : ∀ a w, R a w → Q .normal a w) : (Code.region id ops true).wp P Q a w :=
  wp_mono (region_kept n listed hm hn hl h) (fun e a w he => by obtain ⟨rfl, h2⟩ := he; exact hR a w h2)
/-- A ready call whose result is one of several values. -/
theorem callKV (i : Nat) (listed' : Array Bool) (p : Value → Prop) (k : Kept w0 l w) (ho : ops[i]? = some ⟨d, op, ty0, ps, af, gd⟩) (hw : Region.wanted ⟨d, op, ty0, ps, af, gd⟩ (yielded ops a.tmps) = true) (f : FuncId) (args : Array Value)
    (hrun : ∀ w, (execOp a.eval ⟨d, op, ty0, ps, af, gd⟩).run P w = .ok (.enter f args) w) (hl : listed.setIfInBounds i true = listed')
    (hc : Calls P f args w fun e w' => ∃ v, p v ∧ e = .returned v ∧ Below w.heap.size w w')
    (hn : ∀ v w', p v → Kept w0 l w' → S w' ∧ wpAnyH P md ops Q S fuel listed' (a.put d v) w')
    (hs : AllReadyH P md ops Q S fuel listed a w rs) : AllReadyH P md ops Q S fuel listed a w (i :: rs) := by
  subst hl
  refine AllReadyH.cons ho (fun K' hK => ?_) hs
  rw [if_pos hw]
  unfold Oper.wp
  rw [hrun, Oper.upon_enter]
  refine hc.mono fun e w' hh => ?_
  obtain ⟨v, hv, rfl, hr⟩ := hh
  have h := hn v w' hv (k.stay hr)
  exact hK.out _ _ h.1 (fun _ => h.2)
end
end Go.Fl
namespace Go.Fl
open Ieee Go Go.RowKit
theorem run_minN {P : Program} {x y : Nat} (ts : Array TypeId) (t : TypeId) (hx : nnB x = true) (hy : amtB y = true) (w : World) :
    (Builtin.min_ ts t #[.float .f32 x, .float .f32 y]).run P w = .ok (.float .f32 (min x y)) w := by
  have ho : FloatKind.f32.format.order x y = some (compare x y) := ord_pp (nnB_iff.1 hx) (amtB_iff.1 hy)
  unfold Builtin.min_
  simp only [List.foldlM, Builtin.min2, ho]
  rcases Nat.lt_trichotomy x y with h | h | h
  · rw [Nat.compare_eq_lt.2 h, Nat.min_eq_left (Nat.le_of_lt h)]; rfl
  · subst h
    rw [Nat.compare_eq_eq.2 rfl, Nat.min_self]
    simp only [ite_self]
    rfl
  · rw [Nat.compare_eq_gt.2 h, Nat.min_eq_right (Nat.le_of_lt h)]; rfl
theorem gt_nn {x y : Nat} (hx : nnB x = true) (hy : amtB y = true) : (FloatKind.f32.format.order x y == some .gt) = decide (y < x) := by
  rw [show FloatKind.f32.format.order x y = some (compare x y) from ord_pp (nnB_iff.1 hx) (amtB_iff.1 hy)]
  rcases Nat.lt_trichotomy x y with h | h | h
  · rw [Nat.compare_eq_lt.2 h, decide_eq_false (by omega)]; rfl
  · rw [Nat.compare_eq_eq.2 h, decide_eq_false (by omega)]; rfl
  · rw [Nat.compare_eq_gt.2 h, decide_eq_true h]; rfl
theorem min_amt {x y : Nat} (hy : amtB y = true) : amtB (min x y) = true := amtB_iff.2 (Nat.lt_of_le_of_lt (Nat.min_le_right _ _) (amtB_iff.1 hy))
end Go.Fl
namespace Go.Fl
open Go Go.RowKit
section
variable {P : Program} {ops : Array Oper} {Q : Exit → Act → World → Prop} {md : Region.Mode} {S : World → Prop}
variable {w0 : World} {l : List (Nat × Array Value × TypeId)} {fuel : Nat} {listed : Array Bool} {a : Act} {w : World} {rs : List Nat}
variable {d : Option Tmp} {op : Op} {ty0 : TypeId} {ps : String} {af : Array Edge} {gd : Option (Nat × Bool)}
theorem with_nameH (h : ∀ G : Nat → Array Bool → Act → World → Prop, (∀ fuel l a w, wpAnyH P md ops Q S fuel l a w = G fuel l a w) → G fuel listed a w) : wpAnyH P md ops Q S fuel listed a w := h _ (fun _ _ _ _ => rfl)
/-- A ready operation that yields a value and leaves the world as it was. -/
theorem readK (i : Nat) (a' : Act) (listed' : Array Bool) (v : Value) (ho : ops[i]? = some ⟨d, op, ty0, ps, af, gd⟩) (hw : Region.wanted ⟨d, op, ty0, ps, af, gd⟩ (yielded ops a.tmps) = true)
    (hrun : (execOp a.eval ⟨d, op, ty0, ps, af, gd⟩).run P w = .ok (.value v) w) (ha : a.put d v = a') (hl : listed.setIfInBounds i true = listed')
    (hn : S w ∧ wpAnyH P md ops Q S fuel listed' a' w) (hs : AllReadyH P md ops Q S fuel listed a w rs) : AllReadyH P md ops Q S fuel listed a w (i :: rs) := by
  subst ha hl
  exact ready_val ho hw v w hrun hn hs
theorem run_load_blk {w : World} {d : Option Tmp} {ty0 : TypeId} {ps : String} {af : Array Edge} {gd : Option (Nat × Bool)} (ty : TypeId) (x : Operand) (b : Nat) (cs : Array Value) (T : TypeId) (hx : a.eval x = .pointer (some ⟨b, 0, none⟩)) (hc : w.heap[b]? = some (.cells cs T (0, 0)))
    (dd : TypeDesc) (hu : P.underlying ty = some dd) (hd : dd.isRow = true) (hi : (P.info? ty).map (·.size) = some cs.size) : (execOp a.eval ⟨d, .load ty x, ty0, ps, af, gd⟩).run P w = .ok (.value (.agg cs)) w := by
  have := run_load_mid (P := P) (a := a) (w := w) (d := d) (ty0 := ty0) (ps := ps) (af := af) (gd := gd) ty x b 0 cs.toList hx (rowRange hc) dd hu hd (by simpa using hi)
  simpa using this
end
end Go.Fl
/- A drawn region whose last operations wait for all others: what comes ahead goes by held orders in a region of its own, what comes behind as a list. No program. -/
namespace Go.Fl
open Go Go.RowKit
section
variable {P : Program} {l : List Oper} {Q : Exit → Act → World → Prop} {md : Region.Mode} {S : World → Prop}
/-- The post of the head: at its end the rest, one by one. -/
def HeadPost (P : Program) (l : List Oper) (n : Nat) (Q : Exit → Act → World → Prop) : Exit → Act → World → Prop := fun e a w =>
  match e with
  | .normal => wpList P l.toArray Q (l.drop n) a w
  | e => Q e a w
/-- Binding edges lead to the front, and guards of the head into the head. -/
def frontB (md : Region.Mode) (l : List Oper) (n : Nat) : Bool :=
  (List.range n).all fun i => match l[i]? with
    | some o => (o.after.all fun e => !Region.binds md e || decide (e.on < i)) && (match o.guard with | none => true | some (j, _) => decide (j < n))
    | none => true
def wholeL (listed : Array Bool) (m : Nat) : Array Bool := listed ++ Array.replicate m false
theorem wholeL_low {listed : Array Bool} {m j : Nat} (d : Bool) (h : j < listed.size) : (wholeL listed m).getD j d = listed.getD j d := by
  unfold wholeL
  simp [Array.getD_eq_getD_getElem?, Array.getElem?_append_left h]
theorem wholeL_high {listed : Array Bool} {m j : Nat} (d : Bool) (h : listed.size ≤ j) (hj : j < listed.size + m) : (wholeL listed m).getD j d = false := by
  unfold wholeL
  simp [Array.getD_eq_getD_getElem?, Array.getElem?_append_right h, show j - listed.size < m by omega]
theorem wholeL_set {listed : Array Bool} {m i : Nat} (h : i < listed.size) : (wholeL listed m).setIfInBounds i true = wholeL (listed.setIfInBounds i true) m := by
  unfold wholeL
  rw [Array.setIfInBounds_append_left h]
theorem upon_turn {o : Oper} {a : Act} {n : Nat} {K K' : Act → World → Prop} (h : ∀ a w, K a w → K' a w) {r : Result Next}
    (hh : o.upon P a K (HeadPost P l n Q) r) : o.upon P a K' Q r := by
  have hl : LetsOut (HeadPost P l n Q) → LetsOut Q := fun ⟨a, w, h⟩ => ⟨a, w, h⟩
  cases r with
  | ok x w' =>
    cases x <;> simp only [Oper.upon] at hh ⊢
    case value v => exact h _ _ hh
    case skip => exact h _ _ hh
    case defer d => exact h _ _ hh
    case row r s => exact Rows.mono hh (fun _ _ he => h _ _ he)
    case enter f args =>
      refine Calls.mono hh fun e w'' he => ?_
      cases e with
      | returned v => exact h _ _ he
      | panicked c => exact he
      | outgrown => exact hl he
  | halt x w' =>
    cases x <;> simp only [Oper.upon] at hh ⊢
    case panic v => exact hh
theorem op_turn {n i : Nat} (hin : i < n) (hf : frontB md l n = true) {a : Act} {w : World} {K K' : Act → World → Prop} (h : ∀ a w, K a w → K' a w)
    (hh : wpOp P (l.take n).toArray (HeadPost P l n Q) i K a w) : wpOp P l.toArray Q i K' a w := by
  have hl : LetsOut (HeadPost P l n Q) → LetsOut Q := fun ⟨a, w, h⟩ => ⟨a, w, h⟩
  have ht : (l.take n).toArray[i]? = l.toArray[i]? := by simp [hin]
  have hF := List.all_eq_true.1 hf i (List.mem_range.2 hin)
  unfold wpOp at *
  rw [ht] at hh
  cases ho : l.toArray[i]? with
  | none => simp only [ho] at hh ⊢; exact h _ _ hh
  | some o =>
    have ho' : l[i]? = some o := by simpa using ho
    simp only [ho'] at hF
    simp only [ho] at hh ⊢
    have hw : Region.wanted o (yielded (l.take n).toArray a.tmps) = Region.wanted o (yielded l.toArray a.tmps) := by
      unfold Region.wanted
      cases hg : o.guard with
      | none => rfl
      | some jb =>
        obtain ⟨j, b⟩ := jb
        simp only [hg, Bool.and_eq_true, decide_eq_true_eq] at hF
        have e : yielded (l.take n).toArray a.tmps j = yielded l.toArray a.tmps j := by
          unfold yielded
          have : (l.take n).toArray[j]? = l.toArray[j]? := by simp [hF.2]
          rw [this]
        simp only [e]
    rw [hw] at hh
    split
    · rename_i hy
      simp only [hy, if_true] at hh
      rcases hh with hh | ⟨h1, h2⟩
      · exact .inl (by unfold Oper.wp at *; exact upon_turn h hh)
      · exact .inr ⟨h1, hl h2⟩
    · rename_i hy
      simp only [hy] at hh
      exact h _ _ hh
theorem wpAny_more {ops : Array Oper} : ∀ (f : Nat) (listed : Array Bool) (a : Act) (w : World), wpAny P md ops Q f listed a w → wpAny P md ops Q (f + 1) listed a w
  | 0, listed, a, w, h => ⟨fun _ => h.2, fun i hi => by rw [h.1] at hi; cases hi⟩
  | f + 1, listed, a, w, h => ⟨h.1, fun i hi => wpOp_mono (fun a' w' h' => wpAny_more f _ a' w' h') (h.2 i hi)⟩
theorem wpAny_add {ops : Array Oper} {f : Nat} (g : Nat) {listed : Array Bool} {a : Act} {w : World} (h : wpAny P md ops Q f listed a w) : wpAny P md ops Q (g + f) listed a w := by
  induction g with
  | zero => rwa [Nat.zero_add]
  | succ g ih => rw [Nat.succ_add]; exact wpAny_more _ _ _ _ ih
/-- The head's listing. -/
structure HeadL (md : Region.Mode) (l : List Oper) (n : Nat) (listed : Array Bool) : Prop where
  size : listed.size = n
  inv : HeadInv md l.toArray n (wholeL listed (l.length - n))
theorem ready_head {n : Nat} {listed : Array Bool} (hL : HeadL md l n listed) (hf : frontB md l n = true) {i : Nat} (hin : i < n) :
    i ∈ Region.ready md (l.take n).toArray listed ↔ i ∈ Region.ready md l.toArray (wholeL listed (l.length - n)) := by
  rw [mem_ready, mem_ready]
  have hs := hL.size
  have ht : (l.take n).toArray[i]? = l.toArray[i]? := by simp [hin]
  have hF := List.all_eq_true.1 hf i (List.mem_range.2 hin)
  rw [ht, wholeL_low true (by omega)]
  refine and_congr Iff.rfl ?_
  constructor
  · rintro ⟨o, ho, h⟩
    refine ⟨o, ho, fun e he hb => ?_⟩
    have ho' : l[i]? = some o := by simpa using ho
    simp only [ho', Bool.and_eq_true] at hF
    have h1 := Array.all_eq_true_iff_forall_mem.1 hF.1 e he
    simp only [hb, Bool.not_true, Bool.false_or, decide_eq_true_eq] at h1
    rw [wholeL_low false (by omega)]
    exact h e he hb
  · rintro ⟨o, ho, h⟩
    refine ⟨o, ho, fun e he hb => ?_⟩
    have ho' : l[i]? = some o := by simpa using ho
    simp only [ho', Bool.and_eq_true] at hF
    have h1 := Array.all_eq_true_iff_forall_mem.1 hF.1 e he
    simp only [hb, Bool.not_true, Bool.false_or, decide_eq_true_eq] at h1
    have h2 := h e he hb
    rwa [wholeL_low false (by omega)] at h2
theorem all_listed {n : Nat} {listed : Array Bool} (hs : listed.size = n) (hn : n < l.length) (hf : frontB md l n = true) (hr : Region.ready md (l.take n).toArray listed = []) : listed = Array.replicate n true := by
  have key : ∀ (i : Nat), i < n → listed.getD i false = true := by
    intro i
    induction i using Nat.strongRecOn with
    | _ i ih =>
      intro hi
      cases hl : listed.getD i false with
      | true => rfl
      | false =>
        exfalso
        have hF := List.all_eq_true.1 hf i (List.mem_range.2 hi)
        have ho : l[i]? = some l[i] := List.getElem?_eq_getElem (by omega)
        simp only [ho, Bool.and_eq_true] at hF
        have : i ∈ Region.ready md (l.take n).toArray listed := by
          rw [mem_ready]
          refine ⟨getD_in (by omega) hl, l[i], by simp [hi, ho], fun e he hb => ?_⟩
          have h1 := Array.all_eq_true_iff_forall_mem.1 hF.1 e he
          simp only [hb, Bool.not_true, Bool.false_or, decide_eq_true_eq] at h1
          exact ih e.on h1 (by omega)
        rw [hr] at this
        cases this
  apply Array.ext
  · simp [hs]
  · intro i h1 h2
    have := key i (by omega)
    simp only [Array.getElem_replicate]
    simpa [Array.getD_eq_getD_getElem?, h1] using this
/-- Each operation of the head but those that came first is waited for, in the head or by the first one behind it. -/
def sinkX (md : Region.Mode) (l : List Oper) (n : Nat) (pre : List Nat) : Bool :=
  (List.range n).all fun i => pre.contains i || (List.range (n + 1)).any fun j => decide (i < j) && Region.waitsFor md l.toArray j i
theorem behind_waits {n : Nat} {pre : List Nat} {F : Array Bool} (hs : sinkX md l n pre = true) (hc : Region.chainB md l.toArray n = true) (inv : HeadInv md l.toArray n F) (hn : n < l.length)
    (hp : ∀ p ∈ pre, F.getD p false = true) : ∀ (d i : Nat), n ≤ i + d → i < n → F.getD i true = false → ∀ t, n ≤ t → t ∉ Region.ready md l.toArray F := by
  intro d
  induction d with
  | zero => intro i h1 h2; omega
  | succ d ih =>
    intro i hd hi hun t ht hr
    obtain ⟨_, o, ho, hall⟩ := mem_ready.1 hr
    rcases Nat.lt_or_ge n t with hlt | hge
    · have hts : t < l.toArray.size := (Array.getElem?_eq_some_iff.1 ho).1
      have h1 := List.all_eq_true.1 hc t (List.mem_range.2 hts)
      rw [Bool.or_eq_true, decide_eq_true_eq] at h1
      rcases h1 with h1 | h1
      · omega
      · obtain ⟨o', ho', e, he, hb, hon⟩ := Region.waitsFor_spec h1
        obtain rfl : o' = o := Option.some.inj (ho'.symm.trans ho)
        have h2 := hall e he hb
        rw [hon, getD_both (inv.tail (t - 1) (by omega) (by omega))] at h2
        cases h2
    · obtain rfl : t = n := by omega
      have h1 := List.all_eq_true.1 hs i (List.mem_range.2 hi)
      rw [Bool.or_eq_true] at h1
      rcases h1 with h1 | h1
      · have h2 := hp i (by simpa using h1)
        rw [getD_both hun] at h2
        cases h2
      · obtain ⟨j, hj, h3⟩ := List.any_eq_true.1 h1
        rw [Bool.and_eq_true, decide_eq_true_eq] at h3
        have hjt := List.mem_range.1 hj
        obtain ⟨o', ho', e, he, hb, hon⟩ := Region.waitsFor_spec h3.2
        by_cases hjn : j = t
        · subst hjn
          obtain rfl : o' = o := Option.some.inj (ho'.symm.trans ho)
          have h2 := hall e he hb
          rw [hon, getD_both hun] at h2
          cases h2
        · cases hl : F.getD j false with
          | true =>
            have h2 := inv.closed j o' ho' hl e he hb
            rw [hon, getD_both hun] at h2
            cases h2
          | false => exact ih j (by omega) (by omega) (getD_in (by rw [inv.size]; simp; omega) hl) t (Nat.le_refl _) hr
theorem late_any {n : Nat} {pre : List Nat} (hn : n < l.length) (hf : frontB md l n = true) (hs : sinkX md l n pre = true) (hc : Region.chainB md l.toArray n = true)
    (hq : Region.seqB md l.toArray (l.length - n) n (wholeL (Array.replicate n true) (l.length - n)) = true) :
    ∀ (f : Nat) (listed : Array Bool) (a : Act) (w : World), HeadL md l n listed → (∀ p ∈ pre, (wholeL listed (l.length - n)).getD p false = true) → wpAnyH P md (l.take n).toArray (HeadPost P l n Q) S f listed a w →
      wpAny P md l.toArray Q (f + (l.length - n)) (wholeL listed (l.length - n)) a w := by
  have fin : ∀ (f : Nat) (listed : Array Bool) (a : Act) (w : World), HeadL md l n listed → Region.ready md (l.take n).toArray listed = [] → HeadPost P l n Q .normal a w →
      wpAny P md l.toArray Q (f + (l.length - n)) (wholeL listed (l.length - n)) a w := by
    intro f listed a w hL hr h
    have := all_listed hL.size hn hf hr
    subst this
    refine wpAny_add f ?_
    have hdl : (l.drop n).length = l.length - n := by simp
    have := wpAny_of_seq (md := md) (Q' := Q) (ops := l.toArray) (l.drop n) n (wholeL (Array.replicate n true) (l.length - n)) a w (fun j => by simp [List.getElem?_drop]) (by rw [hdl]; exact hq) h
    rwa [hdl] at this
  intro f
  induction f with
  | zero => intro listed a w hL _ h; exact fin 0 listed a w hL h.1 h.2
  | succ f ih =>
    intro listed a w hL hp h
    cases hr : Region.ready md (l.take n).toArray listed with
    | nil => exact fin _ listed a w hL hr (h.1 hr)
    | cons i0 rs =>
      rw [show f + 1 + (l.length - n) = (f + (l.length - n)) + 1 by omega]
      have hi0 : i0 ∈ Region.ready md (l.take n).toArray listed := by rw [hr]; exact List.mem_cons_self
      obtain ⟨hun, o0, ho0, _⟩ := mem_ready.1 hi0
      have hlt : i0 < n := by
        have := (Array.getElem?_eq_some_iff.1 ho0).1
        simp at this
        omega
      have hsz := hL.size
      have hw := behind_waits hs hc hL.inv hn hp _ i0 (Nat.le_add_left n i0) hlt (by rw [wholeL_low true (by omega)]; exact hun)
      refine ⟨fun h0 => ?_, fun i hi => ?_⟩
      · have := (ready_head hL hf hlt).1 hi0
        rw [h0] at this
        cases this
      · have hin : i < n := by
          rcases Nat.lt_or_ge i n with h' | h'
          · exact h'
          · exact absurd hi (hw i h')
        have hi' := (ready_head hL hf hin).2 hi
        refine op_turn hin hf (fun a' w' hh => ?_) (h.2 i hi')
        have hset := wholeL_set (listed := listed) (m := l.length - n) (i := i) (by omega)
        rw [hset]
        exact ih (listed.setIfInBounds i true) a' w' ⟨by simp [hsz], by rw [← hset]; exact hL.inv.set hi hin⟩ (fun p hpp => by rw [← hset]; exact getD_set_true (hp p hpp)) hh.2
theorem held_any {ops : Array Oper} : ∀ (f : Nat) (listed : Array Bool) (a : Act) (w : World), wpAny P md ops Q f listed a w → wpAnyH P md ops Q (fun _ => True) f listed a w
  | 0, _, _, _, h => h
  | f + 1, _, _, _, h => ⟨h.1, fun i hi => wpOp_mono (fun a' w' h' => ⟨trivial, held_any f _ a' w' h'⟩) (h.2 i hi)⟩
/-- What is listed has all listed that it waits for. -/
def closedB (md : Region.Mode) (l : List Oper) (F : Array Bool) : Bool :=
  (List.range l.length).all fun i => !F.getD i false || (match l[i]? with | some o => o.after.all fun e => !Region.binds md e || F.getD e.on false | none => true)
theorem headL_of {n : Nat} {listed : Array Bool} (hs : listed.size = n) (hn : n < l.length) (hc : closedB md l (wholeL listed (l.length - n)) = true) : HeadL md l n listed := by
  refine ⟨hs, ⟨by unfold wholeL; simp; omega, fun j oj hj hl e he hb => ?_, fun t h1 h2 => wholeL_high true (by omega) (by simp at h2; omega)⟩⟩
  have hj' : l[j]? = some oj := by simpa using hj
  have hjl : j < l.length := (List.getElem?_eq_some_iff.1 hj').1
  have h1 := List.all_eq_true.1 hc j (List.mem_range.2 hjl)
  simp only [hl, hj', Bool.not_true, Bool.false_or] at h1
  have h2 := Array.all_eq_true_iff_forall_mem.1 h1 e he
  simpa [hb] using h2
def lateB (l : List Oper) (n : Nat) (pre : List Nat) (listed : Array Bool) : Bool :=
  decide (n < l.length) && decide (listed.size = n) && frontB .any l n && sinkX .any l n pre && Region.chainB .any l.toArray n && Region.seqB .any l.toArray (l.length - n) n (wholeL (Array.replicate n true) (l.length - n))
    && closedB .any l (wholeL listed (l.length - n)) && pre.all fun p => (wholeL listed (l.length - n)).getD p false
/-- **A drawn region: first what may be taken in any world, then (by late_go) the head under what is held, at last the operations behind it, one by one.** -/
theorem region_free {id : Nat} {a : Act} {w : World} {ops : Array Oper} (n : Nat) (hm : P.follows .mixedOrders = true) (hn : ops.size = n) {listed : Array Bool} (hl : Array.replicate n false = listed)
    (h : wpAnyH P .any ops Q (fun _ => True) n listed a w.drew) : (Code.region id ops true).wp P Q a w := by
  subst hn hl
  exact wp_region_held hm h
theorem late_go {a : Act} {w : World} {f N : Nat} {F : Array Bool} (n : Nat) (pre : List Nat) (listed : Array Bool) (hB : lateB l n pre listed = true) (hF : wholeL listed (l.length - n) = F) (hN : f + (l.length - n) = N)
    (h : wpAnyH P .any (l.take n).toArray (HeadPost P l n Q) S f listed a w) : wpAnyH P .any l.toArray Q (fun _ => True) N F a w := by
  subst hF hN
  simp only [lateB, Bool.and_eq_true, decide_eq_true_eq] at hB
  obtain ⟨⟨⟨⟨⟨⟨⟨hn, hz⟩, hf⟩, hs⟩, hc⟩, hq⟩, hcl⟩, hp⟩ := hB
  exact held_any _ _ _ _ (late_any hn hf hs hc hq f listed a w (headL_of hz hn hcl) (fun p hpp => List.all_eq_true.1 hp p hpp) h)
theorem blind_head {n : Nat} (h : PanicBlind Q) : PanicBlind (HeadPost P l n Q) := fun c a d v w hh => h c a d v w hh
theorem late_goP {a : Act} {w : World} {f N : Nat} {F : Array Bool} (n : Nat) (pre : List Nat) (listed : Array Bool) (hB : lateB l n pre listed = true) (hF : wholeL listed (l.length - n) = F) (hN : f + (l.length - n) = N)
    (hb : PanicBlind Q) (h : PanicBlind (HeadPost P l n Q) → wpAnyH P .any (l.take n).toArray (HeadPost P l n Q) S f listed a w) : wpAnyH P .any l.toArray Q (fun _ => True) N F a w :=
  late_go n pre listed hB hF hN (h (blind_head hb))
/-- A drawn region whose ways all end in R of the act it began with. -/
theorem region_act {id : Nat} {w0 : World} {lk : List (Nat × Array Value × TypeId)} {ops : Array Oper} {a : Act} {w : World} (R : Act → Act → World → Prop) (n : Nat) (listed : Array Bool) (hm : P.follows .mixedOrders = true) (hn : ops.size = n) (hl : Array.replicate ops.size false = listed)
    (h : wpAnyH P .any ops (NoPanic fun e a' w' => e = .normal ∧ R a a' w') (Kept w0 lk) n listed a w.drew) (hR : ∀ a' w', R a a' w' → Q .normal a' w') : (Code.region id ops true).wp P Q a w :=
  region_then (R a) n listed hm hn hl h hR
end
end Go.Fl
/- Texts in a row, a blank between two. No program. -/
namespace Go.Fl
open Ieee Go Go.RowKit
def rowB (t : Nat → ByteArray) : Nat → ByteArray
  | 0 => ⟨#[]⟩
  | n + 1 => if n = 0 then rowB t n ++ t n else (rowB t n ++ ⟨#[32]⟩) ++ t n
theorem inter_snoc (s : List UInt8) : ∀ (l : List (List UInt8)) (x : List UInt8), List.intercalate s (l ++ [x]) = if l = [] then x else (List.intercalate s l ++ s) ++ x
  | [], x => by simp [List.intercalate]
  | [a], x => by simp [List.intercalate]
  | a :: b :: l, x => by
    have ih := inter_snoc s (b :: l) x
    rw [if_neg (by simp)] at ih ⊢
    have e1 : ∀ (y : List UInt8) (m : List (List UInt8)) (_ : m ≠ []), List.intercalate s (y :: m) = y ++ (s ++ List.intercalate s m) := by
      intro y m hm
      cases m with
      | nil => exact absurd rfl hm
      | cons z m => simp [List.intercalate]
    show List.intercalate s (a :: ((b :: l) ++ [x])) = _
    rw [e1 a _ (by simp), ih, e1 a _ (by simp)]
    simp [List.append_assoc]
theorem rowB_list (t : Nat → ByteArray) : ∀ n, (rowB t n).data.toList = Go.Lib.join (((List.range n).map t).map (·.data.toList)) [32]
  | 0 => by simp [rowB, Go.Lib.join, List.intercalate]
  | n + 1 => by
    have ih := rowB_list t n
    unfold Go.Lib.join at ih ⊢
    rw [List.range_succ, List.map_append, List.map_append, List.map_singleton, List.map_singleton, inter_snoc]
    show (if n = 0 then rowB t n ++ t n else (rowB t n ++ ⟨#[32]⟩) ++ t n).data.toList = _
    by_cases h : n = 0
    · subst h
      rw [if_pos rfl, if_pos (by simp)]
      simp [rowB]
    · rw [if_neg h, if_neg (by simp; exact h), ← ih]
      simp
theorem rowB_is (t : Nat → ByteArray) (n : Nat) : (⟨(Go.Lib.join (((List.range n).map t).map (·.data.toList)) [32]).toArray⟩ : ByteArray) = rowB t n := by
  rw [← rowB_list]
theorem rowB_size {t : Nat → ByteArray} {m : Nat} (h : ∀ i, (t i).size = m) : ∀ n, (rowB t n).size ≤ (m + 1) * n
  | 0 => by simp [rowB]; rfl
  | n + 1 => by
    have ih := rowB_size h n
    rw [Nat.mul_succ]
    show (if n = 0 then rowB t n ++ t n else (rowB t n ++ ⟨#[32]⟩) ++ t n).size ≤ _
    by_cases e : n = 0
    · rw [if_pos e, ByteArray.size_append, h]; omega
    · rw [if_neg e, ByteArray.size_append, ByteArray.size_append, h]
      have : (⟨#[32]⟩ : ByteArray).size = 1 := rfl
      omega
theorem rowB_len {t : Nat → ByteArray} (n : Nat) : (Go.Lib.join (((List.range n).map t).map (·.data.toList)) [32]).length = (rowB t n).size := by
  rw [← rowB_list]; rfl
theorem wr_k1 {k n : Nat} (h : k < n) (hn : n ≤ 1000) : wrap64 ((k : Int) + 1) = (k : Int) + 1 := by unfold wrap64; omega
theorem le_9k {x k n : Nat} (h : x ≤ 9 * k) (hk : k ≤ n) (hn : n ≤ 1000) : x ≤ 9000 := by omega
theorem ms_io {k n : Nat} (h : k < n) : n - (intOf (.int .i64 ((k : Int) + 1))).toNat < n - (intOf (.int .i64 (k : Int))).toNat := by simp [intOf]; omega
theorem run_makeW {P : Program} {t e : TypeId} (ht : P.underlying t = some (.slice e)) (z : Value) (by8 : Nat) (hz : z.cells = #[z]) (h8 : by8 ≤ 16) (hi : (P.info? e).map (fun i => (i.zero, i.size, i.bytes)) = some (some z, 1, by8)) {n : Nat} (hn : n ≤ 1048576) (w : World) :
    ∃ cs, LvV cs n (fun _ => z) ∧ (Instr.makeSlice t (.int .i64 (n : Int)) (.int .i64 (n : Int))).run P w = .ok (.slice (some ⟨w.heap.size, 0, none⟩) n n) (w.alloc (.cells cs e)) := by
  obtain ⟨i, hi1, hi2⟩ := Option.map_eq_some_iff.1 hi
  injection hi2 with h2 hi3
  injection hi3 with h3 h4
  have h := run_make (P := P) w t e i _ ht hi1 h2 .i64 .i64 n n (by omega) (Int.le_refl _) (by rw [h4]; have := Nat.mul_le_mul h8 hn; omega) (by omega)
  refine ⟨_, ⟨?_, fun k hk => ?_⟩, by rw [h, h3]; simp only [Int.toNat_natCast]; rfl⟩
  · simp [madeCells]
  · simp [madeCells, hz, hk, Nat.mod_one]
/-- Texts one behind the other, each with the end of a line. -/
def linB (t : Nat → ByteArray) : Nat → ByteArray
  | 0 => ⟨#[]⟩
  | n + 1 => linB t n ++ (t n ++ ⟨#[10]⟩)
theorem linB_size {t : Nat → ByteArray} {m : Nat} (h : ∀ i, (t i).size ≤ m) : ∀ n, (linB t n).size ≤ (m + 1) * n
  | 0 => by simp [linB]; rfl
  | n + 1 => by
    have ih := linB_size h n
    have hi := h n
    rw [Nat.mul_succ]
    show (linB t n ++ (t n ++ ⟨#[10]⟩)).size ≤ _
    rw [ByteArray.size_append, ByteArray.size_append]
    have : (⟨#[10]⟩ : ByteArray).size = 1 := rfl
    omega
theorem linB_list (t : Nat → ByteArray) (n : Nat) : (linB t (n + 1)).data.toList = ((linB t n).data.toList ++ (t n).data.toList) ++ [10] := by
  show (linB t n ++ (t n ++ ⟨#[10]⟩)).data.toList = _
  simp
theorem mk_list (b : ByteArray) : (⟨b.data.toList.toArray⟩ : ByteArray) = b := by cases b; simp
end Go.Fl
/- A drawn region in which an operation may draw; slices of words. No program. -/
namespace Go.Fl
open Ieee Go Go.RowKit
section
variable {P : Program} {md : Region.Mode} {ops : Array Oper} {Q : Exit → Act → World → Prop} {S : World → Prop} {fuel : Nat} {listed : Array Bool} {a : Act} {w w0 : World} {rs : List Nat} {l : List (Nat × Array Value × TypeId)}
variable {d : Option Tmp} {op : Go.Op} {ty0 : TypeId} {ps : String} {af : Array Edge} {gd : Option (Nat × Bool)}
theorem valK (i : Nat) (a' : Act) (listed' : Array Bool) (v : Value) (w1 : World) (k : Kept w0 l w) (ho : ops[i]? = some ⟨d, op, ty0, ps, af, gd⟩) (hw : Region.wanted ⟨d, op, ty0, ps, af, gd⟩ (yielded ops a.tmps) = true)
    (hrun : (execOp a.eval ⟨d, op, ty0, ps, af, gd⟩).run P w = .ok (.value v) w1) (hb : w1 = w ∨ w1 = w.drew) (ha : a.put d v = a') (hl : listed.setIfInBounds i true = listed')
    (hn : Kept w0 l w1 → S w1 ∧ wpAnyH P md ops Q S fuel listed' a' w1)
    (hs : AllReadyH P md ops Q S fuel listed a w rs) : AllReadyH P md ops Q S fuel listed a w (i :: rs) := by
  subst hl ha
  exact ready_val ho hw _ _ hrun (hn (kept_wf k hb)) hs
/-- An operation on any two singles. -/
theorem arith_any (op : BinOp) (hop : op = .add ∨ op = .sub ∨ op = .mul ∨ op = .quo) (t : TypeId) (x y : Nat) (hr : ∀ r, floatBits op .f32 x y = some r → r < 4294967296) (w : World) :
    ∃ z w1, (binOp op t (.float .f32 x) (.float .f32 y)).run P w = .ok (.float .f32 z) w1 ∧ (w1 = w ∨ w1 = w.drew) ∧ z < 4294967296 ∧ (floatBits op .f32 x y = some z ∨ INF < mg z) := by
  cases h : floatBits op .f32 x y with
  | some r => exact ⟨r, w, run_float_arith (P := P) w op t .f32 x y r h, .inl rfl, hr r h, .inl rfl⟩
  | none =>
    obtain ⟨z, h1, h2, h3⟩ := run_arith_nan (P := P) w op hop t x y h
    exact ⟨z, _, h1, .inr rfl, h3, .inr h2⟩
end
/-- A word as a value. -/
def flV (x : Nat → Nat) (k : Nat) : Value := .float .f32 (x k)
/-- A mark. -/
def mkV (k : Nat) : Value := .float .f32 (wS k)
theorem mk_all : ((List.range 130).all fun k => (FloatKind.f32.format.order (wS k) (wS k) == some .eq)) = true := by decide +kernel
theorem mk_one {k : Nat} (h : k < 130) : (FloatKind.f32.format.order (wS k) (wS k) == some .eq) = true := List.all_eq_true.1 mk_all k (List.mem_range.2 h)
end Go.Fl
/- Below but for one block, which may be written. -/
namespace Go.Fl
open Go.RowKit Go

structure BelowBut (s B : Nat) (w w' : World) : Prop where
  size : w.heap.size ≤ w'.heap.size
  block : ∀ k, k < B → k ≠ s → w'.heap[k]? = w.heap[k]?

theorem BelowBut.refl (s B : Nat) (w : World) : BelowBut s B w w := ⟨Nat.le_refl _, fun _ _ _ => rfl⟩
theorem BelowBut.trans {s B : Nat} {a b c : World} (h : BelowBut s B a b) (k : BelowBut s B b c) : BelowBut s B a c :=
  ⟨Nat.le_trans h.size k.size, fun i hi hn => (k.block i hi hn).trans (h.block i hi hn)⟩
theorem BelowBut.drew {s B : Nat} {a w : World} (h : BelowBut s B a w) : BelowBut s B a w.drew := ⟨h.size, h.block⟩
theorem BelowBut.cell {s B : Nat} {w w' : World} (h : BelowBut s B w w') {p : Addr} (hp : p.block < B ∧ p.block ≠ s) : w'.cell? p = w.cell? p := World.cell?_of_block (w := w) (h.block p.block hp.1 hp.2)
theorem BelowBut.of {s B : Nat} {w w' : World} (h : Below B w w') : BelowBut s B w w' := ⟨h.size, fun k hk _ => h.block k hk⟩
theorem BelowBut.setCell {s B : Nat} {a w : World} (h : BelowBut s B a w) (o : Nat) (u : Value) : BelowBut s B a (w.setCell ⟨s, o, none⟩ u) :=
  h.trans ⟨by simp [World.setCell], fun k _ hn => Below.heap_setCell _ _ _ _ hn⟩
theorem BelowBut.t {s B : Nat} {a b c : World} (h : BelowBut s B a b) (k : BelowBut s B b c) : BelowBut s B a c := h.trans k
theorem BelowBut.b {s n₀ : Nat} {w : World} (hn : n₀ ≤ w.heap.size) (W : World) (l : Nat) (o o' : Obj) (hl : w.heap.size ≤ l) (h : W.heap[l]? = some o) (h1 : o.isCells = false) (h2 : o.isWalk = false) : BelowBut s n₀ W (W.putObj l o') :=
  .of (belowK_b hn W l o o' hl h h1 h2)
theorem ownFrom_but {β : Type} {s n₀ B : Nat} {w₀ : World} (hn : n₀ ≤ w₀.heap.size) (hB : n₀ ≤ B) : OwnFrom B (fun (_ : β) W => BelowBut s n₀ w₀ W) :=
  fun _ _ _ _ hs hg hr => hs.trans ⟨hg.size, fun k hk _ => hg.block k (by have := hs.size; omega) (fun e => by have := (hr k e.symm).1; omega)⟩
end Go.Fl
/- What a call leaves as it is, but for some blocks; a map from words to numbers; a loop over an iterator that may panic. No program. -/
namespace Go.Fl
open Go Go.RowKit
/-- All is as it was, but for the blocks of X and what is new. -/
structure Keeps (X : Nat → Prop) (w w' : World) : Prop where
  os : w'.os = w.os
  tape : w'.tape = w.tape
  output : w'.output = w.output
  size : w.heap.size ≤ w'.heap.size
  block : ∀ k, k < w.heap.size → ¬ X k → w'.heap[k]? = w.heap[k]?
section
variable {X Y : Nat → Prop} {w w' w'' : World}
theorem Keeps.refl (X : Nat → Prop) (w : World) : Keeps X w w := ⟨rfl, rfl, rfl, Nat.le_refl _, fun _ _ _ => rfl⟩
theorem Keeps.trans (h : Keeps X w w') (k : Keeps X w' w'') : Keeps X w w'' :=
  ⟨k.os.trans h.os, k.tape.trans h.tape, k.output.trans h.output, Nat.le_trans h.size k.size, fun i hi hx => (k.block i (Nat.lt_of_lt_of_le hi h.size) hx).trans (h.block i hi hx)⟩
theorem Keeps.mono (h : Keeps X w w') (hx : ∀ k, k < w.heap.size → X k → Y k) : Keeps Y w w' := ⟨h.os, h.tape, h.output, h.size, fun k hk hy => h.block k hk fun hX => hy (hx k hk hX)⟩
theorem Keeps.of (h : Below w.heap.size w w') : Keeps X w w' := ⟨h.os, h.tape, h.output, h.size, fun k hk _ => h.block k hk⟩
theorem Keeps.below {B : Nat} (h : Keeps X w w') (hB : B ≤ w.heap.size) (hX : ∀ k, k < B → ¬ X k) : Below B w w' := ⟨h.os, h.tape, h.output, h.size, fun k hk => h.block k (Nat.lt_of_lt_of_le hk hB) (hX k hk)⟩
theorem Keeps.alloc (o : Obj) : Keeps X w (w.alloc o) := .of (Below.alloc (Below.refl _ w) (Nat.le_refl _) o)
theorem Keeps.drew (h : Keeps X w w') : Keeps X w w'.drew := ⟨h.os, h.tape, h.output, h.size, h.block⟩
theorem Keeps.drew0 : Keeps X w w.drew := (Keeps.refl X w).drew
theorem Keeps.setCell (a : Addr) (v : Value) (h : X a.block) : Keeps X w (w.setCell a v) :=
  ⟨rfl, rfl, rfl, by simp [World.setCell], fun k _ hk => Below.heap_setCell _ _ _ _ fun e => hk (e ▸ h)⟩
theorem Keeps.putObj (l : Nat) (o : Obj) (h : X l) : Keeps X w (w.putObj l o) :=
  ⟨rfl, rfl, rfl, by simp, fun k _ hk => World.putObj_heap_other fun e => hk (e ▸ h)⟩
theorem Keeps.cell (h : Keeps X w w') {p : Addr} {v : Value} (hp : w.cell? p = some v) (hx : ¬ X p.block) : w'.cell? p = some v :=
  (World.cell?_of_block (w := w) (h.block p.block (block_lt_of_cell hp) hx)).trans hp
theorem Keeps.row (h : Keeps X w w') {g : Nat} {o : Obj} (hg : w.heap[g]? = some o) (hx : ¬ X g) : w'.heap[g]? = some o := (h.block g (lt_of_block hg) hx).trans hg
end
/-- A map from words to numbers: each entry has the number f of its key. -/
def MapOf (f : Nat → Nat) (D : Nat → Prop) (w : World) (r : Nat) : Prop :=
  ∃ es clock, w.heap[r]? = some (.map es clock) ∧ ∀ e ∈ es.toList, ∃ h : Nat, D h ∧ e.key = .int .u32 h ∧ e.val = .float .f32 (f h)
theorem MapOf.keeps {f : Nat → Nat} {D : Nat → Prop} {X : Nat → Prop} {w w' : World} {r : Nat} (h : MapOf f D w r) (k : Keeps X w w') (hx : ¬ X r) : MapOf f D w' r := by
  obtain ⟨es, cl, hb, he⟩ := h
  exact ⟨es, cl, k.row hb hx, he⟩
section
variable {P : Program} {f : Nat → Nat} {D : Nat → Prop} {w : World} {r : Nat} {mty kt et : TypeId}
theorem getObj_map {es : Array MapEntry} {clock : Nat} (hb : w.heap[r]? = some (.map es clock)) : (getObj r).run P w = .ok (.map es clock) w := by
  unfold getObj
  simp [Sem.run, hb]
theorem setObj_map {es : Array MapEntry} {clock : Nat} (o : Obj) (hb : w.heap[r]? = some (.map es clock)) : (setObj r o).run P w = .ok () { w with heap := w.heap.setIfInBounds r o } := by
  unfold setObj
  simp [Sem.run, hb]
theorem findKey_of {k : Value} {l : List MapEntry} {a : Option (Nat × Value)} (hk : P.underlying kt = some (.int .u32)) (h : Instr.findNow (.int .u32) k l 0 = some a) : (Instr.findKey kt k l).run P w = .ok a w := by
  unfold Instr.findKey
  simp [Sem.run_bind, run_underlying hk, h]
theorem find_map (k : Nat) : ∀ (l : List MapEntry) (i : Nat), (∀ e ∈ l, ∃ h : Nat, D h ∧ e.key = .int .u32 h ∧ e.val = .float .f32 (f h)) →
    Instr.findNow (.int .u32) (.int .u32 k) l i = some none ∨ ∃ j, Instr.findNow (.int .u32) (.int .u32 k) l i = some (some (j, .float .f32 (f k)))
  | [], _, _ => .inl rfl
  | e :: l, i, h => by
    obtain ⟨q, _, hk, hv⟩ := h e List.mem_cons_self
    unfold Instr.findNow
    rw [hk, hv]
    unfold Instr.sameNow
    simp only [if_true]
    by_cases e1 : k = q
    · subst e1
      simp
    · have : ((k : Int) == (q : Int)) = false := by rw [beq_eq_false_iff_ne]; omega
      rw [this]
      exact find_map k l (i + 1) fun x hx => h x (List.mem_cons_of_mem _ hx)
theorem check_u32 (hk : P.underlying kt = some (.int .u32)) (e : Bool) (k : Int) (w : World) : (Instr.checkKey e 10000 kt (.int .u32 k)).run P w = .ok () w := by
  unfold Instr.checkKey
  simp [Sem.run_bind, run_underlying hk]
/-- There is no such key. -/
def NoKey (w : World) (r k : Nat) : Prop := ∀ es clock, w.heap[r]? = some (.map es clock) → Instr.findNow (.int .u32) (.int .u32 k) es.toList 0 = some none
/-- Looked up: the number, or that there is none. -/
theorem run_lookup_map (hm : P.underlying mty = some (.map kt et)) (hk : P.underlying kt = some (.int .u32)) (hz : ∀ w, (zeroValue et).run P w = .ok (.float .f32 0) w) (h : MapOf f D w r) (k : Nat) :
    ((Instr.lookup mty (.map (some r)) (.int .u32 k) true).run P w = .ok (.tuple #[.float .f32 0, .bool false]) w ∧ NoKey w r k) ∨ (Instr.lookup mty (.map (some r)) (.int .u32 k) true).run P w = .ok (.tuple #[.float .f32 (f k), .bool true]) w := by
  obtain ⟨es, cl, hb, he⟩ := h
  have hg := getObj_map (P := P) hb
  rcases find_map (D := D) k es.toList 0 he with hf | ⟨j, hf⟩
  · left
    have := findKey_of (P := P) (w := w) (kt := kt) hk hf
    refine ⟨?_, fun es' cl' hb' => ?_⟩
    · unfold Instr.lookup
      simp [Sem.run_bind, run_underlying hm, hg, check_u32 hk, this, hz]
    · rw [hb] at hb'
      cases hb'
      exact hf
  · right
    have := findKey_of (P := P) (w := w) (kt := kt) hk hf
    unfold Instr.lookup
    simp [Sem.run_bind, run_underlying hm, hg, check_u32 hk, this]
/-- Stored under a new key: the map has the number, all else is as it was. -/
theorem run_update_map (hm : P.underlying mty = some (.map kt et)) (hk : P.underlying kt = some (.int .u32)) (h : MapOf f D w r) (k : Nat) (hD : D k) (hn : NoKey w r k) :
    ∃ w', (Instr.mapUpdate mty (.map (some r)) (.int .u32 k) (.float .f32 (f k))).run P w = .ok () w' ∧ Keeps (fun i => i = r) w w' ∧ MapOf f D w' r := by
  obtain ⟨es, cl, hb, he⟩ := h
  have hg := getObj_map (P := P) hb
  have hfk := findKey_of (P := P) (w := w) (kt := kt) hk (hn es cl hb)
  refine ⟨w.putObj r (.map (es.push { key := .int .u32 k, val := .float .f32 (f k), born := cl }) (cl + 1)), ?_, Keeps.putObj r _ rfl, _, _, World.putObj_heap_same (lt_of_block hb), ?_⟩
  · unfold Instr.mapUpdate
    simp [Sem.run_bind, run_underlying hm, hg, check_u32 hk, hfk, setObj_map _ hb, World.putObj]
  · intro e hx
    simp only [Array.toList_push, List.mem_append, List.mem_singleton] at hx
    rcases hx with hx | rfl
    · exact he e hx
    · exact ⟨k, hD, rfl, rfl⟩
end
end Go.Fl
/- Blocks that are kept while one that lies ahead (a map) may turn; drawn regions in which it does. No program. -/
namespace Go.Fl
open Go Go.RowKit
structure HK (X : Nat → Prop) (w0 : World) (l : List (Nat × Array Value × TypeId)) (w : World) : Prop where
  keeps : Keeps X w0 w
  rows : ∀ x ∈ l, w.heap[x.1]? = some (.cells x.2.1 x.2.2 (0, 0))
section
variable {X : Nat → Prop} {w0 w w' : World} {l : List (Nat × Array Value × TypeId)}
theorem HK.of (h : Kept w0 l w) : HK X w0 l w := ⟨.of h.1, h.2⟩
theorem HK.at (h : HK X w0 l w) {x : Nat × Array Value × TypeId} (hx : x ∈ l) : w.heap[x.1]? = some (.cells x.2.1 x.2.2 (0, 0)) := h.rows x hx
theorem HK.stay (h : HK X w0 l w) (hb : Below w.heap.size w w') : HK X w0 l w' :=
  ⟨h.keeps.trans (.of hb), fun x hx => (hb.block x.1 (lt_of_block (h.rows x hx))).trans (h.rows x hx)⟩
theorem HK.go (h : HK X w0 l w) (k : Keeps X w w') (hX : ∀ x ∈ l, ¬ X x.1) : HK X w0 l w' :=
  ⟨h.keeps.trans k, fun x hx => k.row (h.rows x hx) (hX x hx)⟩
theorem HK.drew (h : HK X w0 l w) : HK X w0 l w.drew := ⟨h.keeps.drew, h.rows⟩
theorem HK.sub {l' : List (Nat × Array Value × TypeId)} (h : HK X w0 l w) (hl : ∀ x ∈ l', x ∈ l) : HK X w0 l' w := ⟨h.keeps, fun x hx => h.rows x (hl x hx)⟩
theorem HK.tail {x : Nat × Array Value × TypeId} (h : HK X w0 (x :: l) w) : HK X w0 l w := h.sub fun _ hy => List.mem_cons_of_mem _ hy
theorem HK.swap {x y : Nat × Array Value × TypeId} (h : HK X w0 (x :: y :: l) w) : HK X w0 (y :: x :: l) w := h.sub fun z hz => by
  simp only [List.mem_cons] at hz ⊢
  rcases hz with h | h | h
  · exact .inr (.inl h)
  · exact .inl h
  · exact .inr (.inr h)
theorem HK.fresh (h : HK X w0 l w) : ∀ x ∈ l, x.1 ≠ w.heap.size := fun x hx => Nat.ne_of_lt (lt_of_block (h.rows x hx))
theorem HK.lt (h : HK X w0 l w) {x : Nat × Array Value × TypeId} (hx : x ∈ l) : x.1 < w.heap.size := lt_of_block (h.rows x hx)
theorem HK.size (h : HK X w0 l w) : w0.heap.size ≤ w.heap.size := h.keeps.size
/-- What lies ahead may turn. -/
theorem HK.ahead {r : Nat} (h : HK X w0 l w) (hX : X r) (k : Keeps (fun i => i = r) w w') (hr : r < w0.heap.size) (hl : ∀ x ∈ l, w0.heap.size ≤ x.1) : HK X w0 l w' :=
  ⟨h.keeps.trans (k.mono fun i _ e => e ▸ hX), fun x hx => k.row (h.rows x hx) (fun e => by have := hl x hx; omega)⟩
theorem HK.push (h : HK X w0 l w) (cs : Array Value) (T : TypeId) : HK X w0 ((w.heap.size, cs, T) :: l) (w.alloc (.cells cs T)) := by
  have hb : Below w.heap.size w (w.alloc (.cells cs T)) := (Below.refl _ w).alloc (Nat.le_refl _) _
  refine ⟨(h.stay hb).keeps, fun x hx => ?_⟩
  rcases List.mem_cons.1 hx with rfl | hx
  · exact World.alloc_heap_new w _
  · exact (h.stay hb).rows x hx
theorem keeps_row (g : Nat) (cs : Array Value) (w : World) : Keeps (fun k => k = g) w (w.setRow g cs) := by
  have b : Below g w (w.setRow g cs) := below_row (Below.refl g w) (Nat.le_refl g) cs
  exact ⟨b.os, b.tape, b.output, b.size, fun k _ hk => setRow_other w g _ _ hk⟩
theorem HK.set {g : Nat} {old : Array Value} {T : TypeId} (h : HK X w0 ((g, old, T) :: l) w) (hB : w0.heap.size ≤ g) (hne : ∀ x ∈ l, x.1 ≠ g) (cs : Array Value) : HK X w0 ((g, cs, T) :: l) (w.setRow g cs) := by
  have k := keeps_row g cs w
  refine ⟨⟨k.os.trans h.keeps.os, k.tape.trans h.keeps.tape, k.output.trans h.keeps.output, Nat.le_trans h.keeps.size k.size, fun i hi hx => (k.block i (Nat.lt_of_lt_of_le hi h.keeps.size) (by omega)).trans (h.keeps.block i hi hx)⟩, fun x hx => ?_⟩
  rcases List.mem_cons.1 hx with rfl | hx
  · exact setRow_heap w g _ _ _ _ (h.rows (g, old, T) (by simp))
  · exact (setRow_other w g _ _ (hne x hx)).trans (h.rows x (by simp [hx]))
end
section
variable {P : Program} {ops : Array Oper} {Q : Exit → Act → World → Prop} {md : Region.Mode} {S : World → Prop}
variable {fuel : Nat} {listed : Array Bool} {a : Act} {w : World} {rs : List Nat}
variable {d : Option Tmp} {op : Go.Op} {ty0 : TypeId} {ps : String} {af : Array Edge} {gd : Option (Nat × Bool)}
/-- Off its end R, otherwise Q. -/
def ActPost (R : Act → World → Prop) (Q : Exit → Act → World → Prop) : Exit → Act → World → Prop := fun e a w =>
  match e with
  | .normal => R a w
  | e => Q e a w
theorem blind_act {R : Act → World → Prop} (h : PanicBlind Q) : PanicBlind (ActPost R Q) := fun c a d v w hh => h c a d v w hh
theorem region_actS {id : Nat} {a : Act} {w : World} {ops : Array Oper} (R : Act → Act → World → Prop) (n : Nat) (listed : Array Bool) (hm : P.follows .mixedOrders = true) (hn : ops.size = n) (hl : Array.replicate ops.size false = listed) (hb : PanicBlind Q)
    (h : ∀ Q', PanicBlind Q' → (∀ a' w', R a a' w' → Q' .normal a' w') → (∀ c a' w', Q (.panic c) a' w' → Q' (.panic c) a' w') → wpAnyH P .any ops Q' S n listed a w.drew) (hR : ∀ a' w', R a a' w' → Q .normal a' w') : (Code.region id ops true).wp P Q a w := by
  subst hn hl
  refine wp_mono (wp_region_held hm (h (ActPost (R a) Q) (blind_act hb) (fun _ _ h => h) (fun _ _ _ h => h))) fun e a w he => ?_
  cases e with
  | normal => exact hR _ _ he
  | _ => exact he
theorem callPS (i : Nat) (chain : List PanicEntry) (R : World → Prop) (ho : ops[i]? = some ⟨d, op, ty0, ps, af, gd⟩) (hw : Region.wanted ⟨d, op, ty0, ps, af, gd⟩ (yielded ops a.tmps) = true) (f : FuncId) (args : Array Value)
    (hrun : (execOp a.eval ⟨d, op, ty0, ps, af, gd⟩).run P w = .ok (.enter f args) w)
    (hc : Calls P f args w fun e w' => e = .panicked chain ∧ R w') (hn : ∀ w', R w' → Q (.panic chain) a w')
    (hs : AllReadyH P md ops Q S fuel listed a w rs) : AllReadyH P md ops Q S fuel listed a w (i :: rs) := by
  refine AllReadyH.cons ho (fun K' hK => ?_) hs
  rw [if_pos hw]
  unfold Oper.wp
  rw [hrun, Oper.upon_enter]
  refine hc.mono fun e w' hh => ?_
  obtain ⟨rfl, hr⟩ := hh
  exact hn w' hr
theorem allocS (i : Nat) (listed' : Array Bool) (cs : Array Value) (T : TypeId) (ho : ops[i]? = some ⟨d, op, ty0, ps, af, gd⟩) (hw : Region.wanted ⟨d, op, ty0, ps, af, gd⟩ (yielded ops a.tmps) = true)
    (hrun : (execOp a.eval ⟨d, op, ty0, ps, af, gd⟩).run P w = .ok (.value (.pointer (some ⟨w.heap.size, 0, none⟩))) (w.alloc (.cells cs T))) (hl : listed.setIfInBounds i true = listed')
    (hn : ∀ w' g, w' = w.alloc (.cells cs T) → g = w.heap.size → S w' ∧ wpAnyH P md ops Q S fuel listed' (a.put d (.pointer (some ⟨g, 0, none⟩))) w')
    (hs : AllReadyH P md ops Q S fuel listed a w rs) : AllReadyH P md ops Q S fuel listed a w (i :: rs) := by
  subst hl
  exact ready_val ho hw _ _ hrun (hn _ _ rfl rfl) hs
theorem storeS (i : Nat) (listed' : Array Bool) {g : Nat} {old : Array Value} {T : TypeId} (ho : ops[i]? = some ⟨d, op, ty0, ps, af, gd⟩) (hw : Region.wanted ⟨d, op, ty0, ps, af, gd⟩ (yielded ops a.tmps) = true)
    (ty : TypeId) (x y : Operand) (hop : op = .store ty x y) (cells : Array Value) (hx : a.eval x = .pointer (some ⟨g, 0, none⟩)) (hy : a.eval y = .agg cells) (hg : w.heap[g]? = some (.cells old T (0, 0)))
    (hi : (P.info? ty).map (·.size) = some cells.size) (hold : old.size = cells.size) (h1 : cells.all (·.oneCell') = true) (hl : listed.setIfInBounds i true = listed')
    (hn : ∀ w', w' = w.setRow g cells → S w' ∧ wpAnyH P md ops Q S fuel listed' (a.put d undef) w')
    (hs : AllReadyH P md ops Q S fuel listed a w rs) : AllReadyH P md ops Q S fuel listed a w (i :: rs) := by
  subst hl
  exact ready_store ho hw ty x y hop g cells hx hy T old hg hi hold h1 (hn _ rfl) hs
theorem region_S {id : Nat} {a : Act} {w : World} {ops : Array Oper} (n : Nat) (listed : Array Bool) (hm : P.follows .mixedOrders = true) (hn : ops.size = n) (hl : Array.replicate ops.size false = listed) (hb : PanicBlind Q)
    (h : ∀ Q', PanicBlind Q' → (∀ a' w', Q .normal a' w' → Q' .normal a' w') → (∀ c a' w', Q (.panic c) a' w' → Q' (.panic c) a' w') → wpAnyH P .any ops Q' S n listed a w.drew) : (Code.region id ops true).wp P Q a w := by
  subst hn hl
  exact wp_region_held hm (h Q hb (fun _ _ h => h) (fun _ _ _ h => h))
end
end Go.Fl
/- An operation of a drawn region whose value and world are told. No program. -/
namespace Go.Fl
open Ieee Go Go.RowKit
section
variable {P : Program} {md : Region.Mode} {ops : Array Oper} {Q : Exit → Act → World → Prop} {S : World → Prop} {fuel : Nat} {listed : Array Bool} {a : Act} {w w0 : World} {rs : List Nat}
variable {d : Option Tmp} {op : Go.Op} {ty0 : TypeId} {ps : String} {af : Array Edge} {gd : Option (Nat × Bool)}
theorem valQ (i : Nat) (listed' : Array Bool) (v : Value) (w1 : World) (ho : ops[i]? = some ⟨d, op, ty0, ps, af, gd⟩) (hw : Region.wanted ⟨d, op, ty0, ps, af, gd⟩ (yielded ops a.tmps) = true)
    (hrun : (execOp a.eval ⟨d, op, ty0, ps, af, gd⟩).run P w = .ok (.value v) w1) (hl : listed.setIfInBounds i true = listed')
    (hn : S w1 ∧ wpAnyH P md ops Q S fuel listed' (a.put d v) w1)
    (hs : AllReadyH P md ops Q S fuel listed a w rs) : AllReadyH P md ops Q S fuel listed a w (i :: rs) := by
  subst hl
  exact ready_val ho hw _ _ hrun hn hs
end
end Go.Fl
/- The frame of a law over listed variables, the world's shape kept. No program. -/
namespace Go.LawFrame
open Go.ChangeShapes Go.WideShapes Go.ChangeAt Go.RowKit Go.Fl
theorem change_and_shaped {H : Type} {enc : TypeId × Value → H} {a : Assume} {C : Checked} {os : Os} {f : FuncId} {fn : Func} {s : ChangeSpec} {conds : List PathCond} {apart fresh handsOn again : Bool} {X : World → Array Value → Prop}
    (hX : ∀ (w w' : World) (args : Array Value), w.heap = w'.heap → X w args → X w' args)
    (own : ownKnob C.prog.godebug = none) (started : os.Started) (noInit : C.prog.inits.idxOf? f = none) (hfn : C.prog.funcs[f]? = some fn)
    (witness : ∃ (w : World) (tape : Tape) (i : Input), w.os = os ∧ (w.forCall tape i).Shaped C.prog ∧ i.vars = [] ∧ Input.okWide C.prog (w.forCall tape i) .any w.heap.size f i ∧
      ((s.pre enc C.prog fn conds apart (w.forCall tape i).memory i.args ∧ X (w.forCall tape i).memory i.args) ∧ sizedMet enc C.prog fn (OpenSpec.ofChange s) apart (w.forCall tape i).memory i.args) ∧ a.holds C.prog (lone (Frame.enter C.prog f i.args .normal) [] (w.forCall tape i)))
    (contract : ∀ (W : World) (base : Nat) (args : Array Value) (ds gs : List (DataW H)) (before : List MemPlace),
      (∀ (j : Nat) t v, fn.params[j]? = some t → args[j]? = some v → Value.okWide C.prog W .any base t v) →
      DataW.Whole enc C.prog fn.params.toList s.vars apart W args.toList ds gs before →
      conds.all (PathCond.test C.prog ⟨fn.params.toList, ds, s.plain.varTypes C.prog, gs⟩) = true →
      (DataW.weightsEach C.prog (fn.params.toList ++ s.plain.varTypes C.prog) (ds ++ gs)).all (· ≤ reachBytes) = true → X W args → W.ShapedOpen C.prog →
      a.holds C.prog (lone (Frame.enter C.prog f args .normal) [] W) →
      Calls C.prog f args W fun e W' => ∃ v, e = .returned v ∧ s.post enc C.prog fn apart fresh handsOn again W args v W') :
    ReturnsInHanded a C os f .any (fun w args => (s.pre enc C.prog fn conds apart w args ∧ X w args) ∧ sizedMet enc C.prog fn (OpenSpec.ofChange s) apart w args) (s.post enc C.prog fn apart fresh handsOn again) := by
  refine returnsInHanded_of_calls own started noInit witness ?_
  intro w tape i _ hsh _ hok hpre hholds
  obtain ⟨_, _, _, fn', hfn', _, _, _, _, hval⟩ := hok
  have e : fn' = fn := Option.some.inj (hfn'.symm.trans hfn)
  subst e
  obtain ⟨⟨⟨ds, gs, before, hw, hc⟩, hx⟩, hz⟩ := hpre
  have hw' := DataW.Whole.of_heap (w' := w.forCall tape i) (by rfl) hw
  refine (contract (w.forCall tape i) w.heap.size i.args ds gs before hval hw' hc (hz.weights hw) (hX _ _ _ (by rfl) hx) hsh hholds).mono fun e W' ⟨v, he, hp⟩ => ?_
  subst he
  exact ChangeSpec.post_blind hp
/-- THE ROW's STEP, where the law may look into listed variables and knows the world's shape. -/
theorem lifted_shaped {C : Checked} {os : Os} (started : os.Started) {H : Type} {enc : TypeId × Value → H} {f : FuncId} {fn : Func} {s : ChangeSpec} {n : Nat} {tb : TypeId} {laidL : List (String × DataW Unit)}
    (own : ownKnob C.prog.godebug = none) (noInit : C.prog.inits.idxOf? f = none) (hfn : C.prog.funcs[f]? = some fn)
    (hl : laidOutB C.prog = true) (hts : ∀ t ∈ fn.params.toList, C.prog.readableRec t = true ∧ t < C.prog.types.size)
    (hn : fn.params.size = n) (hs : ∀ ds gs : List (DataW H), ds.length = n → gs.length = s.vars.length → s.fn H (ds ++ gs) = { results := [.lit (.bool true)], args := ds, vars := gs })
    (hres : fn.resultTypes = #[tb]) (hb : C.prog.underlying tb = some .bool)
    (hread : ∀ W, laidMetH C.prog laidL W → ∃ xs, VarsAre C.prog W s.vars xs)
    (wit : ∃ (w : World) (tape : Tape) (i : Input), w.os = os ∧ (w.forCall tape i).Shaped C.prog ∧ i.vars = [] ∧ Input.okWide C.prog (w.forCall tape i) .any w.heap.size f i ∧
      ((s.pre enc C.prog fn [] false (w.forCall tape i).memory i.args ∧ laidMetH C.prog laidL (w.forCall tape i).memory) ∧ sizedMet enc C.prog fn (OpenSpec.ofChange s) false (w.forCall tape i).memory i.args) ∧ ({} : Assume).holds C.prog (lone (Frame.enter C.prog f i.args .normal) [] (w.forCall tape i)))
    (walk : ∀ (W : World) (base : Nat) (args : Array Value) (ds : List (DataW H)) (ps : List MemPlace), (∀ (j : Nat) t v, fn.params[j]? = some t → args[j]? = some v → Value.okWide C.prog W .any base t v) → args.size = n →
      DataW.TrodAll enc C.prog W 0 (fun _ => true) true fn.params.toList args.toList ds ps → laidMetH C.prog laidL W → W.ShapedOpen C.prog →
      Calls C.prog f args W fun e W' => e = .returned (.bool true) ∧ Below W.heap.size W W') :
    ReturnsInHanded {} C os f .any (fun w args => (s.pre enc C.prog fn [] false w args ∧ laidMetH C.prog laidL w) ∧ sizedMet enc C.prog fn (OpenSpec.ofChange s) false w args) (s.post enc C.prog fn false true false false) := by
  refine change_and_shaped (C := C) (X := fun w _ => laidMetH C.prog laidL w) (fun _ _ _ hh h => laidMetH.of_heap hh h) own started noInit hfn wit ?_
  intro W base args ds gs before hval hW _ _ hL hsh _
  have hW' := hW
  obtain ⟨p, q, hA, hV, hb', hfz, hnd⟩ := hW
  subst hb'
  obtain ⟨xs, hxs⟩ := hread W hL
  obtain ⟨rfl, rfl⟩ := hV.unique (hxs.read _)
  obtain ⟨hlen, hlen2⟩ := trodAll_length hA
  simp only [Array.length_toList] at hlen hlen2
  refine (walk W base args ds p hval (hlen.trans hn) hA hL hsh).mono fun e W' ⟨he, hg⟩ => ?_
  subst he
  have hsp := hs ds (xs.map (tok enc)) (hlen2.trans hn) (by rw [List.length_map]; exact hxs.length)
  have hlt : ∀ x ∈ p ++ varPlaces C.prog s.vars, x.block < W.heap.size := fun x hx => hW'.lt x hx
  have hr : ∀ (b : Nat) (sp : Nat → Bool) (hd : Bool), DataW.TrodAll enc C.prog W' b sp hd fn.resultTypes.toList ((Value.bool true).resultList fn.resultTypes.size) (s.fn H (ds ++ xs.map (tok enc))).results [] := by
    intro b sp hd
    rw [hsp, hres]
    exact trodAll_cons_mk (shut_bool hb _) trodAll_mk0
  have ha : ∀ sp : Nat → Bool, (∀ x ∈ p, sp x.block = true) → DataW.TrodAll enc C.prog W' 0 sp true fn.params.toList args.toList (s.fn H (ds ++ xs.map (tok enc))).args p := by
    intro sp hsp'
    rw [hsp]
    exact trodAll_stays hl hts hA (fun x hx => hg.same (hlt x (List.mem_append_left _ hx))) hsp'
  have hv : ∀ sp : Nat → Bool, DataW.TrodVars enc C.prog W' sp s.vars (s.fn H (ds ++ xs.map (tok enc))).vars (varPlaces C.prog s.vars) := by
    intro sp
    rw [hsp]
    exact (hxs.stay hg).read sp
  refine ⟨_, rfl, ds, _, p ++ varPlaces C.prog s.vars, [], p, varPlaces C.prog s.vars, hW', hr _ _ _, ha _ (fun x hx => by simpa using hlt x (List.mem_append_left _ hx)), hv _, World.keptBut_mono (fun x hx => ⟨hx, .inr (by simpa using hx)⟩) (hg.frame (· ∈ p ++ varPlaces C.prog s.vars)), fun _ => ?_⟩
  have hT := trodAll_append (ha (fun _ => true) (fun _ _ => rfl)) (hr 0 (fun _ => true) true)
  refine ⟨ok_one hres rfl (okWide_bool_mk hb _), _, _, p ++ varPlaces C.prog s.vars, ⟨_, _, hT, hv _, by simp, ?_, fun h => by cases h⟩, fun x hx _ => by simpa using hx⟩
  intro b off hx
  rw [hg.frozen (hlt _ hx)]
  exact hfz b off (by simpa using hx)
end Go.LawFrame
