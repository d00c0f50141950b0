import Derived.Test.YtbbdnmhoagojdaaDoorBColumnText
import Derived.Laws.FloatArith
import Derived.ProofKit
import Derived.WalkKit
import Derived.WalkLawsBesides
import Derived.WalkSpells
import Derived.Deep.RegionHeld3
import Derived.ChangeKeysEq
import Derived.Laws.BitsAllLaws
import Derived.Deep.MidRow
import Derived.Deep.WholeRow
import Derived.StillTailTactics
import Derived.Deep.Slices
import Derived.ChangeSame
import Derived.OrdersIn
import Derived.ControlIn
import Derived.RangeFuncSeq
import Derived.RangeFuncNested
import Derived.ArgAppend
import Derived.OwnWalkIn
import Derived.TacticsInMore
import Derived.Below
import Derived.Laws.AppendOwn
import Derived.Laws.ComplexArith
import Derived.Deep.Strs
import Derived.Laws.IdiomStrings
import Derived.Laws.Bits64b
import Derived.Deep.QuietTactic
import Derived.BigQuiet
import Derived.OpenShut
import Derived.Stop.LaidErr
import Derived.LaidMore
import Derived.Handed
import Derived.LaidHandle
import Derived.Stop.Joined
import Derived.MakeChecks
import Derived.Lib.LaidTab
import Derived.StillTail
import Derived.Shelf.Strings.OnBuilder
import Derived.Lib.Join
import Derived.RangeFuncLeaves
import Derived.RangeFuncBox
import Derived.MapKept
import Derived.Lib.ItoaNum
import Derived.Lib.ItoaLen
import Derived.Lib.ItoaMem
import Derived.Shelf.Strconv.Itoa4
import Derived.Lib.AppendIntMem
import Derived.Shelf.Strings.BuilderK
import Derived.HandedShaped
import Derived.Shelf.Vars
import Derived.Lay
import Derived.SevenTiedAt
/- What the law ColumnText leans on, of no program: words of singles and doubles, blocks of memory, regions. -/
/- Numbers with signs: their values as whole numbers of the least unit; sums, differences and the order by values. No program. -/
namespace Go.Fl
open Ieee Go Go.RowKit

def sv (x : Nat) : Int := if 2147483648 ≤ x then -(val (mg x) : Int) else (val (mg x) : Int)
def ng (x : Nat) : Nat := if 2147483648 ≤ x then x - 2147483648 else x + 2147483648
/-- A finite word. -/
def FW (x : Nat) : Prop := x < 4294967296 ∧ mg x < INF
theorem FW.fin {x : Nat} (h : FW x) : finB x = true := finB_iff.2 h.2
theorem fw_of {x : Nat} (h : x < 4294967296) (hf : finB x = true) : FW x := ⟨h, finB_iff.1 hf⟩
theorem fw_amt {x : Nat} (h : amtB x = true) : FW x := fw_of (amt_lt h) (amt_fin h)
theorem mg_amt {x : Nat} (h : x < INF) : mg x = x := by unfold mg; rw [INF_val] at h; omega
theorem sv_amt {x : Nat} (h : x < INF) : sv x = (val x : Int) := by
  unfold sv
  rw [if_neg (by rw [INF_val] at h; omega), mg_amt h]
theorem ng_fw {x : Nat} (h : FW x) : FW (ng x) ∧ sv (ng x) = - sv x := by
  obtain ⟨h1, h2⟩ := h
  have e : mg (ng x) = mg x := by unfold ng mg; split <;> omega
  refine ⟨⟨by unfold ng; split <;> omega, by rw [e]; exact h2⟩, ?_⟩
  unfold sv
  rw [e]
  by_cases h3 : 2147483648 ≤ x
  · have h4 : ¬ 2147483648 ≤ ng x := by unfold ng; rw [if_pos h3]; omega
    rw [if_pos h3, if_neg h4]; omega
  · have h4 : 2147483648 ≤ ng x := by unfold ng; rw [if_neg h3]; omega
    rw [if_neg h3, if_pos h4]

def sg (s : Bool) (m : Nat) : Int := if s = true then -(m : Int) else (m : Int)
theorem signed_sg (s : Bool) (m p : Nat) : signed s m p = sg s m * 2 ^ p := by
  unfold signed sg
  rw [Nat.shiftLeft_eq]
  cases s
  · simp
  · simp [Int.neg_mul]
theorem read_sv {x : Nat} (h : FW x) : ∃ m k, S.read x = .number (decide (2147483648 ≤ x)) m (-149 + (k : Nat)) ∧ sv x = sg (decide (2147483648 ≤ x)) m * 2 ^ k ∧ val (mg x) = m * 2 ^ k := by
  obtain ⟨m, k, h3, hv⟩ := read_val h.2
  refine ⟨m, k, by rw [read_sign h.1, h3], ?_, hv⟩
  unfold sv sg
  rw [hv]
  by_cases h4 : 2147483648 ≤ x
  · rw [if_pos h4, if_pos (decide_eq_true h4), Int.neg_mul]; push_cast; rfl
  · rw [if_neg h4, if_neg (by simpa using h4)]; push_cast; rfl

theorem cmp_mul {a b : Int} {k : Int} (h : 0 < k) : compare (a * k) (b * k) = compare a b := by
  rcases Int.lt_trichotomy a b with h1 | h1 | h1
  · rw [Int.compare_eq_lt.2 h1, Int.compare_eq_lt.2 (Int.mul_lt_mul_of_pos_right h1 h)]
  · rw [h1, Int.compare_eq_eq.2 rfl, Int.compare_eq_eq.2 rfl]
  · rw [Int.compare_eq_gt.2 h1, Int.compare_eq_gt.2 (Int.mul_lt_mul_of_pos_right h1 h)]
theorem pow_pos' (k : Nat) : (0 : Int) < 2 ^ k := by exact_mod_cast Nat.two_pow_pos k

theorem order_sv {x y : Nat} (hx : FW x) (hy : FW y) : S.order x y = some (compare (sv x) (sv y)) := by
  obtain ⟨m, j, h1, v1, _⟩ := read_sv hx
  obtain ⟨n, k, h2, v2, _⟩ := read_sv hy
  unfold Format.order
  rw [h1, h2]
  simp only [Datum.order]
  congr 1
  rw [signed_sg, signed_sg, v1, v2]
  rcases Nat.le_total j k with h | h
  · obtain ⟨s, rfl⟩ : ∃ s, k = j + s := ⟨k - j, by omega⟩
    rw [show min (-149 + (j : Int)) (-149 + ((j + s : Nat) : Int)) = -149 + (j : Int) by omega, show (-149 + (j : Int) - (-149 + (j : Int))).toNat = 0 by omega, show (-149 + ((j + s : Nat) : Int) - (-149 + (j : Int))).toNat = s by omega]
    rw [Int.pow_add, Int.mul_comm (2 ^ j), ← Int.mul_assoc, cmp_mul (pow_pos' j)]
    simp
  · obtain ⟨s, rfl⟩ : ∃ s, j = k + s := ⟨j - k, by omega⟩
    rw [show min (-149 + ((k + s : Nat) : Int)) (-149 + (k : Int)) = -149 + (k : Int) by omega, show (-149 + ((k + s : Nat) : Int) - (-149 + (k : Int))).toNat = s by omega, show (-149 + (k : Int) - (-149 + (k : Int))).toNat = 0 by omega]
    rw [Int.pow_add, Int.mul_comm (2 ^ k), ← Int.mul_assoc, cmp_mul (pow_pos' k)]
    simp

theorem add_sv {x y : Nat} (hx : FW x) (hy : FW y) :
    S.add x y = some ((if (if sv x + sv y = 0 then decide (2147483648 ≤ x) && decide (2147483648 ≤ y) else decide (sv x + sv y < 0)) = true then 2147483648 else 0) + S.nearest false (sv x + sv y).natAbs (-149 + (0 : Int))) := by
  obtain ⟨m, j, h1, v1, _⟩ := read_sv hx
  obtain ⟨n, k, h2, v2, _⟩ := read_sv hy
  have key : ∀ (t : Int) (p : Nat), t * 2 ^ p = sv x + sv y → ∀ b : Bool, S.write (.number (if t = 0 then b else decide (t < 0)) t.natAbs (-149 + (p : Int))) = (if (if sv x + sv y = 0 then b else decide (sv x + sv y < 0)) = true then 2147483648 else 0) + S.nearest false (sv x + sv y).natAbs (-149 + (0 : Int)) := by
    intro t p hp b
    have hpp := pow_pos' p
    have h0 : t = 0 ↔ sv x + sv y = 0 := by
      rw [← hp]
      constructor
      · rintro rfl; simp
      · intro h
        rcases Int.mul_eq_zero.1 h with h | h
        · exact h
        · omega
    have hn : t < 0 ↔ sv x + sv y < 0 := by
      rw [← hp]
      constructor
      · intro h; exact Int.mul_neg_of_neg_of_pos h hpp
      · intro h
        rcases Int.lt_or_le t 0 with h4 | h4
        · exact h4
        · have := Int.mul_nonneg h4 (Int.le_of_lt hpp); omega
    have hb : (if t = 0 then b else decide (t < 0)) = (if sv x + sv y = 0 then b else decide (sv x + sv y < 0)) := by
      by_cases h4 : t = 0
      · rw [if_pos h4, if_pos (h0.1 h4)]
      · rw [if_neg h4, if_neg (fun h => h4 (h0.2 h))]
        exact decide_eq_decide.2 hn
    rw [write_signS, hb]
    congr 1
    show S.nearest false _ _ = _
    apply nearest_congr p 0 (by omega)
    rw [Nat.pow_zero, Nat.mul_one, ← hp, Int.natAbs_mul]
    congr 1
  unfold Format.add
  rw [h1, h2]
  simp only [Datum.sum, Option.map_some]
  congr 1
  rw [signed_sg, signed_sg]
  rcases Nat.le_total j k with h | h
  · obtain ⟨s, rfl⟩ : ∃ s, k = j + s := ⟨k - j, by omega⟩
    rw [show min (-149 + (j : Int)) (-149 + ((j + s : Nat) : Int)) = -149 + (j : Int) by omega, show (-149 + (j : Int) - (-149 + (j : Int))).toNat = 0 by omega, show (-149 + ((j + s : Nat) : Int) - (-149 + (j : Int))).toNat = s by omega]
    refine key _ j ?_ _
    rw [v1, v2, Int.add_mul, Int.pow_add, Int.mul_comm (2 ^ j) (2 ^ s), ← Int.mul_assoc]
    simp
  · obtain ⟨s, rfl⟩ : ∃ s, j = k + s := ⟨j - k, by omega⟩
    rw [show min (-149 + ((k + s : Nat) : Int)) (-149 + (k : Int)) = -149 + (k : Int) by omega, show (-149 + ((k + s : Nat) : Int) - (-149 + (k : Int))).toNat = s by omega, show (-149 + (k : Int) - (-149 + (k : Int))).toNat = 0 by omega]
    refine key _ k ?_ _
    rw [v1, v2, Int.add_mul, Int.pow_add, Int.mul_comm (2 ^ k) (2 ^ s), ← Int.mul_assoc]
    simp

/-- A word made of a sign and a magnitude. -/
theorem sv_mk (b : Bool) {N : Nat} (h : N < INF) : FW ((if b = true then 2147483648 else 0) + N) ∧ sv ((if b = true then 2147483648 else 0) + N) = if b = true then -(val N : Int) else (val N : Int) := by
  have h' := h
  rw [INF_val] at h'
  cases b
  · have e : mg (0 + N) = N := by unfold mg; omega
    exact ⟨⟨by simp; omega, by show mg (0 + N) < INF; rw [e]; exact h⟩, by unfold sv; simp [show ¬ 2147483648 ≤ N by omega, mg_amt h]⟩
  · have e : mg (2147483648 + N) = N := by unfold mg; omega
    refine ⟨⟨by simp; omega, by show mg (2147483648 + N) < INF; rw [e]; exact h⟩, ?_⟩
    unfold sv
    simp [e]

/-- What is rounded lies between words that what is exact lies between. -/
theorem round_bd {t : Int} {lo hi : Nat} (hl : FW lo) (hh : FW hi) (h1 : sv lo ≤ t) (h2 : t ≤ sv hi) (b : Bool) (hb : t ≠ 0 → b = decide (t < 0)) :
    FW ((if b = true then 2147483648 else 0) + S.nearest false t.natAbs (-149 + (0 : Int))) ∧ sv lo ≤ sv ((if b = true then 2147483648 else 0) + S.nearest false t.natAbs (-149 + (0 : Int))) ∧ sv ((if b = true then 2147483648 else 0) + S.nearest false t.natAbs (-149 + (0 : Int))) ≤ sv hi := by
  by_cases h0 : t = 0
  · subst h0
    have e : S.nearest false (0 : Int).natAbs (-149 + (0 : Int)) = 0 := by decide +kernel
    rw [e]
    have := sv_mk b (N := 0) (by decide)
    refine ⟨this.1, ?_, ?_⟩
    · rw [this.2]; cases b <;> simpa [val_zero] using h1
    · rw [this.2]; cases b <;> simpa [val_zero] using h2
  · rw [hb h0]
    by_cases hn : t < 0
    · rw [decide_eq_true hn]
      have hlo : 2147483648 ≤ lo ∧ sv lo = -(val (mg lo) : Int) := by
        unfold sv at h1 ⊢
        by_cases h : 2147483648 ≤ lo
        · exact ⟨h, if_pos h⟩
        · rw [if_neg h] at h1; omega
      have hN : S.nearest false t.natAbs (-149 + (0 : Int)) ≤ mg lo := nearest_le_word hl.2 0 0 (by omega) (by rw [Nat.pow_zero, Nat.mul_one, Nat.mul_one]; omega)
      have hNf := Nat.lt_of_le_of_lt hN hl.2
      have q := sv_mk true hNf
      refine ⟨q.1, ?_, ?_⟩
      · rw [q.2, if_pos rfl, hlo.2]
        have := val_le hN; omega
      · rw [q.2, if_pos rfl]
        by_cases hp : 2147483648 ≤ hi
        · have e : sv hi = -(val (mg hi) : Int) := if_pos hp
          rw [e] at h2 ⊢
          have := val_le (word_le_nearest (m := t.natAbs) (E := 0) hh.2 0 0 (by omega) (by rw [Nat.pow_zero, Nat.mul_one, Nat.mul_one]; omega))
          omega
        · have e : sv hi = (val (mg hi) : Int) := if_neg hp
          rw [e]; omega
    · rw [decide_eq_false hn]
      have hhi : ¬ 2147483648 ≤ hi ∧ sv hi = (val (mg hi) : Int) := by
        unfold sv at h2 ⊢
        by_cases h : 2147483648 ≤ hi
        · rw [if_pos h] at h2; omega
        · exact ⟨h, if_neg h⟩
      have hN : S.nearest false t.natAbs (-149 + (0 : Int)) ≤ mg hi := nearest_le_word hh.2 0 0 (by omega) (by rw [Nat.pow_zero, Nat.mul_one, Nat.mul_one]; omega)
      have hNf := Nat.lt_of_le_of_lt hN hh.2
      have q := sv_mk false hNf
      refine ⟨q.1, ?_, ?_⟩
      · rw [q.2, if_neg (by decide)]
        by_cases hp : 2147483648 ≤ lo
        · have e : sv lo = -(val (mg lo) : Int) := if_pos hp
          rw [e]; omega
        · have e : sv lo = (val (mg lo) : Int) := if_neg hp
          rw [e] at h1 ⊢
          have := val_le (word_le_nearest (m := t.natAbs) (E := 0) hl.2 0 0 (by omega) (by rw [Nat.pow_zero, Nat.mul_one, Nat.mul_one]; omega))
          omega
      · rw [q.2, if_neg (by decide), hhi.2]
        have := val_le hN; omega

theorem add_bd {x y lo hi : Nat} (hx : FW x) (hy : FW y) (hl : FW lo) (hh : FW hi) (h1 : sv lo ≤ sv x + sv y) (h2 : sv x + sv y ≤ sv hi) :
    S.add x y = some (fadd x y) ∧ FW (fadd x y) ∧ sv lo ≤ sv (fadd x y) ∧ sv (fadd x y) ≤ sv hi := by
  have h := add_sv hx hy
  unfold fadd
  rw [h]
  exact ⟨rfl, round_bd hl hh h1 h2 _ fun h0 => if_neg h0⟩
theorem sub_add {x y : Nat} (hy : FW y) : S.sub x y = S.add x (ng y) := by
  have hn := (ng_fw hy).1
  have em : mg (ng y) = mg y := by unfold ng mg; have := hy.1; split <;> omega
  obtain ⟨m, e, h1, h2⟩ := read_fin hy.1 hy.2
  have h3 : S.read (ng y) = .number (!decide (2147483648 ≤ y)) m e := by
    rw [read_sign hn.1, em, h1]
    have : decide (2147483648 ≤ ng y) = !decide (2147483648 ≤ y) := by
      unfold ng
      have := hy.1
      by_cases h : 2147483648 ≤ y
      · rw [if_pos h, decide_eq_true h, decide_eq_false (by omega)]; rfl
      · rw [if_neg h, decide_eq_false h, decide_eq_true (by omega)]; rfl
    rw [this]
  unfold Format.sub Format.add
  rw [h2, h3]
  rfl
def fsb (x y : Nat) : Nat := (S.sub x y).getD 0
theorem sub_bd {x y lo hi : Nat} (hx : FW x) (hy : FW y) (hl : FW lo) (hh : FW hi) (h1 : sv lo ≤ sv x - sv y) (h2 : sv x - sv y ≤ sv hi) :
    S.sub x y = some (fsb x y) ∧ FW (fsb x y) ∧ sv lo ≤ sv (fsb x y) ∧ sv (fsb x y) ≤ sv hi := by
  obtain ⟨hn, hs⟩ := ng_fw hy
  have := add_bd hx hn hl hh (by rw [hs]; omega) (by rw [hs]; omega)
  have e : fsb x y = fadd x (ng y) := by unfold fsb fadd; rw [sub_add hy]
  rw [sub_add hy, e]
  exact this
end Go.Fl
/- Air that settles: a step's numbers. No program. -/
namespace Go.Fl
open Ieee Go Go.RowKit

theorem val_inj {a b : Nat} (h : val a = val b) : a = b := by
  rcases Nat.lt_trichotomy a b with h1 | h1 | h1
  · have := val_lt h1; omega
  · exact h1
  · have := val_lt h1; omega
theorem sv_inj {x y : Nat} (hx : FW x) (hy : FW y) (h : sv x = sv y) (h0 : sv x ≠ 0) : x = y := by
  unfold sv at h h0
  have ex : mg x = x % 2147483648 := rfl
  have ey : mg y = y % 2147483648 := rfl
  have := hx.1
  have := hy.1
  by_cases h1 : 2147483648 ≤ x <;> by_cases h2 : 2147483648 ≤ y
  · rw [if_pos h1, if_pos h2] at h
    have := val_inj (a := mg x) (b := mg y) (by omega)
    omega
  · rw [if_pos h1, if_neg h2] at h; rw [if_pos h1] at h0; omega
  · rw [if_neg h1, if_pos h2] at h; rw [if_neg h1] at h0; omega
  · rw [if_neg h1, if_neg h2] at h
    have := val_inj (a := mg x) (b := mg y) (by omega)
    omega
theorem cmp_lt {a b : Int} : (some (compare a b) == some Ordering.lt) = true ↔ a < b := by
  rcases Int.lt_trichotomy a b with h | h | h
  · rw [Int.compare_eq_lt.2 h]; simp [h]
  · subst h; rw [Int.compare_eq_eq.2 rfl]; simp
  · rw [Int.compare_eq_gt.2 h]; simp; omega
theorem cmp_gt {a b : Int} : (some (compare a b) == some Ordering.gt) = true ↔ b < a := by
  rcases Int.lt_trichotomy a b with h | h | h
  · rw [Int.compare_eq_lt.2 h]; simp; omega
  · subst h; rw [Int.compare_eq_eq.2 rfl]; simp
  · rw [Int.compare_eq_gt.2 h]; simp [h]
theorem cmp_eq {a b : Int} : (some (compare a b) == some Ordering.eq) = true ↔ a = b := by
  rcases Int.lt_trichotomy a b with h | h | h
  · rw [Int.compare_eq_lt.2 h]; simp; omega
  · subst h; rw [Int.compare_eq_eq.2 rfl]; simp
  · rw [Int.compare_eq_gt.2 h]; simp; omega
section
variable {x y : Nat} (hx : FW x) (hy : FW y)
include hx hy
theorem lt_sv : (S.order x y == some .lt) = true ↔ sv x < sv y := by rw [order_sv hx hy]; exact cmp_lt
theorem gt_sv : (S.order x y == some .gt) = true ↔ sv y < sv x := by rw [order_sv hx hy]; exact cmp_gt
theorem eq_sv : (S.order x y == some .eq) = true ↔ sv x = sv y := by rw [order_sv hx hy]; exact cmp_eq
theorem le_sv : (S.order x y == some .lt || S.order x y == some .eq) = true ↔ sv x ≤ sv y := by
  rw [Bool.or_eq_true, lt_sv hx hy, eq_sv hx hy]; omega
theorem ge_sv : (S.order x y == some .gt || S.order x y == some .eq) = true ↔ sv y ≤ sv x := by
  rw [Bool.or_eq_true, gt_sv hx hy, eq_sv hx hy]; omega
end
theorem fw_60 : FW 1114636288 := ⟨by decide, by decide⟩
theorem fw_n60 : FW 3262119936 := ⟨by decide, by decide⟩
theorem heat_sv {h : Nat} (hx : h < 4294967296) : heatB h = true ↔ FW h ∧ sv 3262119936 ≤ sv h ∧ sv h ≤ sv 1114636288 := by
  constructor
  · intro hh
    have hf := fw_of hx (heat_fin hx hh)
    unfold heatB at hh
    rw [Bool.and_eq_true, ge_sv hf fw_n60, le_sv hf fw_60] at hh
    exact ⟨hf, hh⟩
  · rintro ⟨hf, h1, h2⟩
    unfold heatB
    rw [Bool.and_eq_true, ge_sv hf fw_n60, le_sv hf fw_60]
    exact ⟨h1, h2⟩
def minW (x y : Nat) : Nat := if sv x ≤ sv y then x else y
theorem run_min_sv {P : Program} {x y : Nat} (ts : Array TypeId) (t : TypeId) (hx : FW x) (hy : FW y) (h0 : sv y ≠ 0) (w : World) :
    (Builtin.min_ ts t #[.float .f32 x, .float .f32 y]).run P w = .ok (.float .f32 (minW x y)) w := by
  have ho : FloatKind.f32.format.order x y = some (compare (sv x) (sv y)) := order_sv hx hy
  unfold Builtin.min_ minW
  simp only [List.foldlM, Builtin.min2, ho]
  rcases Int.lt_trichotomy (sv x) (sv y) with h1 | h1 | h1
  · rw [Int.compare_eq_lt.2 h1, if_pos (Int.le_of_lt h1)]; rfl
  · obtain rfl := sv_inj hx hy h1 (by omega)
    rw [Int.compare_eq_eq.2 rfl, if_pos (Int.le_refl _)]
    simp only [ite_self]
    rfl
  · rw [Int.compare_eq_gt.2 h1, show (if sv x ≤ sv y then x else y) = y from if_neg (Int.not_le.2 h1)]; rfl

def stQ (h v : Nat) : Nat := fmul 1048576000 (excF h v)
def stV (h v : Nat) : Nat := fsub v (stQ h v)
def stD (h v : Nat) : Nat := fmul 1073741824 (stQ h v)
def stT (h v : Nat) : Nat := fadd h (stD h v)
def stH (h v : Nat) : Nat := minW (stT h v) 1114636288
def stG (h v g : Nat) : Nat := fadd g (stQ h v)
def goB (h v : Nat) : Bool := S.order (excF h v) 0 == some .gt
def capG : Nat → Nat
  | 0 => 0
  | k + 1 => fadd (capG k) 1148846080
theorem capG_30 : ((List.range 31).all fun k => decide (capG k < INF)) = true := by decide +kernel
theorem capG_fin {k : Nat} (h : k ≤ 30) : capG k < INF := of_decide_eq_true (List.all_eq_true.1 capG_30 k (List.mem_range.2 (by omega)))
structure Settled (k h v g : Nat) : Prop where
  hw : h < 4294967296
  heat : heatB h = true
  amt : amtB v = true
  vap : vapB v = true
  ga : amtB g = true
  gle : g ≤ capG k
theorem Settled.first {h v : Nat} (hx : h < 4294967296) (hq : airB h v = true) : Settled 0 h v 0 := by
  obtain ⟨a, b, c⟩ := airB_iff.1 hq
  exact ⟨hx, a, b, c, by decide, Nat.le_refl _⟩
theorem Settled.air {k h v g : Nat} (s : Settled k h v g) : airB h v = true := airB_iff.2 ⟨s.heat, s.amt, s.vap⟩
structure StepF (h v g : Nat) : Prop where
  pe : S.sub v (satF h) = some (excF h v)
  pq : S.mul 1048576000 (excF h v) = some (stQ h v)
  pv : S.sub v (stQ h v) = some (stV h v)
  pd : S.mul 1073741824 (stQ h v) = some (stD h v)
  pt : S.add h (stD h v) = some (stT h v)
  pg : S.add g (stQ h v) = some (stG h v g)
  pw : FW (stT h v)
theorem vapB_of {v : Nat} (h : v ≤ 1148846080) : vapB v = true := by
  unfold vapB
  have ha : v < INF := Nat.lt_of_le_of_lt h (by decide)
  rw [order_lt ha (by decide)]
  rcases Nat.lt_or_eq_of_le h with h1 | rfl
  · rw [Nat.compare_eq_lt.2 h1]; rfl
  · rw [Nat.compare_eq_eq.2 rfl]; rfl
theorem sv_bds : sv 3262119936 ≤ 0 ∧ 0 ≤ sv 1114636288 ∧ sv 1114636288 + (val 1157234688 : Int) ≤ sv 1166016512 := by decide +kernel
theorem settle_step {k h v g : Nat} (s : Settled k h v g) (hk : k < 30) (hg : goB h v = true) : StepF h v g ∧ Settled (k + 1) (stH h v) (stV h v) (stG h v g) := by
  have F := sat_facts s.hw s.heat
  have hvi := amtB_iff.1 s.amt
  obtain ⟨e1, e2, e3⟩ := exc_facts F s.amt
  have hpos := exc_pos e2 e3 hg
  have ei := amtB_iff.1 hpos.1
  -- the excess is at most the vapour
  have hle : excF h v ≤ v := by
    rcases Nat.le_total (satF h) v with h1 | h1
    · have := fsub_val hvi h1
      rw [e1] at this
      rw [Option.some.inj this.1]
      exact fsub_le hvi h1
    · rcases Nat.lt_or_eq_of_le h1 with h2 | h2
      · have := sub_neg (amtB_iff.1 (sat_amt F)) h2
        rw [e1] at this
        have := Option.some.inj this
        rw [INF_val] at ei
        omega
      · rw [← h2, sub_self hvi] at e1
        have := Option.some.inj e1
        omega
  have hq1 : stQ h v ≤ excF h v := fmul_le (x := 1048576000) (by decide) ei
  have hqv : stQ h v ≤ v := Nat.le_trans hq1 hle
  have hqi : stQ h v < INF := Nat.lt_of_le_of_lt hqv hvi
  have hv1000 := vap_le s.amt s.vap
  have v1 := fsub_val hvi hqv
  have v2 : stV h v ≤ v := fsub_le hvi hqv
  have hd : stD h v ≤ 1157234688 := by
    unfold stD
    rw [fmul_val (by decide) hqi]
    refine nearest_le_word (by decide) 0 149 (by omega) ?_
    rw [Nat.pow_zero, Nat.mul_one]
    have h1 : val (stQ h v) ≤ val 1148846080 := val_le (Nat.le_trans hqv hv1000)
    calc val 1073741824 * val (stQ h v) ≤ val 1073741824 * val 1148846080 := Nat.mul_le_mul_left _ h1
      _ ≤ _ := by decide +kernel
  have hdi : stD h v < INF := Nat.lt_of_le_of_lt hd (by decide)
  obtain ⟨hf, h1, h2⟩ := (heat_sv s.hw).1 s.heat
  have hdv := val_le hd
  have b := sv_bds
  have t1 := add_bd (x := h) (y := stD h v) (lo := 3262119936) (hi := 1166016512) hf (fw_amt (amtB_iff.2 hdi)) fw_n60 ⟨by decide, by decide⟩ (by rw [sv_amt hdi]; omega) (by rw [sv_amt hdi]; omega)
  have ga := add_eq (nnB_iff.2 (Nat.le_of_lt (amtB_iff.1 s.ga))) (nnB_iff.2 (Nat.le_of_lt hqi))
  have g1 : stG h v g ≤ capG (k + 1) := fadd_mono s.gle (Nat.le_trans hqv hv1000) (Nat.le_of_lt (capG_fin (by omega))) (by decide)
  have g2 : amtB (stG h v g) = true := amtB_iff.2 (Nat.lt_of_le_of_lt g1 (capG_fin (by omega)))
  refine ⟨⟨e1, (mul_eq (by decide) hpos.1).1, v1.1, (mul_eq (by decide) (amtB_iff.2 hqi)).1, t1.1, ga.1, t1.2.1⟩, ?_⟩
  have hH : heatB (stH h v) = true ∧ stH h v < 4294967296 := by
    unfold stH minW
    by_cases hc : sv (stT h v) ≤ sv 1114636288
    · rw [if_pos hc]
      exact ⟨(heat_sv t1.2.1.1).2 ⟨t1.2.1, t1.2.2.1, hc⟩, t1.2.1.1⟩
    · rw [if_neg hc]; exact ⟨by decide +kernel, by decide⟩
  exact ⟨hH.2, hH.1, amtB_iff.2 (Nat.lt_of_le_of_lt v2 hvi), vapB_of (Nat.le_trans v2 hv1000), g2, g1⟩
def sett : Nat → Nat → Nat → Nat → Nat × Nat × Nat
  | 0, h, v, g => (h, v, g)
  | n + 1, h, v, g => if goB h v = true then sett n (stH h v) (stV h v) (stG h v g) else (h, v, g)
theorem sett_go {k h v g : Nat} (hk : k < 30) (hg : goB h v = true) : sett (30 - k) h v g = sett (30 - (k + 1)) (stH h v) (stV h v) (stG h v g) := by
  obtain ⟨n, hn⟩ : ∃ n, 30 - k = n + 1 := ⟨29 - k, by omega⟩
  rw [hn, show 30 - (k + 1) = n by omega]
  exact if_pos hg
theorem sett_stop {n h v g : Nat} (hg : goB h v = false) : sett n h v g = (h, v, g) := by
  cases n with
  | zero => rfl
  | succ n => exact if_neg (by rw [hg]; decide)
def setH (h v : Nat) : Nat := (sett 30 h v 0).1
def setV (h v : Nat) : Nat := (sett 30 h v 0).2.1
def setG (h v : Nat) : Nat := (sett 30 h v 0).2.2
theorem sett_ok : ∀ n {k h v g : Nat}, k + n ≤ 30 → Settled k h v g → ∃ j, j ≤ 30 ∧ Settled j (sett n h v g).1 (sett n h v g).2.1 (sett n h v g).2.2
  | 0, k, h, v, g, hk, s => ⟨k, by omega, s⟩
  | n + 1, k, h, v, g, hk, s => by
    unfold sett
    by_cases hg : goB h v = true
    · rw [if_pos hg]
      exact sett_ok n (by omega) (settle_step s (by omega) hg).2
    · rw [if_neg hg]; exact ⟨k, by omega, s⟩
theorem set_ok {h v : Nat} (hx : h < 4294967296) (hq : airB h v = true) : airB (setH h v) (setV h v) = true ∧ setH h v < 4294967296 ∧ amtB (setG h v) = true := by
  obtain ⟨j, _, s⟩ := sett_ok 30 (k := 0) (by omega) (Settled.first hx hq)
  exact ⟨s.air, s.hw, s.ga⟩
end Go.Fl
/- The excess of a parcel that is raised dry, and the base. No program. -/
namespace Go.Fl
open Ieee Go Go.RowKit

theorem fsb_zero {h : Nat} (hf : FW h) : S.sub h 0 = some h := by
  have f0 : FW 0 := ⟨by decide, by decide⟩
  have e0 : ng 0 = 2147483648 := by decide
  have s0 : sv (ng 0) = 0 := by decide +kernel
  rw [sub_add f0, add_sv hf (ng_fw f0).1, s0, Int.add_zero, e0]
  congr 1
  by_cases hz : sv h = 0
  · rw [if_pos hz, hz]
    have hN : S.nearest false (0 : Int).natAbs (-149 + (0 : Int)) = 0 := by decide +kernel
    rw [hN]
    have hm : mg h = 0 := by
      have hv : val (mg h) = 0 := by
        unfold sv at hz
        split at hz <;> omega
      exact val_inj (by rw [hv, val_zero])
    have ex : mg h = h % 2147483648 := rfl
    have := hf.1
    by_cases h2 : 2147483648 ≤ h
    · simp [h2]; omega
    · simp [h2]; omega
  · rw [if_neg hz]
    have ex : mg h = h % 2147483648 := rfl
    have := hf.1
    have hN : S.nearest false (sv h).natAbs (-149 + (0 : Int)) = mg h := by
      have : (sv h).natAbs = val (mg h) := by unfold sv; split <;> omega
      rw [this]; exact nearest_val hf.2
    rw [hN]
    by_cases h2 : 2147483648 ≤ h
    · have : sv h < 0 := by unfold sv at hz ⊢; rw [if_pos h2] at hz ⊢; omega
      rw [if_pos (decide_eq_true this)]; omega
    · have : ¬ sv h < 0 := by unfold sv; rw [if_neg h2]; omega
      rw [if_neg (by simpa using this)]; omega
theorem add_pos {x y hi : Nat} (hx : FW x) (hy : FW y) (hp : y < 2147483648) (hh : FW hi) (h1 : 0 ≤ sv x + sv y) (h2 : sv x + sv y ≤ sv hi) : S.add x y = some (fadd x y) ∧ amtB (fadd x y) = true ∧ (val (fadd x y) : Int) ≤ sv hi := by
  have h := add_sv hx hy
  have hb : (if sv x + sv y = 0 then decide (2147483648 ≤ x) && decide (2147483648 ≤ y) else decide (sv x + sv y < 0)) = false := by
    split
    · rw [show decide (2147483648 ≤ y) = false from decide_eq_false (by omega), Bool.and_false]
    · exact decide_eq_false (by omega)
  rw [hb] at h
  have hN : S.nearest false (sv x + sv y).natAbs (-149 + (0 : Int)) ≤ mg hi := nearest_le_word hh.2 0 0 (by omega) (by
    rw [Nat.pow_zero, Nat.mul_one, Nat.mul_one]
    have h3 : sv hi ≤ (val (mg hi) : Int) := by unfold sv; split <;> omega
    omega)
  have e : fadd x y = S.nearest false (sv x + sv y).natAbs (-149 + (0 : Int)) := by
    unfold fadd; rw [h]; simp
  rw [h, e]
  have hNi := Nat.lt_of_le_of_lt hN hh.2
  refine ⟨by simp, amtB_iff.2 hNi, ?_⟩
  have := val_le hN
  have h3 : (val (mg hi) : Int) ≤ sv hi ∨ sv hi < 0 ∨ sv hi = 0 := by unfold sv; split <;> omega
  rcases h3 with h3 | h3 | h3
  · omega
  · omega
  · have hz : sv x + sv y = 0 := by omega
    rw [hz]
    have : S.nearest false (0 : Int).natAbs (-149 + (0 : Int)) = 0 := by decide +kernel
    rw [this, val_zero, h3]; omega

def maxW (x y : Nat) : Nat := if sv x < sv y then y else x
theorem run_max_sv {P : Program} {x y : Nat} (ts : Array TypeId) (t : TypeId) (hx : FW x) (hy : FW y) (h0 : sv y ≠ 0) (w : World) :
    (Builtin.max_ ts t #[.float .f32 x, .float .f32 y]).run P w = .ok (.float .f32 (maxW x y)) w := by
  have ho : FloatKind.f32.format.order x y = some (compare (sv x) (sv y)) := order_sv hx hy
  unfold Builtin.max_ maxW
  simp only [List.foldlM, Builtin.max2, ho]
  rcases Int.lt_trichotomy (sv x) (sv y) with h1 | h1 | h1
  · rw [Int.compare_eq_lt.2 h1, if_pos h1]; rfl
  · obtain rfl := sv_inj hx hy h1 (by omega)
    rw [Int.compare_eq_eq.2 rfl, if_neg (Int.lt_irrefl _)]
    simp only [ite_self]
    rfl
  · rw [Int.compare_eq_gt.2 h1, show (if sv x < sv y then y else x) = x from if_neg (Int.not_lt.2 (Int.le_of_lt h1))]; rfl

/-- Heights: amounts of at most 30. -/
def Hgt (x : Nat) : Prop := x ≤ 1106247680
theorem hgt_iff {x : Nat} : hgtB x = true ↔ Hgt x := by
  unfold hgtB Hgt
  rw [Bool.and_eq_true]
  constructor
  · rintro ⟨ha, ho⟩
    rw [order_lt (amtB_iff.1 ha) (by decide)] at ho
    apply Nat.le_of_not_lt
    intro hlt
    rw [Nat.compare_eq_gt.2 hlt] at ho
    exact absurd ho (by decide)
  · intro h
    have ha : x < INF := Nat.lt_of_le_of_lt h (by decide)
    refine ⟨amtB_iff.2 ha, ?_⟩
    rw [order_lt ha (by decide)]
    rcases Nat.lt_or_eq_of_le h with h1 | rfl
    · rw [Nat.compare_eq_lt.2 h1]; rfl
    · rw [Nat.compare_eq_eq.2 rfl]; rfl
def tenW (a y : Nat) : Nat := fmul 1092616192 (fsub y a)
def dryW (a h y : Nat) : Nat := fsb h (tenW a y)
def dryH (a h y : Nat) : Nat := maxW (dryW a h y) 3262119936
def exW (a h v y : Nat) : Nat := excF (dryH a h y) v
theorem tb : sv 3288334336 ≤ sv 3262119936 - (val 1133903872 : Int) ∧ sv 3262119936 ≠ 0 ∧ (0 : Int) ≤ sv 1114636288 := by decide +kernel
structure DryF (a h v y : Nat) : Prop where
  s1 : S.sub y a = some (fsub y a)
  s2 : S.mul 1092616192 (fsub y a) = some (tenW a y)
  s3 : S.sub h (tenW a y) = some (dryW a h y)
  dw : FW (dryW a h y)
  heat : heatB (dryH a h y) = true
  hw : dryH a h y < 4294967296
  sat : SatF (dryH a h y)
  ex : S.sub v (satF (dryH a h y)) = some (exW a h v y)
  ew : exW a h v y < 4294967296
  ef : finB (exW a h v y) = true
theorem ten_le {d : Nat} (h : d ≤ 1106247680) : fmul 1092616192 d ≤ 1133903872 := by
  rw [fmul_val (by decide) (Nat.lt_of_le_of_lt h (by decide))]
  refine nearest_le_word (by decide) 0 149 (by omega) ?_
  rw [Nat.pow_zero, Nat.mul_one]
  calc val 1092616192 * val d ≤ val 1092616192 * val 1106247680 := Nat.mul_le_mul_left _ (val_le h)
    _ ≤ _ := by decide +kernel
theorem dry_facts {a h v y : Nat} (hay : a ≤ y) (hy : Hgt y) (hx : h < 4294967296) (hh : heatB h = true) (hv : amtB v = true) : DryF a h v y := by
  have hyi : y < INF := Nat.lt_of_le_of_lt hy (by decide)
  have e1 := fsub_val hyi hay
  have e2 := fsub_le hyi hay
  have e3 := ten_le (Nat.le_trans e2 hy)
  have ti : tenW a y < INF := Nat.lt_of_le_of_lt e3 (by decide)
  have m := mul_eq (x := 1092616192) (y := fsub y a) (by decide) (amtB_iff.2 (Nat.lt_of_le_of_lt e2 hyi))
  obtain ⟨hf, h1, h2⟩ := (heat_sv hx).1 hh
  have b := tb
  have hv9 := val_le e3
  have s := sub_bd (x := h) (y := tenW a y) (lo := 3288334336) (hi := 1114636288) hf (fw_amt (amtB_iff.2 ti)) ⟨by decide, by decide⟩ fw_60 (by rw [sv_amt ti]; unfold tenW; omega) (by rw [sv_amt ti]; omega)
  have hH : heatB (dryH a h y) = true ∧ dryH a h y < 4294967296 := by
    unfold dryH maxW
    by_cases hc : sv (dryW a h y) < sv 3262119936
    · rw [if_pos hc]; exact ⟨by decide +kernel, by decide⟩
    · rw [if_neg hc]; exact ⟨(heat_sv s.2.1.1).2 ⟨s.2.1, Int.not_lt.1 hc, s.2.2.2⟩, s.2.1.1⟩
  have F := sat_facts hH.2 hH.1
  have x := exc_facts F hv
  exact ⟨e1.1, m.1, s.1, s.2.1, hH.1, hH.2, F, x.1, x.2.1, x.2.2⟩
theorem ex_own {a h v : Nat} (ha : Hgt a) (hx : h < 4294967296) (hh : heatB h = true) : exW a h v a = excF h v := by
  obtain ⟨hf, h1, h2⟩ := (heat_sv hx).1 hh
  have hai : a < INF := Nat.lt_of_le_of_lt ha (by decide)
  have e0 : fsub a a = 0 := by have := (fsub_val hai (Nat.le_refl a)).1; rw [sub_self hai] at this; exact (Option.some.inj this).symm
  have e1 : tenW a a = 0 := by unfold tenW; rw [e0]; decide +kernel
  have e2 : dryW a h a = h := by unfold dryW fsb; rw [e1, fsb_zero hf]; rfl
  unfold exW dryH maxW
  rw [e2, if_neg (by omega)]

def hi0 (a h : Nat) : Nat := fadd a (fdiv (fadd h 1114636288) 1092616192)
def hiW (a h : Nat) : Nat := min 1106247680 (hi0 a h)
structure HiF (a h : Nat) : Prop where
  s1 : S.add h 1114636288 = some (fadd h 1114636288)
  s1' : S.sub h 3262119936 = some (fadd h 1114636288)
  s2 : S.div (fadd h 1114636288) 1092616192 = some (fdiv (fadd h 1114636288) 1092616192)
  s3 : S.add a (fdiv (fadd h 1114636288) 1092616192) = some (hi0 a h)
  am : amtB (hi0 a h) = true
  lo : a ≤ hiW a h
theorem hb2 : sv 1114636288 + sv 1114636288 ≤ sv 1124073472 ∧ sv 3262119936 + sv 1114636288 = 0 ∧ (val (p32 134) : Int) = sv 1124073472 := by decide +kernel
theorem hi_facts {a h : Nat} (ha : Hgt a) (hx : h < 4294967296) (hh : heatB h = true) : HiF a h := by
  obtain ⟨hf, h1, h2⟩ := (heat_sv hx).1 hh
  have b := hb2
  have p := add_pos (x := h) (y := 1114636288) (hi := 1124073472) hf fw_60 (by decide) ⟨by decide, by decide⟩ (by omega) (by omega)
  have hle : fadd h 1114636288 ≤ p32 134 := by
    apply Nat.le_of_not_lt
    intro hlt
    have := val_lt hlt
    omega
  have q := quo_pow (x := fadd h 1114636288) (y := 1092616192) (A := 134) (B := 130) (by decide) (by decide) (by decide) hle (by decide) (by decide) (by decide) (by decide)
  have hdi : fdiv (fadd h 1114636288) 1092616192 < INF := Nat.lt_of_le_of_lt q.2 (by decide)
  have hai : a < INF := Nat.lt_of_le_of_lt ha (by decide)
  have s := add_eq (x := a) (y := fdiv (fadd h 1114636288) 1092616192) (nnB_iff.2 (Nat.le_of_lt hai)) (nnB_iff.2 (Nat.le_of_lt hdi))
  have up : hi0 a h ≤ fadd 1106247680 (p32 132) := fadd_mono ha q.2 (by decide) (by decide)
  have low : a ≤ hi0 a h := by
    have := fadd_mono (x := a) (y := 0) (x' := a) (y' := fdiv (fadd h 1114636288) 1092616192) (Nat.le_refl _) (Nat.zero_le _) (Nat.le_of_lt hai) (Nat.le_of_lt hdi)
    rw [fadd_zero_right (nnB_iff.2 (Nat.le_of_lt hai))] at this
    exact this
  refine ⟨p.1, ?_, q.1, s.1, amtB_iff.2 (Nat.lt_of_le_of_lt up (by decide +kernel)), Nat.le_min.2 ⟨ha, low⟩⟩
  rw [sub_add fw_n60, show ng 3262119936 = 1114636288 by decide]
  exact p.1
theorem dbl_word {x : Nat} (h : x ≤ 1106247680) : ∃ y, y < INF ∧ val y = 2 * val x := by
  by_cases h1 : x < 8388608
  · refine ⟨2 * x, by rw [INF_val]; omega, ?_⟩
    unfold val
    rw [if_pos h1]
    by_cases h2 : 2 * x < 8388608
    · rw [if_pos h2]
    · rw [if_neg h2, show 2 * x / 8388608 = 1 by omega]; omega
  · refine ⟨x + 8388608, by rw [INF_val]; omega, ?_⟩
    unfold val
    rw [if_neg (by omega), if_neg h1, show (x + 8388608) % 8388608 = x % 8388608 by omega, show (x + 8388608) / 8388608 - 1 = (x / 8388608 - 1) + 1 by omega, Nat.pow_succ]
    rw [← Nat.mul_assoc, Nat.mul_comm 2]
def midW (l h : Nat) : Nat := fmul 1056964608 (fadd l h)
structure MidF (l h : Nat) : Prop where
  s1 : S.add l h = some (fadd l h)
  s2 : S.mul 1056964608 (fadd l h) = some (midW l h)
  lo : l ≤ midW l h
  hi : Hgt (midW l h)
theorem val_half : val 1056964608 = 2 ^ 148 := by decide +kernel
theorem mid_facts {l h : Nat} (hl : l ≤ h) (hh : Hgt h) : MidF l h := by
  have hhi : h < INF := Nat.lt_of_le_of_lt hh (by decide)
  have hli : l < INF := Nat.lt_of_le_of_lt hl hhi
  have s := add_eq (x := l) (y := h) (nnB_iff.2 (Nat.le_of_lt hli)) (nnB_iff.2 (Nat.le_of_lt hhi))
  have up : fadd l h ≤ 1114636288 := Nat.le_trans (fadd_mono (x' := 1106247680) (y' := 1106247680) (Nat.le_trans hl hh) hh (by decide) (by decide)) (by decide +kernel)
  have si : fadd l h < INF := Nat.lt_of_le_of_lt up (by decide)
  have m := mul_eq (x := 1056964608) (y := fadd l h) (by decide) (amtB_iff.2 si)
  refine ⟨s.1, m.1, ?_, ?_⟩
  · obtain ⟨y, hy, hv⟩ := dbl_word (Nat.le_trans hl hh)
    have h1 : y ≤ fadd l h := by
      rw [fadd_val hli hhi]
      refine word_le_nearest hy 0 0 (by omega) ?_
      rw [Nat.pow_zero, Nat.mul_one, Nat.mul_one, hv]
      have := val_le hl; omega
    have h2 := val_le h1
    unfold midW
    rw [fmul_val (by decide) si]
    refine word_le_nearest hli 0 149 (by omega) ?_
    rw [Nat.pow_zero, Nat.mul_one, val_half, show (149 : Nat) = 148 + 1 from rfl, Nat.pow_succ]
    rw [hv] at h2
    calc val l * (2 ^ 148 * 2) = 2 ^ 148 * (2 * val l) := by rw [Nat.mul_comm, Nat.mul_assoc]
      _ ≤ _ := Nat.mul_le_mul_left _ h2
  · unfold midW Hgt
    rw [fmul_val (by decide) si]
    refine nearest_le_word (by decide) 0 149 (by omega) ?_
    rw [Nat.pow_zero, Nat.mul_one]
    calc val 1056964608 * val (fadd l h) ≤ val 1056964608 * val 1114636288 := Nat.mul_le_mul_left _ (val_le up)
      _ ≤ _ := by decide +kernel
def exB (a h v y : Nat) : Bool := S.order (exW a h v y) 0 == some .gt || S.order (exW a h v y) 0 == some .eq
/-- What the bisection makes. -/
def bis (a h v : Nat) : Nat → Nat → Nat → Nat
  | 0, _, hi => hi
  | n + 1, lo, hi => if exB a h v (midW lo hi) = true then bis a h v n lo (midW lo hi) else bis a h v n (midW lo hi) hi
theorem bis_t {a h v k lo hi : Nat} (hk : k < 24) (hb : exB a h v (midW lo hi) = true) : bis a h v (24 - k) lo hi = bis a h v (24 - (k + 1)) lo (midW lo hi) := by
  obtain ⟨n, hn⟩ : ∃ n, 24 - k = n + 1 := ⟨23 - k, by omega⟩
  rw [hn, show 24 - (k + 1) = n by omega]
  exact if_pos hb
theorem bis_f {a h v k lo hi : Nat} (hk : k < 24) (hb : exB a h v (midW lo hi) = false) : bis a h v (24 - k) lo hi = bis a h v (24 - (k + 1)) (midW lo hi) hi := by
  obtain ⟨n, hn⟩ : ∃ n, 24 - k = n + 1 := ⟨23 - k, by omega⟩
  rw [hn, show 24 - (k + 1) = n by omega]
  exact if_neg (by rw [hb]; decide)
/-- Both ends of the bisection. -/
structure BEnds (a lo hi : Nat) : Prop where
  al : a ≤ lo
  lh : lo ≤ hi
  hh : Hgt hi
theorem mid_hi {l h : Nat} (hl : l ≤ h) (hh : Hgt h) : midW l h ≤ h := by
  have hhi : h < INF := Nat.lt_of_le_of_lt hh (by decide)
  have hli : l < INF := Nat.lt_of_le_of_lt hl hhi
  have up : fadd l h ≤ 1114636288 := Nat.le_trans (fadd_mono (x' := 1106247680) (y' := 1106247680) (Nat.le_trans hl hh) hh (by decide) (by decide)) (by decide +kernel)
  have si : fadd l h < INF := Nat.lt_of_le_of_lt up (by decide)
  obtain ⟨y, hy, hv⟩ := dbl_word hh
  have h1 : fadd l h ≤ y := by
    rw [fadd_val hli hhi]
    refine nearest_le_word hy 0 0 (by omega) ?_
    rw [Nat.pow_zero, Nat.mul_one, Nat.mul_one, hv]
    have := val_le hl; omega
  have h2 := val_le h1
  unfold midW
  rw [fmul_val (by decide) si]
  refine nearest_le_word hhi 0 149 (by omega) ?_
  rw [Nat.pow_zero, Nat.mul_one, val_half, show (149 : Nat) = 148 + 1 from rfl, Nat.pow_succ]
  rw [hv] at h2
  calc 2 ^ 148 * val (fadd l h) ≤ 2 ^ 148 * (2 * val h) := Nat.mul_le_mul_left _ h2
    _ = val h * (2 ^ 148 * 2) := by rw [Nat.mul_comm (val h), Nat.mul_assoc]
theorem BEnds.up {a lo hi : Nat} (e : BEnds a lo hi) : BEnds a lo (midW lo hi) := ⟨e.al, (mid_facts e.lh e.hh).lo, (mid_facts e.lh e.hh).hi⟩
theorem BEnds.down {a lo hi : Nat} (e : BEnds a lo hi) : BEnds a (midW lo hi) hi := ⟨Nat.le_trans e.al (mid_facts e.lh e.hh).lo, mid_hi e.lh e.hh, e.hh⟩
theorem bis_hgt {a h v : Nat} : ∀ n {lo hi : Nat}, BEnds a lo hi → Hgt (bis a h v n lo hi)
  | 0, _, _, e => e.hh
  | n + 1, lo, hi, e => by
    unfold bis
    split
    · exact bis_hgt n e.up
    · exact bis_hgt n e.down
end Go.Fl
/- Slices of triples of singles: read, made, written, opened. No program. -/
namespace Go.Fl
open Go.RowKit Go.ChangeShapes Go.WideShapes

/-- s is a slice of n elements, three singles each, that lie as x has them. -/
def Rd (w : World) (s : Value) (n : Nat) (x : Nat → Nat) : Prop :=
  ∃ p cap, s = .slice p n cap ∧ (0 < n → ∃ b o, p = some ⟨b, o, none⟩ ∧ ∀ k, k < 3 * n → w.cell? ⟨b, o + k, none⟩ = some (.float .f32 (x k)))

section
variable {w w' w0 : World} {s : Value} {n N g b o : Nat} {x y : Nat → Nat} {T : TypeId} {l : List (Nat × Array Value × TypeId)}
theorem Rd.stay (h : Rd w s n x) (hb : Below w.heap.size w w') : Rd w' s n x := by
  obtain ⟨p, cap, rfl, h⟩ := h
  refine ⟨p, cap, rfl, fun hn => ?_⟩
  obtain ⟨b, o, rfl, hc⟩ := h hn
  refine ⟨b, o, rfl, fun k hk => ?_⟩
  have h1 := hc k hk
  rw [hb.cell (block_lt_of_cell h1)]
  exact h1
theorem Rd.drew (h : Rd w s n x) : Rd w.drew s n x := h
/-- The three cells of an element. -/
theorem row3 (hc : ∀ k, k < 3 * n → w.cell? ⟨b, o + k, none⟩ = some (.float .f32 (x k))) {i : Nat} (hi : i < n) :
    w.rangeAt b (o + i * 3) [.float .f32 (x (i * 3)), .float .f32 (x (i * 3 + 1)), .float .f32 (x (i * 3 + 2))] := by
  intro j v hv
  match j, hv with
  | 0, hv => simp only [List.getElem?_cons_zero, Option.some.injEq] at hv; subst hv; exact hc (i * 3) (by omega)
  | 1, hv => simp only [List.getElem?_cons_succ, List.getElem?_cons_zero, Option.some.injEq] at hv; subst hv; rw [Nat.add_assoc]; exact hc (i * 3 + 1) (by omega)
  | 2, hv => simp only [List.getElem?_cons_succ, List.getElem?_cons_zero, Option.some.injEq] at hv; subst hv; rw [Nat.add_assoc]; exact hc (i * 3 + 2) (by omega)
  | j + 3, hv => simp at hv
theorem cell0 (hc : ∀ k, k < 3 * n → w.cell? ⟨b, o + k, none⟩ = some (.float .f32 (x k))) {i : Nat} (hi : i < n) : w.cell? ⟨b, o + i * 3, none⟩ = some (.float .f32 (x (i * 3))) := hc _ (by omega)
theorem cell1 (hc : ∀ k, k < 3 * n → w.cell? ⟨b, o + k, none⟩ = some (.float .f32 (x k))) {i : Nat} (hi : i < n) : w.cell? ⟨b, o + i * 3 + 1, none⟩ = some (.float .f32 (x (i * 3 + 1))) := by
  rw [Nat.add_assoc]; exact hc _ (by omega)
theorem cell2 (hc : ∀ k, k < 3 * n → w.cell? ⟨b, o + k, none⟩ = some (.float .f32 (x k))) {i : Nat} (hi : i < n) : w.cell? ⟨b, o + i * 3 + 2, none⟩ = some (.float .f32 (x (i * 3 + 2))) := by
  rw [Nat.add_assoc]; exact hc _ (by omega)
theorem Rd.of_vAt (h : vAt w g N (flw x) T) (hn : 3 * n ≤ N) (cap : Nat) : Rd w (.slice (some ⟨g, 0, none⟩) n cap) n x :=
  ⟨_, cap, rfl, fun _ => ⟨g, 0, rfl, fun k hk => by rw [Nat.zero_add]; exact h.fcell (by omega)⟩⟩
theorem flw_set (N : Nat) (f : Nat → Nat) (o a : Nat) : (vls N (flw f)).setIfInBounds o (.float .f32 a) = vls N (flw (upd f o a)) := by
  rw [vls_set]
  exact vls_ext fun i _ => flw_upd f o a i
theorem Kept.three {f : Nat → Nat} (k : Kept w0 ((g, vls N (flw f), T) :: l) w) (hB : w0.heap.size ≤ g) (hne : ∀ x ∈ l, x.1 ≠ g) (o a b c : Nat) :
    Kept w0 ((g, vls N (flw (upd (upd (upd f o a) (o + 1) b) (o + 2) c)), T) :: l) (w.setCells g o [.float .f32 a, .float .f32 b, .float .f32 c]) := by
  have h := ((k.lcell hB hne o (.float .f32 a)).lcell hB hne (o + 1) (.float .f32 b)).lcell hB hne (o + 2) (.float .f32 c)
  rw [flw_set, flw_set, flw_set] at h
  exact h
/-- The first k triples as x has them, the rest zero. -/
def part3 (x : Nat → Nat) (k : Nat) : Nat → Nat := fun i => if i < 3 * k then x i else 0
theorem part3_zero (x : Nat → Nat) : part3 x 0 = fun _ => 0 := by
  funext i; exact if_neg (by omega)
theorem part3_step (x : Nat → Nat) (k : Nat) : upd (upd (upd (part3 x k) (k * 3) (x (k * 3))) (k * 3 + 1) (x (k * 3 + 1))) (k * 3 + 2) (x (k * 3 + 2)) = part3 x (k + 1) := by
  funext i
  unfold upd part3
  by_cases h2 : i = k * 3 + 2
  · rw [if_pos h2, if_pos (by omega), h2]
  · rw [if_neg h2]
    by_cases h1 : i = k * 3 + 1
    · rw [if_pos h1, if_pos (by omega), h1]
    · rw [if_neg h1]
      by_cases h0 : i = k * 3
      · rw [if_pos h0, if_pos (by omega), h0]
      · rw [if_neg h0]
        by_cases hlt : i < 3 * k
        · rw [if_pos hlt, if_pos (by omega)]
        · rw [if_neg hlt, if_neg (by omega)]
theorem vAt.part {k : Nat} (h : vAt w g (3 * n) (flw (part3 x k)) T) (hk : n ≤ k) : vAt w g (3 * n) (flw x) T := h.ext fun i hi => by
  unfold flw part3
  rw [if_pos (by omega)]
end

section
variable {P : Program}
theorem run_make3 {t e : TypeId} (ht : P.underlying t = some (.slice e)) (hi : (P.info? e).map (fun i => (i.zero, i.size, i.bytes)) = some (some (.agg #[.float .f32 0, .float .f32 0, .float .f32 0]), 3, 12)) {n : Nat} (hn : n ≤ 1048576) (w : World) :
    (Instr.makeSlice t (.int .i64 (n : Int)) (.int .i64 (n : Int))).run P w = .ok (.slice (some ⟨w.heap.size, 0, none⟩) n n) (w.alloc (.cells (vls (3 * n) (flw fun _ => 0)) e)) := by
  obtain ⟨i, h1, h2, h3, h4⟩ := info_parts hi
  have h := run_make (P := P) w t e i _ ht h1 h2 .i64 .i64 n n (by omega) (Int.le_refl _) (by rw [h4]; omega) (by omega)
  rw [h, h3]
  simp only [Int.toNat_natCast]
  congr 4
  apply Array.ext_getElem?
  intro j
  by_cases hj : j < 3 * n
  · rw [vls_get _ hj]
    have hm : j % 3 = 0 ∨ j % 3 = 1 ∨ j % 3 = 2 := by omega
    have hj2 : j < n * 3 := by omega
    rcases hm with hm | hm | hm <;> simp [madeCells, hj2, hm, Value.cells, flw]
  · rw [vls_none _ (by omega)]
    simp [madeCells]
    omega

theorem run_indexAt {t e : TypeId} {m : Nat} (ht : P.underlying t = some (.slice e)) (hi : (P.info? e).map (·.size) = some m) {b o n cap k : Nat} (hk : k < n) (w : World) :
    (Instr.indexAt t (.slice (some ⟨b, o, none⟩) n cap) (.int .i64 (k : Int))).run P w = .ok (.pointer (some ⟨b, o + k * m, none⟩)) w := by
  have hs : (sizeOf e).run P w = .ok m w := by
    cases hq : P.info? e with
    | none => rw [hq] at hi; cases hi
    | some i =>
      rw [hq] at hi
      have hs : i.size = m := by simpa using hi
      simp [sizeOf, typeInfo, Sem.run_bind, hq, hs]
  have h0 : (0 : Int) ≤ (k : Int) ∧ (k : Int) < (n : Int) := ⟨by omega, by omega⟩
  simp only [Instr.indexAt, asIntOf, Sem.run_bind, Sem.run_pure, Result.andThen_ok, run_underlying ht w]
  simp [h0, hs, Addr.add_mid]
end

/-! A slice of structs of a single and of two more, that came in. -/
section
variable {H : Type} {enc : TypeId × Value → H} {P : Program} {w : World} {base : Nat} {spare : Nat → Bool} {held : Bool}
theorem trod_flt {t : TypeId} {k : FloatKind} {fuel : Nat} {cs : List Value} {x : DataW H × List MemPlace} (ht : P.underlying t = some (.float k)) (h : DataW.trod enc P w base spare held fuel t cs = some x) : ∃ n, cs = [.float k n] ∧ (Lit.float k n).wf = true := by
  cases fuel with
  | zero => simp [DataW.trod] at h
  | succ n =>
    unfold DataW.trod at h
    rw [ht] at h
    split at h <;> simp_all
theorem trod_f32 {t : TypeId} {fuel : Nat} {cs : List Value} {x : DataW H × List MemPlace} (ht : P.underlying t = some (.float .f32)) (h : DataW.trod enc P w base spare held fuel t cs = some x) : ∃ n, cs = [.float .f32 n] ∧ n < 4294967296 := by
  obtain ⟨n, e, hw⟩ := trod_flt ht h
  exact ⟨n, e, by simpa [Lit.wf] using hw⟩
theorem open_level {t e f a : TypeId} {f0 f1 g0 g1 : Field} {v : Value} {d : DataW H} {p : List MemPlace} (ht : P.underlying t = some (.slice e)) (he : P.underlying e = some (.struct #[f0, f1])) (ha : P.underlying a = some (.struct #[g0, g1]))
    (hf : P.underlying f = some (.float .f32)) (e0 : f0.type = f ∧ f0.offset = 0) (e1 : f1.type = a ∧ f1.offset = 1) (e2 : g0.type = f ∧ g0.offset = 0) (e3 : g1.type = f ∧ g1.offset = 1) (hC : P.cellsOf e = 3) (hA : P.cellsOf a = 2) (hF : P.cellsOf f = 1)
    (h : DataW.Trod enc P w base spare held t v d p) (hv : v.cells.toList = [v]) : ∃ n x, Rd w v n x ∧ n ≤ maxLen ∧ ∀ k, x k < 4294967296 := by
  obtain ⟨fuel, h⟩ := h
  rw [hv] at h
  rcases Go.Deep.open_slice ht h with ⟨h0, _⟩ | ⟨ad, len, cap, m, n, D, Pl, hcs, _, hlc, hcm, hm, _, hel⟩
  · injection h0 with h0 _
    subst h0
    exact ⟨0, fun _ => 0, ⟨none, 0, rfl, fun h => by omega⟩, Nat.zero_le _, fun _ => Nat.zero_lt_succ _⟩
  · injection hcs with hcs _
    subst hcs
    have hlm : len ≤ m := by rw [hm]; split <;> omega
    have one : ∀ i, i < len → ∃ q : Nat × Nat × Nat, (w.cell? (ad.add (i * 3)) = some (.float .f32 q.1) ∧ w.cell? (ad.add (i * 3 + 1)) = some (.float .f32 q.2.1) ∧ w.cell? (ad.add (i * 3 + 2)) = some (.float .f32 q.2.2)) ∧ q.1 < 4294967296 ∧ q.2.1 < 4294967296 ∧ q.2.2 < 4294967296 := by
      intro i hi
      obtain ⟨cs', hc, ht'⟩ := hel i (by omega)
      rw [hC] at hc
      obtain ⟨_, hlen, hat⟩ := World.cells?_some hc
      obtain ⟨y0, y1, n1, _, _, k0, k1⟩ := trod_struct2 he ht'
      rw [e0.1, e0.2, hF] at k0
      rw [e1.1, e1.2, hA] at k1
      obtain ⟨z0, z1, n2, _, _, l0, l1⟩ := trod_struct2 ha k1
      rw [e2.1, e2.2, hF] at l0
      rw [e3.1, e3.2, hF] at l1
      obtain ⟨q0, r0, s0⟩ := trod_f32 hf k0
      obtain ⟨q1, r1, s1⟩ := trod_f32 hf l0
      obtain ⟨q2, r2, s2⟩ := trod_f32 hf l1
      match cs', hlen with
      | [c0, c1, c2], _ =>
        simp only [List.drop_zero, List.take_succ_cons, List.take_zero, List.cons.injEq, and_true, List.drop_succ_cons] at r0 r1 r2
        subst r0 r1 r2
        have a0 := hat 0 (by omega)
        have a1 := hat 1 (by omega)
        have a2 := hat 2 (by omega)
        simp only [Addr.add_add] at a0 a1 a2
        exact ⟨(q0, q1, q2), ⟨by simpa using a0, by simpa using a1, by simpa using a2⟩, s0, s1, s2⟩
    obtain ⟨Q, hQ⟩ : ∃ Q : Nat → Nat × Nat × Nat, ∀ i, i < len → (w.cell? (ad.add (i * 3)) = some (.float .f32 (Q i).1) ∧ w.cell? (ad.add (i * 3 + 1)) = some (.float .f32 (Q i).2.1) ∧ w.cell? (ad.add (i * 3 + 2)) = some (.float .f32 (Q i).2.2)) ∧ (Q i).1 < 4294967296 ∧ (Q i).2.1 < 4294967296 ∧ (Q i).2.2 < 4294967296 :=
      ⟨fun i => if hi : i < len then Classical.choose (one i hi) else (0, 0, 0), fun i hi => by simp only [dif_pos hi]; exact Classical.choose_spec (one i hi)⟩
    refine ⟨len, fun k => if k < 3 * len then (if k % 3 = 0 then (Q (k / 3)).1 else if k % 3 = 1 then (Q (k / 3)).2.1 else (Q (k / 3)).2.2) else 0, ⟨some ad, cap, rfl, fun hn => ?_⟩, Nat.le_trans hlc hcm, fun k => ?_⟩
    · have hsp : ad.spot = none := by
        have := (hQ 0 hn).1.1
        unfold World.cell? at this
        split at this
        · split at this
          · cases this
          · rename_i hs; simpa [Addr.add] using hs
        · cases this
      obtain ⟨b, o, sp⟩ := ad
      obtain rfl : sp = none := hsp
      refine ⟨b, o, rfl, fun k hk => ?_⟩
      have hq := (hQ (k / 3) (by omega)).1
      rw [Addr.add_mid, Addr.add_mid, Addr.add_mid] at hq
      show _ = some (Value.float FloatKind.f32 (if k < 3 * len then (if k % 3 = 0 then (Q (k / 3)).1 else if k % 3 = 1 then (Q (k / 3)).2.1 else (Q (k / 3)).2.2) else 0))
      rw [if_pos hk]
      have hm : k % 3 = 0 ∨ k % 3 = 1 ∨ k % 3 = 2 := by omega
      rcases hm with hm | hm | hm
      · rw [if_pos hm]; have := hq.1; rwa [show k / 3 * 3 = k by omega] at this
      · rw [if_neg (by omega), if_pos hm]; have := hq.2.1; rwa [show k / 3 * 3 + 1 = k by omega] at this
      · rw [if_neg (by omega), if_neg (by omega)]; have := hq.2.2; rwa [show k / 3 * 3 + 2 = k by omega] at this
    · show (if _ then _ else _ : Nat) < 4294967296
      split
      · have hq := (hQ (k / 3) (by omega)).2
        split
        · exact hq.1
        · split
          · exact hq.2.1
          · exact hq.2.2
      · decide
theorem trodAll_head {b : Nat} {t : TypeId} {ts : List TypeId} {v : Value} {vs : List Value} {ds : List (DataW H)} {ps : List MemPlace} (h : DataW.TrodAll enc P w b spare held (t :: ts) (v :: vs) ds ps) : ∃ d p, DataW.Trod enc P w b spare held t v d p := by
  cases ds with
  | nil => exact h.elim
  | cons d ds => obtain ⟨p, q, h1, _, _⟩ := h; exact ⟨d, p, h1⟩
theorem trodAll_tail {b : Nat} {t : TypeId} {ts : List TypeId} {v : Value} {vs : List Value} {ds : List (DataW H)} {ps : List MemPlace} (h : DataW.TrodAll enc P w b spare held (t :: ts) (v :: vs) ds ps) : ∃ ds' ps', DataW.TrodAll enc P w b spare held ts vs ds' ps' := by
  cases ds with
  | nil => exact h.elim
  | cons d ds => obtain ⟨p, q, _, h2, _⟩ := h; exact ⟨ds, q, h2⟩
theorem open_sl {r : Reach} {b0 : Nat} {t e : TypeId} {v : Value} (ht : P.underlying t = some (.slice e)) (h : Value.okWide P w r b0 t v) : v.cells.toList = [v] := by
  simp only [Value.okWide, ht, Cell.okWide] at h
  cases v <;> simp [Cell.ok, ht] at h
  rfl
end
end Go.Fl
/- Singles of any kind widened and compared. No program. -/
namespace Go.Fl
open Ieee Go Go.RowKit

/-- What sameFloat takes for the same: one word that is equal to itself, or two that are no numbers. -/
structure Same2 (a b : Nat) : Prop where
  eqn : (D.order a a = some .eq ∧ a = b) ∨ (D.order a a = none ∧ D.order b b = none ∧ D.order a 0 = none ∧ D.order b 0 = none)
  div : D.order a a = some .eq → D.order a 0 = some .eq → ∃ q, floatBits .quo .f64 4607182418800017408 a = some q

theorem order_nan64 {x : Nat} (h : DINF < x % 9223372036854775808) (y : Nat) : D.order x y = none := by
  obtain ⟨s, t, e⟩ := read_nanD h
  unfold Format.order
  rw [e]; rfl
theorem quo_one {y m : Nat} {s : Bool} {e : Int} (h : D.read y = .number s m e) : ∃ q, floatBits .quo .f64 4607182418800017408 y = some q := by
  have h1 : D.read 4607182418800017408 = .number false 4503599627370496 (-52) := by decide
  show ∃ q, D.div 4607182418800017408 y = some q
  unfold Ieee.Format.div
  rw [h, h1]
  simp only [Ieee.Datum.quotient]
  by_cases hm : m = 0
  · rw [if_pos hm]; exact ⟨_, rfl⟩
  · rw [if_neg hm]; exact ⟨_, rfl⟩
section
variable {P : Program}
theorem conv_any (src dst : TypeId) (x : Nat) (hx : x < 4294967296) (hs : (P.underlying src) = some (.float .f32)) (hd : P.underlying dst = some (.float .f64)) :
    ∃ (zf : World → Nat) (wf : World → World), (∀ w, (convert src dst (.float .f32 x)).run P w = .ok (.float .f64 (zf w)) (wf w)) ∧ (∀ w, wf w = w ∨ wf w = w.drew) ∧ ∀ w1 w2, Same2 (zf w1) (zf w2) := by
  rcases Nat.lt_trichotomy (mg x) INF with h | h | h
  · obtain ⟨_, _, m, e, hr⟩ := read_wid_fin hx h
    exact ⟨fun _ => wid x, fun w => w, fun w => run_conv_wid w src dst x hx hs hd h, fun _ => .inl rfl, fun _ _ => ⟨.inl ⟨order_self hr, rfl⟩, fun _ _ => quo_one hr⟩⟩
  · have e1 : FloatKind.f32.decode x = .infinity (decide (2147483648 ≤ x)) := by
      show S.read x = _
      rw [read_sign hx, h, read_INF]
    refine ⟨fun _ => FloatKind.f64.encode (.infinity (decide (2147483648 ≤ x))), fun w => w, fun w => run_convert_float_float w src dst .f32 .f64 x _ (by rw [hs]; rfl) hd ?_, fun _ => .inl rfl, fun _ _ => ?_⟩
    · unfold floatToFloatBits
      rw [if_neg (by decide), e1]
    · generalize decide (2147483648 ≤ x) = b
      cases b
      · have e : D.order (FloatKind.f64.encode (.infinity false)) 0 ≠ some .eq := by decide
        exact ⟨.inl ⟨(by decide : D.order (FloatKind.f64.encode (.infinity false)) (FloatKind.f64.encode (.infinity false)) = some .eq), rfl⟩, fun _ h => absurd h e⟩
      · have e : D.order (FloatKind.f64.encode (.infinity true)) 0 ≠ some .eq := by decide
        exact ⟨.inl ⟨(by decide : D.order (FloatKind.f64.encode (.infinity true)) (FloatKind.f64.encode (.infinity true)) = some .eq), rfl⟩, fun _ h => absurd h e⟩
  · refine ⟨fun w => Classical.choose (run_conv_nan (P := P) w src dst x hs hd h), fun w => w.drew, fun w => (Classical.choose_spec (run_conv_nan (P := P) w src dst x hs hd h)).1, fun _ => .inr rfl, fun w1 w2 => ?_⟩
    have h1 := (Classical.choose_spec (run_conv_nan (P := P) w1 src dst x hs hd h)).2.1
    have h2 := (Classical.choose_spec (run_conv_nan (P := P) w2 src dst x hs hd h)).2.1
    exact ⟨.inr ⟨order_nan64 h1 _, order_nan64 h2 _, order_nan64 h1 _, order_nan64 h2 _⟩, fun he => by rw [order_nan64 h1] at he; cases he⟩
end
theorem below_wf {B : Nat} {w0 w w' : World} (h : Below B w0 w) (hw : w' = w ∨ w' = w.drew) : Below B w0 w' := by
  rcases hw with rfl | rfl
  · exact h
  · exact h.drew
theorem kept_wf {w0 w w' : World} {l : List (Nat × Array Value × TypeId)} (h : Kept w0 l w) (hw : w' = w ∨ w' = w.drew) : Kept w0 l w' := by
  rcases hw with rfl | rfl
  · exact h
  · exact h.drew
end Go.Fl
/- Regions that draw their order inside a fence: one law for each kind of operation. No program. -/
namespace Go.Fl
open Go Go.RowKit
section
variable {F : Fence} {n : Nat} {P : Program} {ops : Array Oper} {Q : Exit → Act → World → Prop} {md : Region.Mode}
theorem regionIn_any {id : Nat} {a : Act} {w : World} (m : Nat) (listed : Array Bool) (hm : P.follows .mixedOrders = true) (hn : ops.size = m) (hl : Array.replicate ops.size false = listed)
    (h : wpAnyIn F n P .any ops (NoPanic Q) m listed a w.drew) : (Code.region id ops true).wpIn F n P Q a w := by
  subst hn hl
  exact wpIn_mono (wpIn_region_any hm h) NoPanic.imp
variable {fuel : Nat} {listed : Array Bool} {a : Act} {w : World} {rs : List Nat} {d : Option Tmp} {op : Op} {ty0 : TypeId} {ps : String} {af : Array Edge} {gd : Option (Nat × Bool)}
theorem takeIn (i : Nat) (a' : Act) (listed' : Array Bool) (v : Value) (hro : F.round = none) (ho : ops[i]? = some ⟨d, op, ty0, ps, af, gd⟩) (hw : Region.wanted ⟨d, op, ty0, ps, af, gd⟩ (yielded ops a.tmps) = true)
    (hs : Region.noSelect ops = true) (hf : Region.free md ops listed i = true) (hr : (Region.ready md ops listed).contains i = true)
    (hy : ∀ w, (execOp a.eval ⟨d, op, ty0, ps, af, gd⟩).run P w = .ok (.value v) w) (hab : ∀ w, Oper.about P w a.eval ⟨d, op, ty0, ps, af, gd⟩ = none)
    (ha : a.put d v = a') (hl : listed.setIfInBounds i true = listed')
    (h : wpAnyIn F n P md ops (NoPanic Q) fuel listed' a' w) : wpAnyIn F n P md ops (NoPanic Q) (fuel + 1) listed a w := by
  subst ha hl
  exact wpAnyIn_take hro ho hs hf hr (fun _ _ _ h => h) ⟨.inl ⟨hw, hy⟩, hab⟩ h
theorem readIn (i : Nat) (a' : Act) (listed' : Array Bool) (v : Value) (hro : F.round = none) (ho : ops[i]? = some ⟨d, op, ty0, ps, af, gd⟩) (hw : Region.wanted ⟨d, op, ty0, ps, af, gd⟩ (yielded ops a.tmps) = true)
    (hrun : (execOp a.eval ⟨d, op, ty0, ps, af, gd⟩).run P w = .ok (.value v) w) (hab : Oper.about P w a.eval ⟨d, op, ty0, ps, af, gd⟩ = none)
    (ha : a.put d v = a') (hl : listed.setIfInBounds i true = listed')
    (hn : wpAnyIn F n P md ops Q fuel listed' a' w) (hs : AllReadyIn F n P md ops Q fuel listed a w rs) : AllReadyIn F n P md ops Q fuel listed a w (i :: rs) := by
  subst ha hl
  refine AllReadyIn.cons ho (fun K' hK => ?_) hs
  rw [if_pos hw]
  refine ⟨fun f hf => (by rw [hab] at hf; cases hf), ?_⟩
  rw [hro, Oper.semAt_none, hrun]
  exact hK _ _ hn
theorem yieldIn (i : Nat) (hro : F.round = none) (ho : ops[i]? = some ⟨d, op, ty0, ps, af, gd⟩) (hw : Region.wanted ⟨d, op, ty0, ps, af, gd⟩ (yielded ops a.tmps) = true)
    {l fn : Nat} {tmps : Array Value} {assign body : Code} {R : Ending → World → Prop}
    (hrun : (execOp a.eval ⟨d, op, ty0, ps, af, gd⟩).run P w = .ok (.round l fn tmps assign body) w) (hab : ∀ f, Oper.about P w a.eval ⟨d, op, ty0, ps, af, gd⟩ = some f → F.fn f) (h1 : F.depth.isSome = true → 1 ≤ n)
    (hR : RoundIn F (n - 1) P l fn tmps assign body w R)
    (hn : ∀ e w', R e w' → ∃ v, e = .returned v ∧ wpAnyIn F n P md ops Q fuel (listed.setIfInBounds i true) (a.put d v) w') (hs : AllReadyIn F n P md ops Q fuel listed a w rs) : AllReadyIn F n P md ops Q fuel listed a w (i :: rs) := by
  refine AllReadyIn.cons ho (fun K' hK => ?_) hs
  rw [if_pos hw]
  refine ⟨hab, ?_⟩
  rw [hro, Oper.semAt_none, hrun, Oper.uponIn_round]
  refine ⟨h1, hR.mono ?_⟩
  intro e w' hr
  obtain ⟨v, rfl, hk⟩ := hn e w' hr
  exact hK _ _ hk
end
/-- A load of one cell. -/
theorem run_load_cell {P : Program} {a : Act} {w : World} {d : Option Tmp} {ty0 : TypeId} {ps : String} {af : Array Edge} {gd : Option (Nat × Bool)} (ty : TypeId) (x : Operand) (p : Addr) (v : Value) (hx : a.eval x = .pointer (some p)) (hl : (loadVar ty p).run P w = .ok v w) : (execOp a.eval ⟨d, .load ty x, ty0, ps, af, gd⟩).run P w = .ok (.value v) w := by
  unfold execOp
  simp only [hx, Instr.loadAt, Instr.sureAddr, Sem.run_bind, Sem.run_pure, Result.andThen_ok, hl]
/-- A load of some cells in a row. -/
theorem run_load_mid {P : Program} {a : Act} {w : World} {d : Option Tmp} {ty0 : TypeId} {ps : String} {af : Array Edge} {gd : Option (Nat × Bool)} (ty : TypeId) (x : Operand) (b o : Nat) (cs : List Value) (hx : a.eval x = .pointer (some ⟨b, o, none⟩)) (hc : w.rangeAt b o cs)
    (dd : TypeDesc) (hu : P.underlying ty = some dd) (hd : dd.isRow = true) (hi : (P.info? ty).map (·.size) = some cs.length) : (execOp a.eval ⟨d, .load ty x, ty0, ps, af, gd⟩).run P w = .ok (.value (.agg cs.toArray)) w := by
  unfold execOp
  simp only [hx, Instr.loadAt, Instr.sureAddr, Sem.run_bind, Sem.run_pure, Result.andThen_ok, run_loadVar_mid w b o ty cs dd hc hu hd hi]
theorem run_index_op {P : Program} {a : Act} {w : World} {d : Option Tmp} {ty0 : TypeId} {ps : String} {af : Array Edge} {gd : Option (Nat × Bool)} {t : TypeId} {v X I : Value} (x i : Operand) (hx : a.eval x = X) (hi : a.eval i = I)
    (h : (Instr.indexAt t X I).run P w = .ok v w) : (execOp a.eval ⟨d, .indexAddr t x i, ty0, ps, af, gd⟩).run P w = .ok (.value v) w := by
  unfold execOp
  simp [hx, hi, h]
theorem run_pred {P : Program} {t : TypeId} {k : Nat} (h : k ≤ 1048576) (w : World) : (binOp .sub t (.int .i64 ((k : Int) + 1)) (.int .i64 1)).run P w = .ok (.int .i64 (k : Int)) w := by
  have h1 : IntKind.i64.wrap (k : Int) = (k : Int) := by rw [IntKind.wrap_i64]; omega
  simp [binOp, Op.intArith, h1]
theorem take_fin {m k : Nat} (h : k < m) : (List.finRange m).take (k + 1) = (List.finRange m).take k ++ [⟨k, h⟩] := by
  rw [List.take_add_one]
  simp [h]
theorem last_fin {m : Nat} {ini : List (Fin m)} {last : Fin m} (h : ini ++ [last] <+: List.finRange m) : ∀ i : Fin m, i.1 < last.1 → i ∈ ini := by
  obtain ⟨t, ht⟩ := h
  have hl : ini.length = last.1 := by
    have h1 : (ini ++ [last] ++ t)[ini.length]? = some last := by simp
    rw [ht, List.getElem?_eq_some_iff] at h1
    obtain ⟨h2, h3⟩ := h1
    rw [List.getElem_finRange] at h3
    rw [← h3]; rfl
  intro i hi
  have h1 : (ini ++ [last] ++ t)[i.1]? = some i := by
    rw [ht, List.getElem?_eq_some_iff]
    exact ⟨by simp, by simp⟩
  rw [List.append_assoc, List.getElem?_append_left (by omega)] at h1
  exact List.mem_of_getElem? h1
theorem run_loadVar_one {P : Program} {ty : TypeId} {d : TypeDesc} {w : World} {p : Addr} {v : Value} (hu : P.underlying ty = some d) (hd : d.isRow = false) (hc : w.cell? p = some v) : (loadVar ty p).run P w = .ok v w := by
  have hagg : (isAgg ty).run P w = .ok false w := by
    unfold isAgg
    rw [Sem.run_bind, run_underlying hu w]
    cases d <;> simp_all [TypeDesc.isRow]
  unfold loadVar
  rw [Sem.run_bind, hagg]
  simp [go_sem, hc]
/-- What two result cells hold. -/
theorem results_cells {P : Program} {fn : Func} {p q : Tmp} {ty tz : TypeId} (h : fn.results = #[.cell p ty, .cell q tz]) (tmps : Array Value) (w : World) (a b : Addr) (u v : Value)
    (hp : tmps.getD p undef = .pointer (some a)) (hq : tmps.getD q undef = .pointer (some b)) (ha : (loadVar ty a).run P w = .ok u w) (hb : (loadVar tz b).run P w = .ok v w) :
    (results fn tmps).run P w = .ok (.tuple #[u, v]) w := by
  have hp' : tmps[p]?.getD undef = .pointer (some a) := by simpa using hp
  have hq' : tmps[q]?.getD undef = .pointer (some b) := by simpa using hq
  simp [results, h, hp', hq', asAddr, ha, hb]
theorem results_cell1 {P : Program} {fn : Func} {p : Tmp} {ty : TypeId} (h : fn.results = #[.cell p ty]) (tmps : Array Value) (w : World) (a : Addr) (u : Value)
    (hp : tmps.getD p undef = .pointer (some a)) (ha : (loadVar ty a).run P w = .ok u w) :
    (results fn tmps).run P w = .ok u w := by
  have hp' : tmps[p]?.getD undef = .pointer (some a) := by simpa using hp
  simp [results, h, hp', asAddr, ha]
theorem row_own {β : Type} (B : Nat) (t : TypeId) (f : β → Array Value) : Own (fun s W => W.heap[B]? = some (.cells (f s) t (0, 0))) := fun s X Y row hs hg hrow => by
  refine (hg.block B (lt_of_block hs) (fun e' => ?_)).trans hs
  obtain ⟨o, ho, hc⟩ := hrow B e'.symm
  rw [hs] at ho; cases ho; cases hc
end Go.Fl
/- Soundings: triples of numbers, level above level. No program. -/
namespace Go.Fl
open Go.RowKit
/-- The words of a sounding are words of 32 bits. -/
def W32 (x : Nat → Nat) : Prop := ∀ k, x k < 4294967296
def lvB (x : Nat → Nat) (i : Nat) : Bool := parB (x (i * 3)) (x (i * 3 + 1)) (x (i * 3 + 2))
/-- The level i lies below the next one. -/
def upB (x : Nat → Nat) (i : Nat) : Bool := S.order (x (i * 3)) (x ((i + 1) * 3)) == some .lt
def lvs (x : Nat → Nat) (n : Nat) : Bool := (List.range n).all (lvB x)
def ups (x : Nat → Nat) (n : Nat) : Bool := (List.range (n - 1)).all (upB x)
def souB (n : Nat) (x : Nat → Nat) : Bool := (decide (2 ≤ n) && decide (n ≤ 32)) && (lvs x n && ups x n)
theorem all_range {p : Nat → Bool} {n : Nat} : (List.range n).all p = true ↔ ∀ i, i < n → p i = true := by
  simp [List.all_eq_true]
theorem all_range_f {p : Nat → Bool} {n k : Nat} (hk : k < n) (h : p k = false) : (List.range n).all p = false := by
  rcases hh : (List.range n).all p with _ | _
  · rfl
  · rw [all_range] at hh
    rw [hh k hk] at h; cases h
structure SouF (n : Nat) (x : Nat → Nat) : Prop where
  lo : 2 ≤ n
  hi : n ≤ 32
  lv : ∀ i, i < n → lvB x i = true
  up : ∀ i, i + 1 < n → upB x i = true
theorem souB_iff {n : Nat} {x : Nat → Nat} : souB n x = true ↔ SouF n x := by
  unfold souB lvs ups
  simp only [Bool.and_eq_true, decide_eq_true_eq, all_range]
  constructor
  · rintro ⟨⟨a, b⟩, c, d⟩
    exact ⟨a, b, c, fun i hi => d i (by omega)⟩
  · rintro ⟨a, b, c, d⟩
    exact ⟨⟨a, b⟩, c, fun i hi => d i (by omega)⟩
theorem hgt_lv {x : Nat → Nat} {i : Nat} (h : lvB x i = true) : Hgt (x (i * 3)) := hgt_iff.1 (parB_iff.1 h).1
theorem hgt_inf {a : Nat} (h : Hgt a) : a < INF := Nat.lt_of_le_of_lt h (by decide)
theorem upB_iff {x : Nat → Nat} {i : Nat} (h : lvB x i = true) (h' : lvB x (i + 1) = true) : upB x i = true ↔ x (i * 3) < x ((i + 1) * 3) := by
  unfold upB
  rw [order_lt (hgt_inf (hgt_lv h)) (hgt_inf (hgt_lv h'))]
  rcases Nat.lt_trichotomy (x (i * 3)) (x ((i + 1) * 3)) with h | h | h
  · rw [Nat.compare_eq_lt.2 h]; exact ⟨fun _ => h, fun _ => rfl⟩
  · rw [Nat.compare_eq_eq.2 h]; exact ⟨fun h => (by cases h), fun h' => (by omega)⟩
  · rw [Nat.compare_eq_gt.2 h]; exact ⟨fun h => (by cases h), fun h' => (by omega)⟩
theorem up_ge {x : Nat → Nat} {i : Nat} (h : lvB x i = true) (h' : lvB x (i + 1) = true) : (S.order (x (i * 3)) (x ((i + 1) * 3)) == some .gt || S.order (x (i * 3)) (x ((i + 1) * 3)) == some .eq) = !upB x i := by
  unfold upB
  rw [order_lt (hgt_inf (hgt_lv h)) (hgt_inf (hgt_lv h'))]
  rcases Nat.lt_trichotomy (x (i * 3)) (x ((i + 1) * 3)) with h | h | h
  · rw [Nat.compare_eq_lt.2 h]; rfl
  · rw [Nat.compare_eq_eq.2 h]; rfl
  · rw [Nat.compare_eq_gt.2 h]; rfl

/-- Two levels that follow each other: the lower one's heat less the higher one's, against ten times the difference of the heights. -/
def unW (x : Nat → Nat) (i : Nat) : Nat := fsb (x (i * 3 + 1)) (x ((i + 1) * 3 + 1))
def unB (x : Nat → Nat) (i : Nat) : Bool := S.order (unW x i) (tenW (x (i * 3)) (x ((i + 1) * 3))) == some .gt
structure UnF (x : Nat → Nat) (i : Nat) : Prop where
  s1 : S.sub (x (i * 3 + 1)) (x ((i + 1) * 3 + 1)) = some (unW x i)
  s2 : S.sub (x ((i + 1) * 3)) (x (i * 3)) = some (fsub (x ((i + 1) * 3)) (x (i * 3)))
  s3 : S.mul 1092616192 (fsub (x ((i + 1) * 3)) (x (i * 3))) = some (tenW (x (i * 3)) (x ((i + 1) * 3)))
theorem tb2 : sv 3270508544 ≤ sv 3262119936 - sv 1114636288 ∧ sv 1114636288 - sv 3262119936 ≤ sv 1123024896 := by decide +kernel
theorem un_facts {n : Nat} {x : Nat → Nat} (hx : W32 x) (h : SouF n x) {i : Nat} (hi : i + 1 < n) : UnF x i := by
  have h0 := h.lv i (by omega)
  have h1 := h.lv (i + 1) hi
  have hu := (upB_iff h0 h1).1 (h.up i hi)
  obtain ⟨p0, p1, _⟩ := airB_iff.1 (parB_iff.1 h0).2
  obtain ⟨q0, q1, _⟩ := airB_iff.1 (parB_iff.1 h1).2
  have D := dry_facts (a := x (i * 3)) (y := x ((i + 1) * 3)) (h := x (i * 3 + 1)) (v := x (i * 3 + 2)) (Nat.le_of_lt hu) (hgt_lv h1) (hx _) p0 p1
  obtain ⟨f0, l0, u0⟩ := (heat_sv (hx _)).1 p0
  obtain ⟨f1, l1, u1⟩ := (heat_sv (hx _)).1 q0
  have b := tb2
  exact ⟨(sub_bd (lo := 3270508544) (hi := 1123024896) f0 f1 ⟨by decide, by decide⟩ ⟨by decide, by decide⟩ (by omega) (by omega)).1, D.s1, D.s2⟩
/-- The first of m that p has. -/
def firstB (p : Nat → Bool) (m : Nat) : Option Nat := (List.range m).find? p
theorem firstB_some {p : Nat → Bool} {m k : Nat} (hk : k < m) (h : ∀ i, i < k → p i = false) (hp : p k = true) : firstB p m = some k := by
  unfold firstB
  rw [List.find?_range_eq_some]
  exact ⟨hp, by simpa using hk, fun i hi => by rw [h i hi]; rfl⟩
theorem firstB_none {p : Nat → Bool} {m : Nat} (h : ∀ i, i < m → p i = false) : firstB p m = none := by
  unfold firstB
  rw [List.find?_eq_none]
  intro i hi
  rw [h i (by simpa using hi)]; decide
theorem firstB_lt {p : Nat → Bool} {m k : Nat} (h : firstB p m = some k) : k < m := by
  have := List.mem_of_find?_eq_some h
  simpa using this
theorem run_gt {P : Program} {t : TypeId} (x y : Nat) (w : World) : (binOp .gtr t (.float .f32 x) (.float .f32 y)).run P w = .ok (.bool (FloatKind.f32.format.order x y == some .gt)) w := by
  simp [binOp, Op.floatCmp]
/-- The index one further. -/
theorem run_indexAt1 {P : Program} {t e : TypeId} {m : Nat} (ht : P.underlying t = some (.slice e)) (hi : (P.info? e).map (·.size) = some m) {b o n cap k : Nat} (hk : k + 1 < n) (w : World) :
    (Instr.indexAt t (.slice (some ⟨b, o, none⟩) n cap) (.int .i64 ((k : Int) + 1))).run P w = .ok (.pointer (some ⟨b, o + (k + 1) * m, none⟩)) w := run_indexAt (k := k + 1) ht hi hk w
end Go.Fl
/- Heats between two, words that may be infinite: quotients, products and sums that are defined. No program. -/
namespace Go.Fl
open Ieee Go Go.RowKit

/-- A word that is finite or infinite. -/
def NW (x : Nat) : Prop := x < 4294967296 ∧ mg x ≤ INF
theorem write_nw (s : Bool) (m : Nat) (e : Int) : NW (S.write (.number s m e)) := by
  have h := write_nn (NN_number (s := false) (m := m) (e := e) rfl)
  rw [write_signS]
  rw [INF_val] at h
  generalize S.write (.number false m e) = z at h
  unfold NW mg
  rw [INF_val]
  cases s
  · simp; omega
  · simp; omega
theorem write_inf (s : Bool) : NW (S.write (.infinity s)) := by
  cases s
  · exact ⟨by decide, by decide⟩
  · exact ⟨by decide, by decide⟩
theorem read_fw {x : Nat} (h : FW x) : ∃ s m e, S.read x = .number s m e ∧ (sv x ≠ 0 → m ≠ 0) := by
  obtain ⟨m, e, h1, h2⟩ := read_fin h.1 h.2
  obtain ⟨m', k, h3, h4⟩ := read_val h.2
  refine ⟨_, m, e, h2, fun h0 hm => h0 ?_⟩
  rw [h1] at h3
  injection h3 with _ e1 _
  unfold sv
  rw [h4, ← e1, hm]
  simp
theorem read_nw {x : Nat} (h : NW x) : (∃ s m e, S.read x = .number s m e) ∨ ∃ s, S.read x = .infinity s := by
  rcases Nat.lt_or_eq_of_le h.2 with h1 | h1
  · obtain ⟨s, m, e, h2, _⟩ := read_fw ⟨h.1, h1⟩; exact .inl ⟨s, m, e, h2⟩
  · refine .inr ⟨decide (2147483648 ≤ x), ?_⟩
    rw [read_sign h.1, h1, read_INF]
theorem div_nw {x y : Nat} (hx : FW x) (hy : FW y) (h0 : sv y ≠ 0) : S.div x y = some (fdiv x y) ∧ NW (fdiv x y) := by
  obtain ⟨s, m, e, h1, _⟩ := read_fw hx
  obtain ⟨t, n, k, h2, h3⟩ := read_fw hy
  unfold fdiv Format.div
  rw [h1, h2]
  simp only [Datum.quotient, if_neg (h3 h0), Option.map_some, Option.getD_some]
  exact ⟨trivial, write_nw _ _ _⟩
theorem mul_nw {x y : Nat} (hx : FW x) (h0 : sv x ≠ 0) (hy : NW y) : S.mul x y = some (fmul x y) ∧ NW (fmul x y) := by
  obtain ⟨s, m, e, h1, h3⟩ := read_fw hx
  unfold fmul Format.mul
  rw [h1]
  rcases read_nw hy with ⟨t, n, k, h2⟩ | ⟨t, h2⟩
  · rw [h2]; exact ⟨rfl, write_nw _ _ _⟩
  · rw [h2]
    simp only [Datum.product, if_neg (h3 h0), Option.map_some, Option.getD_some]
    exact ⟨trivial, write_inf _⟩
theorem add_nw {x y : Nat} (hx : FW x) (hy : NW y) : S.add x y = some (fadd x y) ∧ NW (fadd x y) := by
  obtain ⟨s, m, e, h1, h3⟩ := read_fw hx
  unfold fadd Format.add
  rw [h1]
  rcases read_nw hy with ⟨t, n, k, h2⟩ | ⟨t, h2⟩
  · rw [h2]; exact ⟨rfl, write_nw _ _ _⟩
  · rw [h2]; exact ⟨rfl, write_inf _⟩

theorem run_min_any {P : Program} {x y : Nat} (ts : Array TypeId) (t : TypeId) (hx : FW x) (hy : FW y) :
    ∃ m, (∀ w : World, (Builtin.min_ ts t #[.float .f32 x, .float .f32 y]).run P w = .ok (.float .f32 m) w) ∧ FW m ∧ sv m = min (sv x) (sv y) := by
  have ho : FloatKind.f32.format.order x y = some (compare (sv x) (sv y)) := order_sv hx hy
  rcases Int.lt_trichotomy (sv x) (sv y) with h1 | h1 | h1
  · refine ⟨x, fun w => ?_, hx, by omega⟩
    unfold Builtin.min_
    simp only [List.foldlM, Builtin.min2, ho]
    rw [Int.compare_eq_lt.2 h1]; rfl
  · refine ⟨if (FloatKind.f32.decode x).neg then x else y, fun w => ?_, by split <;> assumption, by split <;> omega⟩
    unfold Builtin.min_
    simp only [List.foldlM, Builtin.min2, ho]
    rw [Int.compare_eq_eq.2 h1]; rfl
  · refine ⟨y, fun w => ?_, hy, by omega⟩
    unfold Builtin.min_
    simp only [List.foldlM, Builtin.min2, ho]
    rw [Int.compare_eq_gt.2 h1]; rfl
theorem run_max_any {P : Program} {x y : Nat} (ts : Array TypeId) (t : TypeId) (hx : FW x) (hy : FW y) :
    ∃ m, (∀ w : World, (Builtin.max_ ts t #[.float .f32 x, .float .f32 y]).run P w = .ok (.float .f32 m) w) ∧ FW m ∧ sv m = max (sv x) (sv y) := by
  have ho : FloatKind.f32.format.order x y = some (compare (sv x) (sv y)) := order_sv hx hy
  rcases Int.lt_trichotomy (sv x) (sv y) with h1 | h1 | h1
  · refine ⟨y, fun w => ?_, hy, by omega⟩
    unfold Builtin.max_
    simp only [List.foldlM, Builtin.max2, ho]
    rw [Int.compare_eq_lt.2 h1]; rfl
  · refine ⟨if (FloatKind.f32.decode x).neg then y else x, fun w => ?_, by split <;> assumption, by split <;> omega⟩
    unfold Builtin.max_
    simp only [List.foldlM, Builtin.max2, ho]
    rw [Int.compare_eq_eq.2 h1]; rfl
  · refine ⟨x, fun w => ?_, hx, by omega⟩
    unfold Builtin.max_
    simp only [List.foldlM, Builtin.max2, ho]
    rw [Int.compare_eq_gt.2 h1]; rfl

/-- A heat lies between those of two levels that follow each other. -/
def beB (h a b : Nat) : Bool := (decide (sv a ≤ sv h) && decide (sv h ≤ sv b)) || (decide (sv b ≤ sv h) && decide (sv h ≤ sv a))
def heB (x : Nat → Nat) (h k : Nat) : Bool := beB h (x (k * 3 + 1)) (x ((k + 1) * 3 + 1))
theorem beB_min {h a b : Nat} : (decide (min (sv a) (sv b) ≤ sv h) && decide (sv h ≤ max (sv a) (sv b))) = beB h a b := by
  rw [Bool.eq_iff_iff]
  unfold beB
  simp only [Bool.and_eq_true, Bool.or_eq_true, decide_eq_true_eq]
  omega
theorem le_dec {a b : Nat} (ha : FW a) (hb : FW b) : (S.order a b == some .lt || S.order a b == some .eq) = decide (sv a ≤ sv b) := by
  rw [Bool.eq_iff_iff, le_sv ha hb, decide_eq_true_eq]
/-- The words that the height of a heat is made of. -/
def dpW (x : Nat → Nat) (k : Nat) : Nat := fsub (x ((k + 1) * 3)) (x (k * 3))
def ptW (h a b : Nat) : Nat := if sv a = sv b then 0 else fdiv (fsb h a) (fsb b a)
def hhW (x : Nat → Nat) (h k : Nat) : Nat := fadd (x (k * 3)) (fmul (dpW x k) (ptW h (x (k * 3 + 1)) (x ((k + 1) * 3 + 1))))
structure HeF (x : Nat → Nat) (h k : Nat) : Prop where
  fa : FW (x (k * 3 + 1))
  fb : FW (x ((k + 1) * 3 + 1))
  fh : FW h
  dp : S.sub (x ((k + 1) * 3)) (x (k * 3)) = some (dpW x k)
  s1 : sv (x (k * 3 + 1)) ≠ sv (x ((k + 1) * 3 + 1)) → heB x h k = true → S.sub h (x (k * 3 + 1)) = some (fsb h (x (k * 3 + 1))) ∧ S.sub (x ((k + 1) * 3 + 1)) (x (k * 3 + 1)) = some (fsb (x ((k + 1) * 3 + 1)) (x (k * 3 + 1))) ∧ S.div (fsb h (x (k * 3 + 1))) (fsb (x ((k + 1) * 3 + 1)) (x (k * 3 + 1))) = some (ptW h (x (k * 3 + 1)) (x ((k + 1) * 3 + 1)))
  ml : heB x h k = true → S.mul (dpW x k) (ptW h (x (k * 3 + 1)) (x ((k + 1) * 3 + 1))) = some (fmul (dpW x k) (ptW h (x (k * 3 + 1)) (x ((k + 1) * 3 + 1))))
  ad : heB x h k = true → S.add (x (k * 3)) (fmul (dpW x k) (ptW h (x (k * 3 + 1)) (x ((k + 1) * 3 + 1)))) = some (hhW x h k)
  lt : heB x h k = true → hhW x h k < 4294967296
theorem sv_one : sv 1 = 1 := by decide +kernel
theorem sv_none : sv 2147483649 = -1 := by decide +kernel
theorem val_inj_lt {a b : Nat} (h : a < b) : val a < val b := val_lt h
theorem he_facts {n : Nat} {x : Nat → Nat} (hx : W32 x) (h : SouF n x) {q : Nat} (hq : FW q) {i : Nat} (hi : i + 1 < n) : HeF x q i := by
  have h0 := h.lv i (by omega)
  have h1 := h.lv (i + 1) hi
  have hu := (upB_iff h0 h1).1 (h.up i hi)
  obtain ⟨p0, p1, _⟩ := airB_iff.1 (parB_iff.1 h0).2
  obtain ⟨q0, q1, _⟩ := airB_iff.1 (parB_iff.1 h1).2
  obtain ⟨f0, l0, u0⟩ := (heat_sv (hx _)).1 p0
  obtain ⟨f1, l1, u1⟩ := (heat_sv (hx _)).1 q0
  have b := tb2
  have s1 := sv_one
  have s2 := sv_none
  have g0 := hgt_inf (hgt_lv h0)
  have g1 := hgt_inf (hgt_lv h1)
  have e0 := sv_amt g0
  have e1 := sv_amt g1
  have hv := val_lt hu
  have hd := sub_bd (x := x ((i + 1) * 3)) (y := x (i * 3)) (lo := 1) (hi := x ((i + 1) * 3)) (fw_amt (amtB_iff.2 g1)) (fw_amt (amtB_iff.2 g0)) ⟨by decide, by decide⟩ (fw_amt (amtB_iff.2 g1)) (by omega) (by omega)
  have hd1 : S.sub (x ((i + 1) * 3)) (x (i * 3)) = some (dpW x i) := hd.1
  have hd2 : FW (dpW x i) := hd.2.1
  have hd3 : sv (dpW x i) ≠ 0 := by have : sv 1 ≤ sv (dpW x i) := hd.2.2.1; omega
  have hb : heB x q i = true → sv 3270508544 ≤ sv q - sv (x (i * 3 + 1)) ∧ sv q - sv (x (i * 3 + 1)) ≤ sv 1123024896 := by
    unfold heB beB
    simp only [Bool.and_eq_true, Bool.or_eq_true, decide_eq_true_eq]
    omega
  have hs : heB x q i = true → S.sub q (x (i * 3 + 1)) = some (fsb q (x (i * 3 + 1))) ∧ FW (fsb q (x (i * 3 + 1))) := fun he => by
    have := sub_bd (lo := 3270508544) (hi := 1123024896) hq f0 ⟨by decide, by decide⟩ ⟨by decide, by decide⟩ (hb he).1 (hb he).2
    exact ⟨this.1, this.2.1⟩
  have hn : sv (x (i * 3 + 1)) ≠ sv (x ((i + 1) * 3 + 1)) → S.sub (x ((i + 1) * 3 + 1)) (x (i * 3 + 1)) = some (fsb (x ((i + 1) * 3 + 1)) (x (i * 3 + 1))) ∧ FW (fsb (x ((i + 1) * 3 + 1)) (x (i * 3 + 1))) ∧ sv (fsb (x ((i + 1) * 3 + 1)) (x (i * 3 + 1))) ≠ 0 := fun hne => by
    rcases Int.lt_or_gt_of_ne hne with h9 | h9
    · have := sub_bd (lo := 1) (hi := 1123024896) f1 f0 ⟨by decide, by decide⟩ ⟨by decide, by decide⟩ (by omega) (by omega)
      exact ⟨this.1, this.2.1, by omega⟩
    · have := sub_bd (lo := 3270508544) (hi := 2147483649) f1 f0 ⟨by decide, by decide⟩ ⟨by decide, by decide⟩ (by omega) (by omega)
      exact ⟨this.1, this.2.1, by omega⟩
  have hp : heB x q i = true → NW (ptW q (x (i * 3 + 1)) (x ((i + 1) * 3 + 1))) := fun he => by
    unfold ptW
    by_cases h9 : sv (x (i * 3 + 1)) = sv (x ((i + 1) * 3 + 1))
    · rw [if_pos h9]; exact ⟨by decide, by decide⟩
    · rw [if_neg h9]; exact (div_nw (hs he).2 (hn h9).2.1 (hn h9).2.2).2
  have hm := fun he => mul_nw hd2 hd3 (hp he)
  have ha := fun he => add_nw (fw_amt (amtB_iff.2 g0)) (hm he).2
  refine ⟨f0, f1, hq, hd1, fun h9 he => ⟨(hs he).1, (hn h9).1, ?_⟩, fun he => (hm he).1, fun he => (ha he).1, fun he => (ha he).2.1⟩
  have := (div_nw (hs he).2 (hn h9).2.1 (hn h9).2.2).1
  unfold ptW
  rw [if_neg h9]; exact this
end Go.Fl
/- Slices of triples of a call's own: blocks whose first cells are words; appended, marked, joined. No program. -/
namespace Go.Fl
open Ieee Go Go.RowKit

/-- The first m cells are the words of y. -/
def LvW (cs : Array Value) (m : Nat) (y : Nat → Nat) : Prop := m ≤ cs.size ∧ ∀ k, k < m → cs[k]? = some (.float .f32 (y k))
theorem LvW.vls (m : Nat) (y : Nat → Nat) : LvW (vls m (flw y)) m y := by
  refine ⟨by simp [Go.Fl.vls], fun k hk => ?_⟩
  simp [Go.Fl.vls, flw, hk]
theorem LvW.set {cs : Array Value} {m : Nat} {y : Nat → Nat} (h : LvW cs m y) (i a : Nat) : LvW (cs.setIfInBounds i (.float .f32 a)) m (upd y i a) := by
  refine ⟨by simp [h.1], fun k hk => ?_⟩
  unfold upd
  by_cases e : k = i
  · subst e
    rw [if_pos rfl, Array.getElem?_setIfInBounds_self_of_lt (by have := h.1; omega)]
  · rw [if_neg e, Array.getElem?_setIfInBounds_ne (by omega)]
    exact h.2 k hk
theorem LvW.ext {cs : Array Value} {m : Nat} {y z : Nat → Nat} (h : LvW cs m y) (e : ∀ k, k < m → y k = z k) : LvW cs m z := ⟨h.1, fun k hk => by rw [h.2 k hk, e k hk]⟩
section
variable {w0 w w' : World} {l : List (Nat × Array Value × TypeId)} {B : Nat} {cs : Array Value} {T : TypeId} {y : Nat → Nat} {n m : Nat}
theorem LvW.cell (h : LvW cs m y) (hb : w.heap[B]? = some (.cells cs T (0, 0))) {k : Nat} (hk : k < m) : w.cell? ⟨B, k, none⟩ = some (.float .f32 (y k)) :=
  (cell_of_row w B k _ _ _ hb).trans (h.2 k hk)
theorem LvW.rd (h : LvW cs (3 * n) y) (hb : w.heap[B]? = some (.cells cs T (0, 0))) (cap : Nat) : Rd w (.slice (some ⟨B, 0, none⟩) n cap) n y :=
  ⟨some ⟨B, 0, none⟩, cap, rfl, fun _ => ⟨B, 0, rfl, fun k hk => by rw [Nat.zero_add]; exact h.cell hb hk⟩⟩
theorem Kept.rd (k : Kept w0 l w) (h : LvW cs (3 * n) y) (hm : (B, cs, T) ∈ l) (cap : Nat) : Rd w (.slice (some ⟨B, 0, none⟩) n cap) n y := h.rd (k.at hm) cap
theorem Rd.zero (w : World) (p : Option Addr) (cap : Nat) (y : Nat → Nat) : Rd w (.slice p 0 cap) 0 y := ⟨p, cap, rfl, fun h => absurd h (Nat.lt_irrefl _)⟩
/-- What a call made beside what is kept. -/
theorem Kept.join {l' : List (Nat × Array Value × TypeId)} (k : Kept w0 l w) (h : Kept w l' w') : Kept w0 (l' ++ l) w' := by
  have s := k.stay h.1
  refine ⟨s.1, fun x hx => ?_⟩
  rcases List.mem_append.1 hx with hx | hx
  · exact h.2 x hx
  · exact s.2 x hx
end
/-- The word of a whole number. -/
def fiW (k : Int) : Nat := floatOfInt .f32 k
theorem fiW_eq {k : Int} (h0 : 0 ≤ k) (h1 : k ≤ 1000000000) : FloatKind.f32.format.order (fiW k) (fiW k) = some .eq := by
  have h := fint_amt h0 h1
  rw [amtB_iff] at h
  show S.order _ _ = _
  unfold fiW
  rw [order_lt h h, Nat.compare_eq_eq.2 rfl]
/-- Words in place up to m, as before from there on. -/
def mrk (F : Int → Nat) (y : Nat → Nat) (k : Int) (m : Nat) : Nat → Nat := fun j => if j < m then F (k + j) else y j
theorem mrk_zero (F : Int → Nat) (y : Nat → Nat) (k : Int) : mrk F y k 0 = y := by funext j; simp [mrk]
theorem mrk_step (F : Int → Nat) (y : Nat → Nat) (k : Int) (m : Nat) : upd (mrk F y k m) m (F (k + m)) = mrk F y k (m + 1) := by
  funext j
  unfold mrk upd
  by_cases h : j = m
  · subst h; rw [if_pos rfl, if_pos (by omega)]
  · rw [if_neg h]
    by_cases h1 : j < m
    · show (if j < m then F (k + j) else y j) = _
      rw [if_pos h1, if_pos (by omega)]
    · show (if j < m then F (k + j) else y j) = _
      rw [if_neg h1, if_neg (by omega)]
section
variable {P : Program} {ops : Array Oper} {rest : List Oper} {o : Oper} {a : Act} {w0 w : World} {Q : Exit → Act → World → Prop} {l : List (Nat × Array Value × TypeId)} {T : TypeId} {cs : Array Value} {m : Nat} {y : Nat → Nat}
theorem run_store_lv {ty : TypeId} (hi : (P.info? ty).map (·.size) = some 1) {B i v u : Nat} (hc : w.cell? ⟨B, i, none⟩ = some (.float .f32 u)) (hf : w.frozen? ⟨B, i, none⟩ = false) :
    (storeVar ty ⟨B, i, none⟩ (.float .f32 v)).run P w = .ok () (w.setCell ⟨B, i, none⟩ (.float .f32 v)) := by
  cases hq : P.info? ty with
  | none => rw [hq] at hi; cases hi
  | some j =>
    rw [hq] at hi
    have hs : j.size = 1 := by simpa using hi
    have ha : (⟨B, i, none⟩ : Addr).add 0 = ⟨B, i, none⟩ := by rw [Addr.add_mid]; rfl
    simp [storeVar, sizeOf, typeInfo, hq, hs, Value.cells, storeCells, ha, run_store_float, stored, hc, hf, Sem.run_bind]
/-- One word of a kept block, stored: the walk goes on in some world. -/
theorem store_lv (hgd : o.guard = none) (ty : TypeId) (x z : Operand) (ho : o.op = .store ty x z) (hi : (P.info? ty).map (·.size) = some 1) (B i v : Nat) (hx : a.eval x = .pointer (some ⟨B, i, none⟩)) (hz : a.eval z = .float .f32 v)
    (k : Kept w0 ((B, cs, T) :: l) w) (h : LvW cs m y) (hm : i < m) (hB : w0.heap.size ≤ B) (hne : ∀ x ∈ l, x.1 ≠ B)
    (hn : ∀ w', Kept w0 ((B, cs.setIfInBounds i (.float .f32 v), T) :: l) w' → LvW (cs.setIfInBounds i (.float .f32 v)) m (upd y i v) → wpList P ops Q rest (a.put o.dst undef) w') : wpList P ops Q (o :: rest) a w := by
  have hb := k.at (x := (B, cs, T)) (by simp)
  have hr := run_store_lv (P := P) hi (v := v) (h.cell hb hm) (frozen_of_row w B i _ _ hb)
  refine wpList_plain hgd fun K hK' => ?_
  unfold Oper.wp
  simp [execOp, ho, Instr.storeAt, Instr.sureAddr, hx, hz, hr, Result.andThen]
  exact hK' _ _ (hn _ (k.lcell hB hne i _) (h.set i v))
end
section
variable {P : Program}
/-- One slice appended to an empty one. -/
theorem run_append_all {w : World} {t ty e : TypeId} {i : TypeInfo} {z : Value} (ht : P.underlying t = some (.slice e)) (hi : P.info? e = some i) (hz : i.zero = some z) (hsize : i.size = 3) (hby : i.bytes = 12)
    (b a : Addr) {n c : Nat} {x : Nat → Nat} (hn0 : 0 < n) (hn : n ≤ 1048576) (hx : ∀ k, k < 3 * n → w.cell? (a.add k) = some (.float .f32 (x k))) :
    ∃ cs cap, LvW cs (3 * n) x ∧ (Builtin.append_ #[t, t] ty #[.slice (some b) 0 0, .slice (some a) n c]).run P w = .ok (.slice (some ⟨w.heap.size, 0, none⟩) n cap) (w.drew.alloc (.cells cs e)) := by
  have hr := run_append_grow (P := P) w t ty e i z ht hi hz b 0 0 [] (by simp) (by simp) a n c ((List.range (3 * n)).map fun k => .float .f32 (x k)) (by simp [hsize]; omega) (fun j v hj => by
    rw [List.getElem?_map] at hj
    by_cases hk : j < 3 * n
    · rw [List.getElem?_range hk] at hj
      simp only [Option.map_some, Option.some.injEq] at hj
      subst hj
      exact hx j hk
    · rw [List.getElem?_eq_none (by simp; omega)] at hj; cases hj) (by omega) (by omega) (growslice_fits (by omega) (by rw [hby]; omega))
  simp only [Nat.zero_add] at hr
  refine ⟨_, _, ?_, hr⟩
  refine ⟨by simp, fun k hk => ?_⟩
  rw [Array.getElem?_append_left (by simp; omega), Array.getElem?_append_right (by simp)]
  simp [hk]
theorem wpList_append_all {w : World} {ops : Array Oper} {rest : List Oper} {o : Oper} {a : Act} {Q : Exit → Act → World → Prop} (hg : o.guard = none) (s y : Operand) (t : TypeId) (hop : o.op = Op.call { callee := Callee.builtin Builtin.append, args := #[s, y], argTypes := #[t, t] })
    (e : TypeId) (ht : P.underlying t = some (.slice e)) (hi : (P.info? e).map (fun i => (i.zero, i.size, i.bytes)) = some (some (.agg #[.float .f32 0, .float .f32 0, .float .f32 0]), 3, 12))
    (b ad : Addr) {n c : Nat} {x : Nat → Nat} (hs : a.eval s = .slice (some b) 0 0) (hx : a.eval y = .slice (some ad) n c) (hn0 : 0 < n) (hn : n ≤ 1048576) (hc : ∀ k, k < 3 * n → w.cell? (ad.add k) = some (.float .f32 (x k)))
    (hk : ∀ B cs cap w', w.heap.size ≤ B → LvW cs (3 * n) x → Kept w [(B, cs, e)] w' → wpList P ops Q rest (a.put o.dst (.slice (some ⟨B, 0, none⟩) n cap)) w') : wpList P ops Q (o :: rest) a w := by
  obtain ⟨i, hi1, hi2⟩ := Option.map_eq_some_iff.1 hi
  injection hi2 with hz hi3
  injection hi3 with hsize hby
  obtain ⟨cs, cap, h1, hrun⟩ := run_append_all (ty := o.type) ht hi1 hz hsize hby b ad (c := c) hn0 hn hc
  refine wpList_plain hg fun K hK' => ?_
  unfold Oper.wp
  simp [execOp, hop, resolve, invoke, builtin, hs, hx, hrun, Result.andThen]
  exact hK' _ _ (hk _ cs cap _ (Nat.le_refl _) h1 (by have := (Kept.nil w).drew.push cs e; exact this))
end
end Go.Fl
namespace Go.Fl
open Ieee Go Go.RowKit
/-- The lowest level's heat made warmer. -/
def warmW (x : Nat → Nat) (h : Nat) : Nat → Nat := upd x 1 (fadd (x 1) h)
theorem warm_facts {n : Nat} {x : Nat → Nat} (hx : W32 x) (hq : souB n x = true) {h : Nat} (hf : FW h) :
    S.add (x 1) h = some (fadd (x 1) h) ∧ W32 (warmW x h) ∧ souB n (warmW x h) = airB (fadd (x 1) h) (x 2) := by
  have F := souB_iff.1 hq
  have l0 := F.lv 0 (by have := F.lo; omega)
  have a0 := (parB_iff.1 l0).2
  obtain ⟨p0, p1, _⟩ := airB_iff.1 a0
  obtain ⟨f0, _, _⟩ := (heat_sv (hx _)).1 p0
  have ad := add_nw f0 (y := h) ⟨hf.1, Nat.le_of_lt hf.2⟩
  have hw : W32 (warmW x h) := fun k => by
    unfold warmW upd
    split
    · exact ad.2.1
    · exact hx k
  refine ⟨ad.1, hw, ?_⟩
  have e3 : ∀ i, 0 < i → lvB (warmW x h) i = lvB x i := fun i hi => by
    unfold lvB warmW upd
    rw [if_neg (by omega), if_neg (by omega), if_neg (by omega)]
  have e0 : lvB (warmW x h) 0 = airB (fadd (x 1) h) (x 2) := by
    have : lvB (warmW x h) 0 = parB (x 0) (fadd (x 1) h) (x 2) := rfl
    rw [this, Bool.eq_iff_iff, parB_iff]
    exact ⟨fun h => h.2, fun h => ⟨(parB_iff.1 l0).1, h⟩⟩
  have e5 : ∀ i, upB (warmW x h) i = upB x i := fun i => by
    unfold upB warmW upd
    rw [if_neg (by omega), if_neg (by omega)]
  rw [Bool.eq_iff_iff, souB_iff]
  constructor
  · intro G
    rw [← e0]; exact G.lv 0 (by have := F.lo; omega)
  · intro ha
    refine ⟨F.lo, F.hi, fun i hi => ?_, fun i hi => by rw [e5]; exact F.up i hi⟩
    rcases Nat.eq_zero_or_pos i with rfl | hp
    · rw [e0]; exact ha
    · rw [e3 i hp]; exact F.lv i hi
end Go.Fl
/- Loads and stores of rows of cells inside a fence. No program. -/
namespace Go.Fl
open Go Go.RowKit
section
variable {F : Fence} {n : Nat} {P : Program} {ops : Array Oper} {Q : Exit → Act → World → Prop} {a : Act} {w : World} {rest : List Oper} {op : Oper}
theorem loadIn (hg : op.guard = none) (ty : TypeId) (x : Operand) (ho : op.op = .load ty x) (b o : Nat) (hx : a.eval x = .pointer (some ⟨b, o, none⟩)) (cs : List Value) (d : TypeDesc) (hc : w.rangeAt b o cs)
    (hu : P.underlying ty = some d) (hd : d.isRow = true) (hi : (P.info? ty).map (·.size) = some cs.length)
    (h : wpListIn F n P ops Q rest (a.put op.dst (.agg cs.toArray)) w) : wpListIn F n P ops Q (op :: rest) a w := by
  refine wpListIn_plain hg fun K hK => ?_
  unfold Oper.wpIn
  refine ⟨?_, ?_⟩
  · simp [Oper.about, ho]
  · rw [Oper.semAt_plain F _ _ (by rw [ho]; intro c hc'; cases hc')]
    unfold execOp
    simp only [ho, hx, Instr.loadAt, Instr.sureAddr, Sem.run_bind, Sem.run_pure, Result.andThen_ok, run_loadVar_mid w b o ty cs d hc hu hd hi]
    exact hK _ _ h
theorem rowRange {b : Nat} {cs : Array Value} {T : TypeId} (h : w.heap[b]? = some (.cells cs T (0, 0))) : w.rangeAt b 0 cs.toList := fun j v hv => by
  rw [Nat.zero_add, cell_of_row w b j cs T (0, 0) h]
  simpa using hv
theorem loadRowIn (hg : op.guard = none) (ty : TypeId) (x : Operand) (ho : op.op = .load ty x) (b : Nat) (hx : a.eval x = .pointer (some ⟨b, 0, none⟩)) (cs : Array Value) (T : TypeId) (d : TypeDesc) (hc : w.heap[b]? = some (.cells cs T (0, 0)))
    (hu : P.underlying ty = some d) (hd : d.isRow = true) (hi : (P.info? ty).map (·.size) = some cs.size)
    (h : wpListIn F n P ops Q rest (a.put op.dst (.agg cs)) w) : wpListIn F n P ops Q (op :: rest) a w :=
  loadIn hg ty x ho b 0 hx cs.toList d (rowRange hc) hu hd (by simpa using hi) (by simpa using h)
end
end Go.Fl
/- Where a height lies in a sounding; shares between two heights. No program. -/
namespace Go.Fl
open Ieee Go Go.RowKit
theorem quot_bd {m n k1 K : Nat} (hn : 0 < n) (more : Nat) (h : m * 2 ^ k1 ≤ n * 2 ^ K) (hbig : m ≠ 0 → n < m * 2 ^ more) :
    (2 * ((m * 2 ^ more) / n) + ((m * 2 ^ more) % n != 0).toNat) * 2 ^ k1 ≤ 2 * 2 ^ (K + more) := by
  by_cases hm : m = 0
  · subst hm; simp
  by_cases hk : k1 ≤ K + more
  · obtain ⟨t, ht⟩ : ∃ t, K + more = k1 + t := ⟨K + more - k1, by omega⟩
    have h1 : (m * 2 ^ more) * 2 ^ k1 ≤ (n * 2 ^ t) * 2 ^ k1 := by
      calc (m * 2 ^ more) * 2 ^ k1 = m * 2 ^ k1 * 2 ^ more := by rw [Nat.mul_right_comm]
        _ ≤ n * 2 ^ K * 2 ^ more := Nat.mul_le_mul_right _ h
        _ = n * 2 ^ (K + more) := by rw [Nat.mul_assoc, ← Nat.pow_add]
        _ = _ := by rw [ht, Nat.pow_add, Nat.mul_assoc, Nat.mul_comm (2 ^ t)]
    have h2 : m * 2 ^ more ≤ n * 2 ^ t := Nat.le_of_mul_le_mul_right h1 (Nat.two_pow_pos _)
    rw [ht, Nat.pow_add, ← Nat.mul_assoc, Nat.mul_comm 2 (2 ^ k1), Nat.mul_assoc, Nat.mul_comm (2 ^ k1)]
    refine Nat.mul_le_mul_right _ ?_
    generalize m * 2 ^ more = D at *
    generalize 2 ^ t = T at *
    have e := Nat.div_add_mod D n
    by_cases hr : D % n = 0
    · have : D / n ≤ T := by
        refine Nat.le_of_mul_le_mul_left (c := n) ?_ hn
        omega
      simp [hr]; omega
    · have : D / n < T := by
        refine Nat.lt_of_mul_lt_mul_left (a := n) ?_
        omega
      have : (D % n != 0).toNat ≤ 1 := by cases (D % n != 0) <;> decide
      omega
  · exfalso
    have h3 := hbig hm
    have h1 : n * 2 ^ k1 < n * 2 ^ k1 := by
      calc n * 2 ^ k1 < (m * 2 ^ more) * 2 ^ k1 := Nat.mul_lt_mul_of_pos_right h3 (Nat.two_pow_pos _)
        _ = m * 2 ^ k1 * 2 ^ more := by rw [Nat.mul_right_comm]
        _ ≤ n * 2 ^ K * 2 ^ more := Nat.mul_le_mul_right _ h
        _ = n * 2 ^ (K + more) := by rw [Nat.mul_assoc, ← Nat.pow_add]
        _ ≤ n * 2 ^ k1 := Nat.mul_le_mul_left _ (Nat.pow_le_pow_right (by decide) (by omega))
    exact Nat.lt_irrefl _ h1
/-- A quotient of two amounts, the first no greater: at most 1. -/
theorem quo_le_one {x y : Nat} (hy : y < INF) (h0 : y ≠ 0) (h : x ≤ y) : fdiv x y ≤ 1065353216 := by
  obtain ⟨m, k1, h1, v1, w1, b1, c1⟩ := read_rep (Nat.lt_of_le_of_lt h hy)
  obtain ⟨n, k2, h2, v2, w2, b2, c2⟩ := read_rep hy
  have hn : 0 < n := by
    rcases Nat.eq_zero_or_pos n with rfl | hp
    · exfalso
      rw [Nat.zero_mul] at v2
      have := val_lt (Nat.pos_of_ne_zero h0)
      rw [val_zero] at this; omega
    · exact hp
  have hv := val_le h
  rw [v1, v2] at hv
  have e : fdiv x y = S.nearest false (2 * ((m * 2 ^ (25 + n.log2 - m.log2)) / n) + ((m * 2 ^ (25 + n.log2 - m.log2)) % n != 0).toNat) (-149 + (k1 : Int) - (-149 + (k2 : Int)) - (25 + n.log2 - m.log2 : Nat) - 1) := by
    unfold fdiv Format.div
    rw [h1, h2]
    simp only [Datum.quotient]
    rw [if_neg (by omega), fb_S]
    simp only [Option.map_some, Option.getD_some, Nat.shiftLeft_eq]
    rfl
  have hbig : m ≠ 0 → n < m * 2 ^ (25 + n.log2 - m.log2) := fun hm => by
    have hm24 : m.log2 < 24 := (Nat.log2_lt hm).2 (by omega)
    have hl := Nat.log2_self_le hm
    have hn1 : n < 2 ^ (n.log2 + 1) := Nat.lt_log2_self
    calc n < 2 ^ (n.log2 + 1) := hn1
      _ ≤ 2 ^ (m.log2 + (25 + n.log2 - m.log2)) := Nat.pow_le_pow_right (by decide) (by omega)
      _ = 2 ^ m.log2 * 2 ^ (25 + n.log2 - m.log2) := Nat.pow_add _ _ _
      _ ≤ _ := Nat.mul_le_mul_right _ hl
  rw [e]
  generalize 25 + n.log2 - m.log2 = more at *
  rw [show -149 + (k1 : Int) - (-149 + (k2 : Int)) - (more : Nat) - 1 = -149 + (((149 + k1 : Nat) : Int) - ((k2 + more + 1 : Nat) : Int)) by omega]
  refine nearest_le_word (by decide) (149 + k1) (k2 + more + 1) rfl ?_
  rw [show val 1065353216 = 2 ^ 149 from val_mass 0, Nat.pow_add 2 149 k1, ← Nat.mul_assoc, Nat.mul_right_comm, Nat.mul_comm (2 ^ 149)]
  refine Nat.mul_le_mul_right _ ?_
  have := quot_bd hn more hv hbig
  rw [Nat.pow_succ, Nat.mul_comm _ 2]
  exact this

/-- The share of a height between two that follow each other. -/
def shW (x : Nat → Nat) (h k : Nat) : Nat := fdiv (fsub h (x (k * 3))) (dpW x k)
structure AtF (x : Nat → Nat) (h k : Nat) : Prop where
  d1 : S.sub h (x (k * 3)) = some (fsub h (x (k * 3)))
  d2 : S.sub (x ((k + 1) * 3)) (x (k * 3)) = some (dpW x k)
  q : S.div (fsub h (x (k * 3))) (dpW x k) = some (shW x h k)
  sh : shW x h k ≤ 1065353216
  m1 : MixF (x (k * 3 + 1)) (x ((k + 1) * 3 + 1)) (shW x h k)
  m2 : MixF (x (k * 3 + 2)) (x ((k + 1) * 3 + 2)) (shW x h k)
theorem sv_lt_pos {a b : Nat} (ha : a < INF) (hb : FW b) (h : sv a < sv b) : b < INF ∧ a < b := by
  have e := sv_amt ha
  have hb' : ¬ 2147483648 ≤ b := fun hh => by
    unfold sv at h
    rw [if_pos hh] at h
    have : (0 : Int) ≤ sv a := by rw [e]; omega
    unfold sv at this
    omega
  have hb2 : b < INF := by
    have := hb.2
    rw [INF_val] at this ⊢
    unfold mg at this
    omega
  refine ⟨hb2, ?_⟩
  rw [e, sv_amt hb2] at h
  rcases Nat.lt_or_ge a b with h1 | h1
  · exact h1
  · have := val_le h1; omega
theorem at_facts {n : Nat} {x : Nat → Nat} (hx : W32 x) (F : SouF n x) {h k : Nat} (hf : FW h) (hk : k + 1 < n) (h1 : sv (x (k * 3)) < sv h) (h2 : sv h < sv (x ((k + 1) * 3))) : AtF x h k := by
  have l0 := F.lv k (by omega)
  have l1 := F.lv (k + 1) hk
  obtain ⟨p0, p1, _⟩ := airB_iff.1 (parB_iff.1 l0).2
  obtain ⟨q0, q1, _⟩ := airB_iff.1 (parB_iff.1 l1).2
  have g0 := hgt_inf (hgt_lv l0)
  have g1 := hgt_inf (hgt_lv l1)
  obtain ⟨hi, w1⟩ := sv_lt_pos g0 hf h1
  obtain ⟨_, w2⟩ := sv_lt_pos hi (fw_amt (amtB_iff.2 g1)) h2
  have e1 := fsub_val hi (Nat.le_of_lt w1)
  have e2 := fsub_val g1 (Nat.le_of_lt (Nat.lt_trans w1 w2))
  have e3 := fsub_le g1 (Nat.le_of_lt (Nat.lt_trans w1 w2))
  have s1 := sv_one
  have hv := val_lt (Nat.lt_trans w1 w2)
  have a0 := sv_amt g0
  have a1 := sv_amt g1
  have hd := sub_bd (x := x ((k + 1) * 3)) (y := x (k * 3)) (lo := 1) (hi := x ((k + 1) * 3)) (fw_amt (amtB_iff.2 g1)) (fw_amt (amtB_iff.2 g0)) ⟨by decide, by decide⟩ (fw_amt (amtB_iff.2 g1)) (by omega) (by omega)
  have h3 : sv 1 ≤ sv (dpW x k) := hd.2.2.1
  have hz : dpW x k ≠ 0 := fun e => by
    rw [e] at h3
    have : sv 0 = 0 := by decide +kernel
    omega
  have hm : fsub h (x (k * 3)) ≤ dpW x k := by
    have v1 := val_le (Nat.le_of_lt w2)
    unfold dpW
    rw [e1.2, e2.2]
    exact nearest_mono (E := 0) (E' := 0) 0 0 (by omega) (by simp; omega)
  have hdi : dpW x k < INF := Nat.lt_of_le_of_lt e3 g1
  have hq := div_eq (x := fsub h (x (k * 3))) (y := dpW x k) (nnB_iff.2 (Nat.le_of_lt (Nat.lt_of_le_of_lt hm hdi))) (amtB_iff.2 hdi) hz
  have hs : shW x h k ≤ 1065353216 := quo_le_one hdi hz hm
  exact ⟨e1.1, e2.1, hq.1, hs, mix_facts (hx _) (heat_fin (hx _) p0) (hx _) (heat_fin (hx _) q0) hs, mix_facts (hx _) (amt_fin p1) (hx _) (amt_fin q1) hs⟩

/-- How a height compares with a level's. -/
def eqH (x : Nat → Nat) (h k : Nat) : Bool := S.order h (x (k * 3)) == some .eq
def gtH (x : Nat → Nat) (h k : Nat) : Bool := S.order h (x (k * 3)) == some .gt
def ltH (x : Nat → Nat) (h k : Nat) : Bool := S.order h (x (k * 3)) == some .lt
def stopH (x : Nat → Nat) (h k : Nat) : Bool := eqH x h k || eqH x h (k + 1) || (gtH x h k && ltH x h (k + 1))
/-- What is told of a height: the air and a code. -/
def mixR (x : Nat → Nat) (h k : Nat) : Nat × Nat × Int :=
  if airB (mixW (x (k * 3 + 1)) (x ((k + 1) * 3 + 1)) (shW x h k)) (mixW (x (k * 3 + 2)) (x ((k + 1) * 3 + 2)) (shW x h k)) = true then (mixW (x (k * 3 + 1)) (x ((k + 1) * 3 + 1)) (shW x h k), mixW (x (k * 3 + 2)) (x ((k + 1) * 3 + 2)) (shW x h k), 0) else (0, 0, 4)
def layR (x : Nat → Nat) (h k : Nat) : Nat × Nat × Int :=
  if eqH x h k = true then (x (k * 3 + 1), x (k * 3 + 2), 0) else if eqH x h (k + 1) = true then (x ((k + 1) * 3 + 1), x ((k + 1) * 3 + 2), 0) else mixR x h k
def atR (n : Nat) (x : Nat → Nat) (h : Nat) : Nat × Nat × Int := match firstB (stopH x h) (n - 1) with | some k => layR x h k | none => (0, 0, 6)
end Go.Fl
namespace Go.Fl
open Ieee Go Go.RowKit
section
variable {n : Nat} {x : Nat → Nat} {h : Nat} (F : SouF n x)
include F
theorem SouF.fw {k : Nat} (hk : k < n) : FW (x (k * 3)) := fw_amt (amtB_iff.2 (hgt_inf (hgt_lv (F.lv k hk))))
theorem SouF.step {k : Nat} (hk : k + 1 < n) : sv (x (k * 3)) < sv (x ((k + 1) * 3)) := by
  have h0 := F.lv k (by omega)
  have h1 := F.lv (k + 1) hk
  have hv := val_lt ((upB_iff h0 h1).1 (F.up k hk))
  rw [sv_amt (hgt_inf (hgt_lv h0)), sv_amt (hgt_inf (hgt_lv h1))]
  omega
theorem SouF.mono {i : Nat} : ∀ {j : Nat}, i < j → j < n → sv (x (i * 3)) < sv (x (j * 3))
  | 0, hij, _ => absurd hij (Nat.not_lt_zero _)
  | j + 1, hij, hj => by
    have s := SouF.step F hj
    rcases Nat.lt_or_eq_of_le (Nat.le_of_lt_succ hij) with h1 | h1
    · have := SouF.mono (j := j) h1 (by omega); omega
    · subst h1; exact s
theorem SouF.monoE {i j : Nat} (hij : i ≤ j) (hj : j < n) : sv (x (i * 3)) ≤ sv (x (j * 3)) := by
  rcases Nat.lt_or_eq_of_le hij with h1 | h1
  · have := F.mono h1 hj; omega
  · subst h1; exact Int.le_refl _
variable (hf : FW h)
include hf
theorem eqH_iff {k : Nat} (hk : k < n) : eqH x h k = true ↔ sv h = sv (x (k * 3)) := eq_sv hf (F.fw hk)
theorem gtH_iff {k : Nat} (hk : k < n) : gtH x h k = true ↔ sv (x (k * 3)) < sv h := gt_sv hf (F.fw hk)
theorem ltH_iff {k : Nat} (hk : k < n) : ltH x h k = true ↔ sv h < sv (x (k * 3)) := lt_sv hf (F.fw hk)
theorem stopH_iff {k : Nat} (hk : k + 1 < n) : stopH x h k = true ↔ sv (x (k * 3)) ≤ sv h ∧ sv h ≤ sv (x ((k + 1) * 3)) := by
  have s := F.step hk
  unfold stopH
  rw [Bool.or_eq_true, Bool.or_eq_true, Bool.and_eq_true, eqH_iff F hf (by omega), eqH_iff F hf hk, gtH_iff F hf (by omega), ltH_iff F hf hk]
  omega
theorem at_none (ho : sv h < sv (x (0 * 3)) ∨ sv (x ((n - 1) * 3)) < sv h) : atR n x h = (0, 0, 6) := by
  have h2 := F.lo
  unfold atR
  rw [firstB_none (fun i hi => ?_)]
  rw [Bool.eq_false_iff, Ne, stopH_iff F hf (by omega)]
  have a := F.monoE (i := 0) (j := i) (by omega) (by omega)
  have b := F.monoE (i := i + 1) (j := n - 1) (by omega) (by omega)
  omega
theorem at_eq {k : Nat} (hk : k < n) (he : sv h = sv (x (k * 3))) : atR n x h = (x (k * 3 + 1), x (k * 3 + 2), 0) := by
  have h2 := F.lo
  unfold atR
  rcases Nat.eq_zero_or_pos k with rfl | hp
  · rw [firstB_some (k := 0) (by omega) (fun i hi => absurd hi (Nat.not_lt_zero _)) ((stopH_iff F hf (by omega)).2 ⟨by omega, by have := F.step (k := 0) (by omega); omega⟩)]
    show layR x h 0 = _
    unfold layR
    rw [if_pos ((eqH_iff F hf (by omega)).2 he)]
  · obtain ⟨j, rfl⟩ : ∃ j, k = j + 1 := ⟨k - 1, by omega⟩
    rw [firstB_some (k := j) (by omega) (fun i hi => ?_) ((stopH_iff F hf hk).2 ⟨by have := F.step hk; omega, by omega⟩)]
    · show layR x h j = _
      unfold layR
      rw [if_neg (by rw [eqH_iff F hf (by omega)]; have := F.step hk; omega), if_pos ((eqH_iff F hf hk).2 he)]
    · rw [Bool.eq_false_iff, Ne, stopH_iff F hf (by omega)]
      have := F.mono (i := i + 1) (j := j + 1) (by omega) hk
      omega
theorem at_mid {k : Nat} (hk : k + 1 < n) (h1 : sv (x (k * 3)) < sv h) (h2 : sv h < sv (x ((k + 1) * 3))) : atR n x h = mixR x h k := by
  unfold atR
  rw [firstB_some (k := k) (by omega) (fun i hi => ?_) ((stopH_iff F hf hk).2 ⟨by omega, by omega⟩)]
  · show layR x h k = _
    unfold layR
    rw [if_neg (by rw [eqH_iff F hf (by omega)]; omega), if_neg (by rw [eqH_iff F hf hk]; omega)]
  · rw [Bool.eq_false_iff, Ne, stopH_iff F hf (by omega)]
    have := F.monoE (i := i + 1) (j := k) (by omega) (by omega)
    omega
end
/-- A height that is no finite number compares with none. -/
theorem order_bad {h m : Nat} (hl : h < 4294967296) (hf : finB h = false) (hm : m < INF) : S.order h m = none ∨ S.order h m = some (if 2147483648 ≤ h then .lt else .gt) := by
  rw [finB_iff'] at hf
  rcases Nat.lt_or_eq_of_le hf with h1 | h1
  · exact .inl (order_nan32 h1)
  · obtain ⟨k, e, h3⟩ := read_lt hm
    refine .inr ?_
    have hr : S.read h = .infinity (decide (2147483648 ≤ h)) := by rw [read_sign hl, ← h1, read_INF]
    unfold Format.order
    rw [hr, h3]
    by_cases hs : 2147483648 ≤ h
    · rw [decide_eq_true hs, if_pos hs]; rfl
    · rw [decide_eq_false hs, if_neg hs]; rfl
theorem at_bad {n : Nat} {x : Nat → Nat} {h : Nat} (F : SouF n x) (hl : h < 4294967296) (hf : finB h = false) : atR n x h = (0, 0, 6) := by
  unfold atR
  rw [firstB_none (fun i hi => ?_)]
  have a := order_bad hl hf (hgt_inf (hgt_lv (F.lv i (by omega))))
  have b := order_bad hl hf (hgt_inf (hgt_lv (F.lv (i + 1) (by omega))))
  unfold stopH eqH gtH ltH
  by_cases hs : 2147483648 ≤ h
  · rw [if_pos hs] at a b
    rcases a with a | a <;> rcases b with b | b <;> rw [a, b] <;> rfl
  · rw [if_neg hs] at a b
    rcases a with a | a <;> rcases b with b | b <;> rw [a, b] <;> rfl
end Go.Fl
namespace Go.Fl
open Ieee Go Go.RowKit
theorem run_succ {P : Program} {t : TypeId} {k : Nat} (h : k ≤ 1048576) (w : World) : (binOp .add t (.int .i64 (k : Int)) (.int .i64 1)).run P w = .ok (.int .i64 ((k : Int) + 1)) w := by
  have h1 : IntKind.i64.wrap ((k : Int) + 1) = (k : Int) + 1 := by rw [IntKind.wrap_i64]; omega
  simp [binOp, Op.intArith, h1]
theorem range2 {w : World} {b i : Nat} {u v : Value} (c1 : w.cell? ⟨b, i, none⟩ = some u) (c2 : w.cell? ⟨b, i + 1, none⟩ = some v) : w.rangeAt b i [u, v] := by
  intro j z hz
  match j, hz with
  | 0, hz => simp only [List.getElem?_cons_zero, Option.some.injEq] at hz; subst hz; exact c1
  | 1, hz => simp only [List.getElem?_cons_succ, List.getElem?_cons_zero, Option.some.injEq] at hz; subst hz; exact c2
  | j + 2, hz => simp at hz
end Go.Fl
/- A call in a drawn region whose result is told together with its world; differences of finite words. No program. -/
namespace Go.Fl
open Ieee Go Go.RowKit
theorem sub_nw {x y : Nat} (hx : FW x) (hy : FW y) : S.sub x y = some (fsb x y) ∧ NW (fsb x y) := by
  obtain ⟨s, m, e, h1, _⟩ := read_fw hx
  obtain ⟨t, n, f, h2, _⟩ := read_fw hy
  have h : ∃ r, S.sub x y = some r ∧ NW r := by
    unfold Format.sub
    rw [h1, h2]
    exact ⟨_, rfl, write_nw _ _ _⟩
  obtain ⟨r, h3, h4⟩ := h
  unfold fsb
  rw [h3]
  exact ⟨rfl, h4⟩
theorem sub_nw2 {x y : Nat} (hx : FW x) (hy : NW y) : S.sub x y = some (fsb x y) ∧ NW (fsb x y) := by
  obtain ⟨s, m, e, h1, _⟩ := read_fw hx
  have h : ∃ r, S.sub x y = some r ∧ NW r := by
    unfold Format.sub
    rw [h1]
    rcases read_nw hy with ⟨t, n, f, h2⟩ | ⟨t, h2⟩
    · rw [h2]; exact ⟨_, rfl, write_nw _ _ _⟩
    · rw [h2]; exact ⟨_, rfl, write_inf _⟩
  obtain ⟨r, h3, h4⟩ := h
  unfold fsb
  rw [h3]
  exact ⟨rfl, h4⟩
section
variable {P : Program} {md : Region.Mode} {ops : Array Oper} {Q : Exit → Act → World → Prop} {S : World → Prop} {fuel : Nat} {listed : Array Bool} {a : Act} {w w0 : World} {rs : List Nat} {l : List (Nat × Array Value × TypeId)}
variable {d : Option Tmp} {op : Go.Op} {ty0 : TypeId} {ps : String} {af : Array Edge} {gd : Option (Nat × Bool)}
theorem callKQ (i : Nat) (listed' : Array Bool) (q : Value → World → Prop) (k : Kept w0 l w) (ho : ops[i]? = some ⟨d, op, ty0, ps, af, gd⟩) (hw : Region.wanted ⟨d, op, ty0, ps, af, gd⟩ (yielded ops a.tmps) = true) (f : FuncId) (args : Array Value)
    (hrun : ∀ w, (execOp a.eval ⟨d, op, ty0, ps, af, gd⟩).run P w = .ok (.enter f args) w) (hl : listed.setIfInBounds i true = listed')
    (hc : Calls P f args w fun e w' => ∃ v, q v w' ∧ e = .returned v ∧ Below w.heap.size w w')
    (hn : ∀ v w', q v w' → Kept w0 l w' → Below w.heap.size w w' → S w' ∧ wpAnyH P md ops Q S fuel listed' (a.put d v) w')
    (hs : AllReadyH P md ops Q S fuel listed a w rs) : AllReadyH P md ops Q S fuel listed a w (i :: rs) := by
  subst hl
  refine AllReadyH.cons ho (fun K' hK => ?_) hs
  rw [if_pos hw]
  unfold Oper.wp
  rw [hrun, Oper.upon_enter]
  refine hc.mono fun e w' hh => ?_
  obtain ⟨v, hv, rfl, hr⟩ := hh
  have h := hn v w' hv (k.stay hr) hr
  exact hK.out _ _ h.1 (fun _ => h.2)
end
end Go.Fl
/- Parts of a block of known cells: loaded, stored. No program. -/
namespace Go.Fl
open Go Go.RowKit
def putCells : Array Value → Nat → List Value → Array Value
  | cs, _, [] => cs
  | cs, o, x :: xs => putCells (cs.setIfInBounds o x) (o + 1) xs
section
variable {P : Program} {ops : Array Oper} {rest : List Oper} {op : Oper} {a : Act} {w w0 : World} {Q : Exit → Act → World → Prop} {g : Nat} {T : TypeId} {l : List (Nat × Array Value × TypeId)}
theorem Kept.cells (hB : w0.heap.size ≤ g) (hne : ∀ x ∈ l, x.1 ≠ g) : ∀ (part : List Value) (cs : Array Value) (o : Nat) (w : World), Kept w0 ((g, cs, T) :: l) w → Kept w0 ((g, putCells cs o part, T) :: l) (w.setCells g o part)
  | [], _, _, _, k => k
  | x :: xs, cs, o, w, k => Kept.cells hB hne xs (cs.setIfInBounds o x) (o + 1) (w.setCell ⟨g, o, none⟩ x) (k.lcell hB hne o x)
theorem range_part {cs : Array Value} (k : w.heap[g]? = some (.cells cs T (0, 0))) (o : Nat) (part : List Value) (hp : part = (cs.toList.drop o).take part.length) : w.rangeAt g o part := by
  intro j x hx
  rw [cell_of_row w g (o + j) _ _ _ k]
  rw [hp] at hx
  rw [List.getElem?_take] at hx
  split at hx
  · rw [List.getElem?_drop, Array.getElem?_toList] at hx; exact hx
  · cases hx
theorem there_part {cs : Array Value} (k : w.heap[g]? = some (.cells cs T (0, 0))) (o n : Nat) (hn : o + n ≤ cs.size) : w.there g o n := by
  intro j hj
  refine ⟨?_, frozen_of_row w g _ _ _ k⟩
  rw [cell_of_row w g (o + j) _ _ _ k, Array.getElem?_eq_getElem (by omega)]
  rfl
/-- A part of a kept block, loaded (under a guard too). -/
theorem wpList_load_cut (hw : Region.wanted op (yielded ops a.tmps) = true) (ty : TypeId) (x : Operand) (ho : op.op = .load ty x) (g o : Nat) (hx : a.eval x = .pointer (some ⟨g, o, none⟩)) (cs : Array Value) (T : TypeId) (k : w.heap[g]? = some (.cells cs T (0, 0)))
    (part : List Value) (hp : part = (cs.toList.drop o).take part.length) (d : TypeDesc) (hu : P.underlying ty = some d) (hd : d.isRow = true) (hi : (P.info? ty).map (·.size) = some part.length)
    (hn : wpList P ops Q rest (a.put op.dst (.agg part.toArray)) w) : wpList P ops Q (op :: rest) a w :=
  wpList_step fun _ hK => by
    rw [if_pos hw]
    exact wp_load_mid ty x ho g o hx part d (range_part k o part hp) hu hd hi (hK _ _ hn)
/-- A part of a kept block, stored. -/
theorem store_part (hgd : op.guard = none) (ty : TypeId) (x y : Operand) (ho : op.op = .store ty x y) (g o : Nat) (hx : a.eval x = .pointer (some ⟨g, o, none⟩)) (part : Array Value) (hy : a.eval y = .agg part)
    (cs new : Array Value) (T : TypeId) (k : Kept w0 ((g, cs, T) :: l) w) (hB : w0.heap.size ≤ g) (hne : ∀ x ∈ l, x.1 ≠ g) (hsz : o + part.size ≤ cs.size) (hi : (P.info? ty).map (·.size) = some part.size) (h1 : part.all (·.oneCell') = true) (hnew : putCells cs o part.toList = new)
    (hn : ∀ w', Kept w0 ((g, new, T) :: l) w' → wpList P ops Q rest (a.put op.dst undef) w') : wpList P ops Q (op :: rest) a w := by
  subst hnew
  have kb : w.heap[g]? = some (.cells cs T (0, 0)) := k.at (x := (g, cs, T)) (by simp)
  exact wpList_store_mid hgd ty x y ho g o part hx hy (there_part kb o _ hsz) hi h1 (hn _ (Kept.cells hB hne part.toList cs o w k))
end
end Go.Fl
/- Drawn regions in which a call panics: what is read may still be taken first, since a panic's post does not look at temporaries. No program. -/
namespace Go.Fl
open Go Go.RowKit
section
variable {P : Program} {ops : Array Oper} {Q : Exit → Act → World → Prop} {md : Region.Mode} {S : World → Prop}
variable {w0 : World} {l : List (Nat × Array Value × TypeId)} {fuel : Nat} {listed : Array Bool} {a : Act} {w : World} {rs : List Nat}
variable {d : Option Tmp} {op : Go.Op} {ty0 : TypeId} {ps : String} {af : Array Edge} {gd : Option (Nat × Bool)}
/-- A post that asks of a panic nothing that a temporary tells. -/
def PanicBlind (Q : Exit → Act → World → Prop) : Prop := ∀ c (a : Act) (d : Option Tmp) (v : Value) w, Q (.panic c) (a.put d v) w → Q (.panic c) a w
theorem takeP_val (hQ : PanicBlind Q) (i : Nat) (v : Value) (ho : ops[i]? = some ⟨d, op, ty0, ps, af, gd⟩) (hw : Region.wanted ⟨d, op, ty0, ps, af, gd⟩ (yielded ops a.tmps) = true)
    (hs : Region.noSelect ops = true) (hf : Region.free md ops listed i = true) (hr : (Region.ready md ops listed).contains i = true)
    (hy : ∀ w, (execOp a.eval ⟨d, op, ty0, ps, af, gd⟩).run P w = .ok (.value v) w) (hS : S w)
    (h : wpAnyH P md ops Q S fuel (listed.setIfInBounds i true) (a.put d v) w) : wpAnyH P md ops Q S (fuel + 1) listed a w :=
  wpAnyH_take ho hs hf hr (fun c a w => hQ c a d v w) (.inl ⟨hw, fun w _ => hy w⟩) hS h
theorem takeP_cell (hQ : PanicBlind Q) (i : Nat) (v : Value) (ho : ops[i]? = some ⟨d, op, ty0, ps, af, gd⟩) (hw : Region.wanted ⟨d, op, ty0, ps, af, gd⟩ (yielded ops a.tmps) = true)
    (hs : Region.noSelect ops = true) (hf : Region.free md ops listed i = true) (hr : (Region.ready md ops listed).contains i = true)
    (hy : ∀ w, S w → (execOp a.eval ⟨d, op, ty0, ps, af, gd⟩).run P w = .ok (.value v) w) (hS : S w)
    (h : wpAnyH P md ops Q S fuel (listed.setIfInBounds i true) (a.put d v) w) : wpAnyH P md ops Q S (fuel + 1) listed a w :=
  wpAnyH_take ho hs hf hr (fun c a w => hQ c a d v w) (.inl ⟨hw, hy⟩) hS h
theorem takeP_load (hQ : PanicBlind Q) (i : Nat) (ho : ops[i]? = some ⟨d, op, ty0, ps, af, gd⟩) (hw : Region.wanted ⟨d, op, ty0, ps, af, gd⟩ (yielded ops a.tmps) = true)
    (hs : Region.noSelect ops = true) (hf : Region.free md ops listed i = true) (hr : (Region.ready md ops listed).contains i = true)
    (ty : TypeId) (x : Operand) (hop : op = .load ty x) (g : Nat) (cs : Array Value) (t : TypeId) (hx : a.eval x = .pointer (some ⟨g, 0, none⟩)) (hm : (g, cs, t) ∈ l) (dd : TypeDesc)
    (hu : P.underlying ty = some dd) (hd : (match dd with | .struct _ | .array _ _ => true | _ => false) = true) (hi : (P.info? ty).map (·.size) = some cs.size) (hS : Kept w0 l w)
    (h : wpAnyH P md ops Q (Kept w0 l) fuel (listed.setIfInBounds i true) (a.put d (.agg cs)) w) : wpAnyH P md ops Q (Kept w0 l) (fuel + 1) listed a w :=
  wpAnyH_take ho hs hf hr (fun c a w => hQ c a d _ w) (yields_kept hw ty x hop g cs t hx hm dd hu hd hi) hS h
theorem callP (i : Nat) (chain : List PanicEntry) (k : Kept w0 l w) (ho : ops[i]? = some ⟨d, op, ty0, ps, af, gd⟩) (hw : Region.wanted ⟨d, op, ty0, ps, af, gd⟩ (yielded ops a.tmps) = true) (f : FuncId) (args : Array Value)
    (hrun : ∀ w, (execOp a.eval ⟨d, op, ty0, ps, af, gd⟩).run P w = .ok (.enter f args) w)
    (hc : Calls P f args w fun e w' => e = .panicked chain ∧ Below w.heap.size w w')
    (hn : ∀ w', Kept w0 l w' → Q (.panic chain) a w')
    (hs : AllReadyH P md ops Q S fuel listed a w rs) : AllReadyH P md ops Q S fuel listed a w (i :: rs) := by
  refine AllReadyH.cons ho (fun K' hK => ?_) hs
  rw [if_pos hw]
  unfold Oper.wp
  rw [hrun, Oper.upon_enter]
  refine hc.mono fun e w' hh => ?_
  obtain ⟨rfl, hr⟩ := hh
  exact hn w' (k.stay hr)
/-- A block loaded where it is the only one that may come up. -/
theorem loadR (i : Nat) (hS : S w) (ho : ops[i]? = some ⟨d, op, ty0, ps, af, gd⟩) (hw : Region.wanted ⟨d, op, ty0, ps, af, gd⟩ (yielded ops a.tmps) = true)
    (ty : TypeId) (x : Operand) (hop : op = .load ty x) (g : Nat) (cs : Array Value) (t : TypeId) (hx : a.eval x = .pointer (some ⟨g, 0, none⟩)) (hg : w.heap[g]? = some (.cells cs t (0, 0))) (dd : TypeDesc)
    (hu : P.underlying ty = some dd) (hd : (match dd with | .struct _ | .array _ _ => true | _ => false) = true) (hi : (P.info? ty).map (·.size) = some cs.size)
    (hn : wpAnyH P md ops Q S fuel (listed.setIfInBounds i true) (a.put d (.agg cs)) w)
    (hs : AllReadyH P md ops Q S fuel listed a w rs) : AllReadyH P md ops Q S fuel listed a w (i :: rs) := by
  refine AllReadyH.cons ho (fun K' hK => ?_) hs
  rw [if_pos hw]
  exact wp_load_row ty x hop g hx t cs (0, 0) dd hg hu hd hi (hK.out _ _ hS (fun _ => hn))
end
end Go.Fl
/- The heights at which the parts of a way end. No program. -/
namespace Go.Fl
open Ieee Go Go.RowKit
theorem mul_swap (x y : Nat) : S.mul x y = S.mul y x := by
  unfold Format.mul
  cases S.read x <;> cases S.read y <;> simp [Datum.product, Bool.xor_comm, Nat.mul_comm, Int.add_comm]
def wayW (a z : Nat) : Nat := fsb z a
def shrW (p k : Nat) : Nat := fdiv (fiW ((k : Int) + 1)) (fiW (p : Int))
def stepW (a z p k : Nat) : Nat := fadd a (fmul (wayW a z) (shrW p k))
structure StepY (a z p k : Nat) : Prop where
  s1 : S.sub z a = some (wayW a z)
  s2 : S.div (fiW ((k : Int) + 1)) (fiW (p : Int)) = some (shrW p k)
  s3 : S.mul (wayW a z) (shrW p k) = some (fmul (wayW a z) (shrW p k))
  s4 : S.add a (fmul (wayW a z) (shrW p k)) = some (stepW a z p k)
  fy : FW (stepW a z p k)
theorem fi_tab : ((List.range 101).all fun i => decide (fiW (i : Int) < INF) && (i == 0 || decide (fiW (i : Int) ≠ 0)) && (List.range 101).all fun j => decide (j < i) || decide (fiW (i : Int) ≤ fiW (j : Int))) = true := by decide +kernel
theorem fi_one {i : Nat} (h : i ≤ 100) : fiW (i : Int) < INF ∧ (i ≠ 0 → fiW (i : Int) ≠ 0) ∧ ∀ j, i ≤ j → j ≤ 100 → fiW (i : Int) ≤ fiW (j : Int) := by
  have := List.all_eq_true.1 fi_tab i (List.mem_range.2 (by omega))
  simp only [Bool.and_eq_true, Bool.or_eq_true, decide_eq_true_eq, beq_iff_eq] at this
  refine ⟨this.1.1, fun h0 => this.1.2.resolve_left h0, fun j hj hj' => ?_⟩
  have h2 := List.all_eq_true.1 this.2 j (List.mem_range.2 (by omega))
  simp only [Bool.or_eq_true, decide_eq_true_eq] at h2
  exact h2.resolve_left (by omega)
theorem thirty : sv 3253731328 = -sv 1106247680 ∧ (val 1106247680 : Int) = sv 1106247680 ∧ 0 ≤ sv 1106247680 ∧ sv 1114636288 = 2 * sv 1106247680 ∧ sv 3262119936 = -(2 * sv 1106247680) := by decide +kernel
theorem sv_abs {x : Nat} : (val (mg x) : Int) = sv x ∨ (val (mg x) : Int) = - sv x := by
  unfold sv
  generalize (val (mg x) : Int) = v
  by_cases h : 2147483648 ≤ x
  · rw [if_pos h]; right; omega
  · rw [if_neg h]; left; rfl
theorem bd_one {L H V A Z sa sz : Int} (h1 : L = -H) (h2 : V = H) (va : A ≤ V) (vz : Z ≤ V) (a0 : 0 ≤ A) (z0 : 0 ≤ Z) (e1 : sa = A) (e2 : sz = Z) : L ≤ sz - sa ∧ sz - sa ≤ H := by omega
theorem bd_two {L H M s r b : Int} (h1 : L = -H) (lo : L ≤ s) (hi : s ≤ H) (ab : M = s ∨ M = -s) (r0 : 0 ≤ r) (rv : r ≤ M) (e : b = -r ∨ b = r) : -H ≤ b ∧ b ≤ H := by omega
theorem bd_three {H U L V A sa b : Int} (h2 : V = H) (h4 : U = 2 * H) (h5 : L = -(2 * H)) (va : A ≤ V) (a0 : 0 ≤ A) (e1 : sa = A) (lo : -H ≤ b) (hi : b ≤ H) : L ≤ sa + b ∧ sa + b ≤ U := by omega
theorem val_pos {x : Nat} (h0 : x ≠ 0) : val x ≠ 0 := by
  intro h
  have := val_lt (x := 0) (y := x) (Nat.pos_of_ne_zero h0)
  rw [h] at this
  exact absurd this (Nat.not_lt_zero _)
theorem sv_ne {x : Nat} (h : x < INF) (h0 : x ≠ 0) : sv x ≠ 0 := by
  rw [sv_amt h]
  have := val_pos h0
  generalize val x = v at this
  omega
theorem step_facts {a z p k : Nat} (ha : Hgt a) (hz : Hgt z) (hp : p ≤ 100) (hk : k < p) : StepY a z p k := by
  have g1 : k + 1 ≤ 100 := by omega
  have g2 : p ≠ 0 := by omega
  have g3 : k + 1 ≠ 0 := by omega
  have g4 : k + 1 ≤ p := by omega
  have g5 : ((k + 1 : Nat) : Int) = (k : Int) + 1 := by omega
  have fa : FW a := fw_amt (amtB_iff.2 (hgt_inf ha))
  have fz : FW z := fw_amt (amtB_iff.2 (hgt_inf hz))
  have ai := hgt_inf ha
  have zi := hgt_inf hz
  have t := thirty
  have va : (val a : Int) ≤ val 1106247680 := Int.ofNat_le.2 (val_le ha)
  have vz : (val z : Int) ≤ val 1106247680 := Int.ofNat_le.2 (val_le hz)
  have sa := sv_amt ai
  have sz := sv_amt zi
  have B1 := bd_one t.1 t.2.1 va vz (Int.natCast_nonneg _) (Int.natCast_nonneg _) sa sz
  have d := sub_bd (x := z) (y := a) (lo := 3253731328) (hi := 1106247680) fz fa ⟨by decide, by decide⟩ ⟨by decide, by decide⟩ B1.1 B1.2
  obtain ⟨d1, d2, d3, d4⟩ := d
  obtain ⟨p1, p2, _⟩ := fi_one hp
  obtain ⟨k1, k2, k3⟩ := fi_one g1
  have pn := p2 g2
  have kn := k2 g3
  have kp := k3 p g4 hp
  rw [g5] at k1 kn kp
  have fp := fw_amt (amtB_iff.2 p1)
  have q := div_nw (fw_amt (amtB_iff.2 k1)) fp (sv_ne p1 pn)
  have q1 : shrW p k ≤ 1065353216 := quo_le_one p1 pn kp
  have qi : shrW p k < INF := Nat.lt_of_le_of_lt q1 (by decide)
  have m1 := mul_sgr d2.1 d2.2 qi
  have m2 : fmul (shrW p k) (mg (fsb z a)) ≤ mg (fsb z a) := fmul_le q1 d2.2
  have m3 : S.mul (wayW a z) (shrW p k) = some (sgnW (fsb z a) (fmul (shrW p k) (mg (fsb z a)))) := by
    rw [mul_swap]; exact m1
  have m4 : fmul (wayW a z) (shrW p k) = sgnW (fsb z a) (fmul (shrW p k) (mg (fsb z a))) := by
    show (S.mul (wayW a z) (shrW p k)).getD 0 = _
    rw [m3]; exact Option.getD_some
  generalize fmul (shrW p k) (mg (fsb z a)) = r at m1 m2 m3 m4
  have ri : r < INF := Nat.lt_of_le_of_lt m2 d2.2
  have mk := sv_mk (decide (2147483648 ≤ fsb z a)) ri
  have e1 : (if decide (2147483648 ≤ fsb z a) = true then 2147483648 else 0) + r = sgnW (fsb z a) r := by
    unfold sgnW
    by_cases hs : 2147483648 ≤ fsb z a
    · rw [if_pos (decide_eq_true hs), if_pos hs]
    · rw [if_neg (by simpa using hs), if_neg hs]
  rw [e1] at mk
  have rv : (val r : Int) ≤ val (mg (fsb z a)) := Int.ofNat_le.2 (val_le m2)
  have ab := sv_abs (x := fsb z a)
  have eb : sv (sgnW (fsb z a) r) = -(val r : Int) ∨ sv (sgnW (fsb z a) r) = (val r : Int) := by
    rw [mk.2]
    by_cases hs : decide (2147483648 ≤ fsb z a) = true
    · rw [if_pos hs]; exact .inl rfl
    · rw [if_neg hs]; exact .inr rfl
  have pb := bd_two t.1 d3 d4 ab (Int.natCast_nonneg _) rv eb
  have B3 := bd_three t.2.1 t.2.2.2.1 t.2.2.2.2 va (Int.natCast_nonneg _) sa pb.1 pb.2
  have s := add_bd (x := a) (y := sgnW (fsb z a) r) (lo := 3262119936) (hi := 1114636288) fa mk.1 ⟨by decide, by decide⟩ ⟨by decide, by decide⟩ B3.1 B3.2
  refine ⟨d1, q.1, ?_, ?_, ?_⟩
  · rw [m4]; exact m3
  · unfold stepW; rw [m4]; exact s.1
  · unfold stepW; rw [m4]; exact s.2.1
theorem Kept.add {w0 w : World} {l : List (Nat × Array Value × TypeId)} {g : Nat} {cs : Array Value} {T : TypeId} (k : Kept w0 l w) (h : w.heap[g]? = some (.cells cs T (0, 0))) : Kept w0 ((g, cs, T) :: l) w := by
  refine ⟨k.1, fun x hx => ?_⟩
  rcases List.mem_cons.1 hx with rfl | hx
  · exact h
  · exact k.2 x hx
section
variable {P : Program}
theorem run_make1 {t e : TypeId} (ht : P.underlying t = some (.slice e)) (hi : (P.info? e).map (fun i => (i.zero, i.size, i.bytes)) = some (some (.float .f32 0), 1, 4)) {n : Nat} (hn : n ≤ 1048576) (w : World) :
    (Instr.makeSlice t (.int .i64 (n : Int)) (.int .i64 (n : Int))).run P w = .ok (.slice (some ⟨w.heap.size, 0, none⟩) n n) (w.alloc (.cells (vls n (flw fun _ => 0)) e)) := by
  obtain ⟨i, h1, h2, h3, h4⟩ := info_parts hi
  have h := run_make (P := P) w t e i _ ht h1 h2 .i64 .i64 n n (by omega) (Int.le_refl _) (by rw [h4]; omega) (by omega)
  rw [h, h3]
  simp only [Int.toNat_natCast]
  congr 4
  apply Array.ext_getElem?
  intro j
  by_cases hj : j < n
  · rw [vls_get _ hj]
    simp [madeCells, hj, Nat.mod_one, Value.cells, flw]
  · rw [vls_none _ (by omega)]
    simp [madeCells]
    omega
/-- Words in place up to m, 0 from there on. -/
def upTo (x : Nat → Nat) (m : Nat) : Nat → Nat := fun i => if i < m then x i else 0
theorem upTo_zero (x : Nat → Nat) : upTo x 0 = fun _ => 0 := by funext i; simp [upTo]
theorem upTo_step (x : Nat → Nat) (m : Nat) : upd (upTo x m) m (x m) = upTo x (m + 1) := by
  funext i
  unfold upd upTo
  by_cases h : i = m
  · subst h; rw [if_pos rfl, if_pos (by omega)]
  · rw [if_neg h]
    by_cases h1 : i < m
    · rw [if_pos h1, if_pos (by omega)]
    · rw [if_neg h1, if_neg (by omega)]
end
end Go.Fl
/- A slice of words that grows by append; an even sounding's words. No program. -/
namespace Go.Fl
open Ieee Go Go.RowKit
/-- The first words of a sequence as cells. -/
def wds (x : Nat → Nat) (m : Nat) : List Value := (List.range m).map fun i => .float .f32 (x i)
theorem wds_len (x : Nat → Nat) (m : Nat) : (wds x m).length = m := by simp [wds]
theorem wds_get {x : Nat → Nat} {m i : Nat} (h : i < m) : (wds x m)[i]? = some (.float .f32 (x i)) := by simp [wds, h]
theorem wds_three (x : Nat → Nat) (k : Nat) : wds x (k * 3) ++ [.float .f32 (x (k * 3)), .float .f32 (x (k * 3 + 1)), .float .f32 (x (k * 3 + 2))] = wds x ((k + 1) * 3) := by
  unfold wds
  rw [show (k + 1) * 3 = k * 3 + 1 + 1 + 1 by omega, List.range_succ, List.range_succ, List.range_succ]
  simp
theorem wds_ext {x y : Nat → Nat} {m : Nat} (h : ∀ i, i < m → x i = y i) : wds x m = wds y m := by
  unfold wds
  exact List.map_congr_left fun i hi => by rw [h i (List.mem_range.1 hi)]
section
variable {w w0 : World} {T : TypeId} {v : Value} {n : Nat} {x : Nat → Nat}
theorem own_kept (hn : 0 < n) (h : w.ownsRow w0.heap.size T 3 v n (wds x (n * 3))) (hb : Below w0.heap.size w0 w) :
    ∃ B cs cap, v = .slice (some ⟨B, 0, none⟩) n cap ∧ w0.heap.size ≤ B ∧ LvW cs (3 * n) x ∧ Kept w0 [(B, cs, T)] w := by
  rcases h.2 with ⟨_, h0⟩ | ⟨g, cap, cur, e, hB, hg, hnc, hcm, hcs, ht⟩
  · omega
  · refine ⟨g, cur, cap, e, hB, ⟨?_, fun k hk => ?_⟩, ⟨hb, fun y hy => ?_⟩⟩
    · rw [hcs]
      have := Nat.mul_le_mul_right 3 hnc
      omega
    · have h1 : (cur.toList.take (n * 3))[k]? = some (.float .f32 (x k)) := by rw [ht]; exact wds_get (by omega)
      rw [List.getElem?_take, if_pos (by omega), Array.getElem?_toList] at h1
      exact h1
    · simp only [List.mem_cons, List.not_mem_nil, or_false] at hy
      subst hy
      exact hg
theorem own_drew {base size : Nat} {xs : List Value} (h : w.ownsRow base T size v n xs) : w.drew.ownsRow base T size v n xs := h
end
/-- A word made by wide means: what an operation gives. -/
theorem mul_ff {x y : Nat} (hx : FW x) (hy : FW y) : S.mul x y = some (fmul x y) ∧ NW (fmul x y) := by
  obtain ⟨s, m, e, h1, _⟩ := read_fw hx
  obtain ⟨t, n, f, h2, _⟩ := read_fw hy
  have h : ∃ r, S.mul x y = some r ∧ NW r := by
    unfold Format.mul
    rw [h1, h2]
    exact ⟨_, rfl, write_nw _ _ _⟩
  obtain ⟨r, h3, h4⟩ := h
  unfold fmul
  rw [h3]
  exact ⟨rfl, h4⟩
/-- An even sounding's words. -/
def evH (heat fall k : Nat) : Nat := fsb heat (fmul fall (fiW (k : Int)))
def evD (k : Nat) : Nat := fadd 1065353216 (fiW (k : Int))
def evV (vap k : Nat) : Nat := fdiv vap (evD k)
def evW (heat fall vap : Nat) : Nat → Nat := fun i => if 96 ≤ i then 0 else if i % 3 = 0 then fiW ((i / 3 : Nat) : Int) else if i % 3 = 1 then evH heat fall (i / 3) else evV vap (i / 3)
theorem evW_0 (heat fall vap : Nat) {k : Nat} (hk : k < 32) : evW heat fall vap (k * 3) = fiW (k : Int) := by
  unfold evW
  rw [if_neg (by omega), if_pos (by omega), show k * 3 / 3 = k by omega]
theorem evW_1 (heat fall vap : Nat) {k : Nat} (hk : k < 32) : evW heat fall vap (k * 3 + 1) = evH heat fall k := by
  unfold evW
  rw [if_neg (by omega), if_neg (by omega), if_pos (by omega), show (k * 3 + 1) / 3 = k by omega]
theorem evW_2 (heat fall vap : Nat) {k : Nat} (hk : k < 32) : evW heat fall vap (k * 3 + 2) = evV vap k := by
  unfold evW
  rw [if_neg (by omega), if_neg (by omega), if_neg (by omega), show (k * 3 + 2) / 3 = k by omega]
theorem ev_tab : ((List.range 32).all fun k => decide (fiW (k : Int) < INF) && decide (S.add 1065353216 (fiW (k : Int)) = some (evD k)) && decide (evD k < INF) && decide (evD k ≠ 0)) = true := by decide +kernel
theorem ev_one {k : Nat} (h : k < 32) : fiW (k : Int) < INF ∧ S.add 1065353216 (fiW (k : Int)) = some (evD k) ∧ evD k < INF ∧ evD k ≠ 0 := by
  have := List.all_eq_true.1 ev_tab k (List.mem_range.2 h)
  simp only [Bool.and_eq_true, decide_eq_true_eq] at this
  exact ⟨this.1.1.1, this.1.1.2, this.1.2, this.2⟩
structure EvF (heat fall vap k : Nat) : Prop where
  s1 : S.mul fall (fiW (k : Int)) = some (fmul fall (fiW (k : Int)))
  s2 : S.sub heat (fmul fall (fiW (k : Int))) = some (evH heat fall k)
  s3 : S.add 1065353216 (fiW (k : Int)) = some (evD k)
  s4 : S.div vap (evD k) = some (evV vap k)
  w1 : evH heat fall k < 4294967296
  w2 : evV vap k < 4294967296
theorem ev_facts {heat fall vap k : Nat} (h1 : FW heat) (h2 : FW fall) (h3 : FW vap) (hk : k < 32) : EvF heat fall vap k := by
  obtain ⟨a, b, c, d⟩ := ev_one hk
  have m := mul_ff h2 (fw_amt (amtB_iff.2 a))
  have s := sub_nw2 h1 m.2
  have q := div_nw h3 (fw_amt (amtB_iff.2 c)) (sv_ne c d)
  exact ⟨m.1, s.1, b, q.1, s.2.1, q.2.1⟩
theorem evW_32 {heat fall vap : Nat} (h1 : FW heat) (h2 : FW fall) (h3 : FW vap) : W32 (evW heat fall vap) := by
  intro i
  by_cases hi : 96 ≤ i
  · unfold evW; rw [if_pos hi]; decide
  · have hk : i / 3 < 32 := by omega
    have F := ev_facts h1 h2 h3 hk
    have hm : i = i / 3 * 3 ∨ i = i / 3 * 3 + 1 ∨ i = i / 3 * 3 + 2 := by omega
    rcases hm with hm | hm | hm
    · rw [hm, evW_0 _ _ _ hk]; have := (ev_one hk).1; rw [INF_val] at this; omega
    · rw [hm, evW_1 _ _ _ hk]; exact F.w1
    · rw [hm, evW_2 _ _ _ hk]; exact F.w2
/-- What is not finite stays so. -/
theorem bad_read {x : Nat} (hx : x < 4294967296) (h : finB x = false) : (∃ s, S.read x = .infinity s) ∨ ∃ s t, S.read x = .nan s t := by
  have h' := finB_iff'.1 h
  rcases Nat.lt_or_eq_of_le h' with h1 | h1
  · obtain ⟨s, t, e⟩ := read_nan h1
    exact .inr ⟨s, t, e⟩
  · refine .inl ⟨decide (2147483648 ≤ x), ?_⟩
    rw [read_sign hx, ← h1, read_INF]
theorem inf_bad (s : Bool) : finB (S.write (.infinity s)) = false := by cases s <;> decide
theorem sub_bad {x y z : Nat} (hx : x < 4294967296) (hy : y < 4294967296) (hb : finB x = false ∨ finB y = false) (h : S.sub x y = some z) : finB z = false := by
  unfold Format.sub at h
  rcases hb with hb | hb
  · rcases bad_read hx hb with ⟨s, e⟩ | ⟨s, t, e⟩
    · rw [e] at h
      cases hr : S.read y with
      | nan s' t' => rw [hr] at h; cases h
      | infinity s' =>
        rw [hr] at h
        simp only [Datum.opposite, Datum.sum] at h
        split at h
        · injection h with h; subst h; exact inf_bad s
        · cases h
      | number s' m' e' => rw [hr] at h; injection h with h; subst h; exact inf_bad s
    · rw [e] at h; cases h
  · rcases bad_read hy hb with ⟨s, e⟩ | ⟨s, t, e⟩
    · rw [e] at h
      cases hr : S.read x with
      | nan s' t' => rw [hr] at h; cases h
      | infinity s' =>
        rw [hr] at h
        simp only [Datum.opposite, Datum.sum] at h
        split at h
        · injection h with h; subst h; exact inf_bad _
        · cases h
      | number s' m' e' => rw [hr] at h; injection h with h; subst h; exact inf_bad _
    · rw [e] at h
      cases hr : S.read x <;> rw [hr] at h <;> cases h
theorem mul_bad {x y z : Nat} (hx : x < 4294967296) (hb : finB x = false) (h : S.mul x y = some z) : finB z = false := by
  unfold Format.mul at h
  rcases bad_read hx hb with ⟨s, e⟩ | ⟨s, t, e⟩
  · rw [e] at h
    cases hr : S.read y with
    | nan s' t' => rw [hr] at h; cases h
    | infinity s' => rw [hr] at h; injection h with h; subst h; exact inf_bad _
    | number s' m' e' =>
      rw [hr] at h
      simp only [Datum.product] at h
      split at h
      · cases h
      · injection h with h; subst h; exact inf_bad _
  · rw [e] at h; cases h
theorem div_bad {x y z : Nat} (hx : x < 4294967296) (hb : finB x = false) (h : S.div x y = some z) : finB z = false := by
  unfold Format.div at h
  rcases bad_read hx hb with ⟨s, e⟩ | ⟨s, t, e⟩
  · rw [e] at h
    cases hr : S.read y with
    | nan s' t' => rw [hr] at h; cases h
    | infinity s' => rw [hr] at h; cases h
    | number s' m' e' => rw [hr] at h; injection h with h; subst h; exact inf_bad _
  · rw [e] at h; cases h
theorem run_any3 {P : Program} (op : BinOp) (hop : op = .add ∨ op = .sub ∨ op = .mul ∨ op = .quo) (t : TypeId) (x y : Nat) (w : World) :
    ∃ z w', (binOp op t (.float .f32 x) (.float .f32 y)).run P w = .ok (.float .f32 z) w' ∧ z < 4294967296 ∧ (w' = w ∨ w' = w.drew) ∧ (∀ r, floatBits op .f32 x y = some r → z = r) ∧ (floatBits op .f32 x y = none → finB z = false) := by
  cases h : floatBits op .f32 x y with
  | none =>
    obtain ⟨z, h1, h2, h3⟩ := run_arith_nan (P := P) (w := w) op hop t x y h
    exact ⟨z, w.drew, h1, h3, .inr rfl, fun r hr => (by cases hr), fun _ => finB_iff'.2 (by omega)⟩
  | some z =>
    refine ⟨z, w, run_float_arith w op t .f32 x y z h, ?_, .inl rfl, fun r hr => (by cases hr; rfl), fun hn => (by cases hn)⟩
    rcases hop with rfl | rfl | rfl | rfl
    · exact S.add_lt h
    · exact S.sub_lt h
    · exact S.mul_lt h
    · exact S.div_lt h
theorem any_bad {op : BinOp} {x y z : Nat} (hsome : ∀ r, floatBits op .f32 x y = some r → z = r) (hnone : floatBits op .f32 x y = none → finB z = false) (hb : ∀ r, floatBits op .f32 x y = some r → finB r = false) : finB z = false := by
  cases h : floatBits op .f32 x y with
  | none => exact hnone h
  | some r => rw [hsome r h]; exact hb r h
theorem ev_step {P : Program} {t : TypeId} {heat fall vap k : Nat} (hk : k < 32) (h1 : heat < 4294967296) (h2 : fall < 4294967296) (h3 : vap < 4294967296) (w : World) :
    ∃ z1 u1 z2 u2 z4 u4, (binOp .mul t (.float .f32 fall) (.float .f32 (fiW (k : Int)))).run P w = .ok (.float .f32 z1) u1 ∧ (binOp .sub t (.float .f32 heat) (.float .f32 z1)).run P u1 = .ok (.float .f32 z2) u2 ∧ (binOp .quo t (.float .f32 vap) (.float .f32 (evD k))).run P u2 = .ok (.float .f32 z4) u4 ∧
      z2 < 4294967296 ∧ z4 < 4294967296 ∧ (u1 = w ∨ u1 = w.drew) ∧ (u2 = u1 ∨ u2 = u1.drew) ∧ (u4 = u2 ∨ u4 = u2.drew) ∧
      (finB heat = true ∧ finB fall = true ∧ finB vap = true → z2 = evH heat fall k ∧ z4 = evV vap k) ∧ (¬ (finB heat = true ∧ finB fall = true ∧ finB vap = true) → airB z2 z4 = false) := by
  obtain ⟨z1, u1, a1, a2, a3, a4, a5⟩ := run_any3 (P := P) .mul (by simp) t fall (fiW (k : Int)) w
  obtain ⟨z2, u2, b1, b2, b3, b4, b5⟩ := run_any3 (P := P) .sub (by simp) t heat z1 u1
  obtain ⟨z4, u4, c1, c2, c3, c4, c5⟩ := run_any3 (P := P) .quo (by simp) t vap (evD k) u2
  refine ⟨z1, u1, z2, u2, z4, u4, a1, b1, c1, b2, c2, a3, b3, c3, fun hf => ?_, fun hf => ?_⟩
  · have F := ev_facts (fw_of h1 hf.1) (fw_of h2 hf.2.1) (fw_of h3 hf.2.2) hk
    obtain rfl := a4 _ F.s1
    exact ⟨b4 _ F.s2, c4 _ F.s4⟩
  · rcases hq : airB z2 z4 with _ | _
    · rfl
    · exfalso
      obtain ⟨q1, q2, _⟩ := airB_iff.1 hq
      have f2 := heat_fin b2 q1
      have f4 := amt_fin q2
      refine hf ⟨?_, ?_, ?_⟩
      · rcases h : finB heat with _ | _
        · have := any_bad b4 b5 (fun r hr => sub_bad h1 a2 (.inl h) hr)
          rw [f2] at this; cases this
        · rfl
      · rcases h : finB fall with _ | _
        · have := any_bad a4 a5 (fun r hr => mul_bad h2 h hr)
          have := any_bad b4 b5 (fun r hr => sub_bad h1 a2 (.inr this) hr)
          rw [f2] at this; cases this
        · rfl
      · rcases h : finB vap with _ | _
        · have := any_bad c4 c5 (fun r hr => div_bad h3 h hr)
          rw [f4] at this; cases this
        · rfl
end Go.Fl
/- The loops of an even sounding: what has been laid after k rounds. No program. -/
namespace Go.Fl
open Ieee Go Go.RowKit
def three (x : Nat → Nat) (k a b c : Nat) : Nat → Nat := upd (upd (upd x (k * 3) a) (k * 3 + 1) b) (k * 3 + 2) c
theorem three_lt {x : Nat → Nat} {k a b c i : Nat} (h : i < k * 3) : three x k a b c i = x i := by
  unfold three upd
  rw [if_neg (by omega), if_neg (by omega), if_neg (by omega)]
theorem three_0 (x : Nat → Nat) (k a b c : Nat) : three x k a b c (k * 3) = a := by
  unfold three upd
  rw [if_neg (by omega), if_neg (by omega), if_pos rfl]
theorem three_1 (x : Nat → Nat) (k a b c : Nat) : three x k a b c (k * 3 + 1) = b := by
  unfold three upd
  rw [if_neg (by omega), if_pos rfl]
theorem three_2 (x : Nat → Nat) (k a b c : Nat) : three x k a b c (k * 3 + 2) = c := by
  unfold three upd
  rw [if_pos rfl]
theorem part3_three (x : Nat → Nat) (k a b c : Nat) : upd (upd (upd (part3 x k) (k * 3) a) (k * 3 + 1) b) (k * 3 + 2) c = part3 (three x k a b c) (k + 1) := by
  funext i
  unfold three part3 upd
  by_cases h2 : i = k * 3 + 2
  · rw [if_pos h2, if_pos (by omega), if_pos h2]
  · rw [if_neg h2]
    by_cases h1 : i = k * 3 + 1
    · rw [if_pos h1, if_pos (by omega), if_neg h2, if_pos h1]
    · rw [if_neg h1]
      by_cases h0 : i = k * 3
      · rw [if_pos h0, if_pos (by omega), if_neg h2, if_neg h1, if_pos h0]
      · rw [if_neg h0]
        show (if i < 3 * k then x i else 0) = _
        by_cases hl : i < 3 * k
        · rw [if_pos hl, if_pos (by omega), if_neg h2, if_neg h1, if_neg h0]
        · rw [if_neg hl, if_neg (by omega)]
theorem wds_step (x : Nat → Nat) (k a b c : Nat) : wds x (k * 3) ++ [.float .f32 a, .float .f32 b, .float .f32 c] = wds (three x k a b c) ((k + 1) * 3) := by
  rw [← wds_three, three_0, three_1, three_2]
  congr 1
  exact wds_ext fun i hi => (three_lt hi).symm
/-- What has been laid after k rounds. -/
structure EvJ (F : Prop) (heat fall vap k : Nat) (x : Nat → Nat) : Prop where
  lt : W32 x
  fin : F → ∀ i, i < k * 3 → x i = evW heat fall vap i
  bad : ¬ F → 0 < k → airB (x 1) (x 2) = false
theorem EvJ.zero (F : Prop) (heat fall vap : Nat) : EvJ F heat fall vap 0 fun _ => 0 :=
  ⟨fun _ => by decide, fun _ i hi => absurd hi (by omega), fun _ h => absurd h (by omega)⟩
theorem EvJ.step {F : Prop} {heat fall vap k : Nat} {x : Nat → Nat} (j : EvJ F heat fall vap k x) (hk : k < 32) {z2 z4 : Nat} (l2 : z2 < 4294967296) (l4 : z4 < 4294967296) (hf : F → z2 = evH heat fall k ∧ z4 = evV vap k) (hb : ¬ F → airB z2 z4 = false) :
    EvJ F heat fall vap (k + 1) (three x k (fiW (k : Int)) z2 z4) := by
  have f0 : fiW (k : Int) < 4294967296 := by have := (ev_one hk).1; rw [INF_val] at this; omega
  refine ⟨fun i => ?_, fun h i hi => ?_, fun h _ => ?_⟩
  · unfold three upd
    split
    · exact l4
    · split
      · exact l2
      · split
        · exact f0
        · exact j.lt i
  · have hm : i < k * 3 ∨ i = k * 3 ∨ i = k * 3 + 1 ∨ i = k * 3 + 2 := by omega
    obtain ⟨e2, e4⟩ := hf h
    rcases hm with hm | rfl | rfl | rfl
    · rw [three_lt hm]; exact j.fin h i hm
    · rw [three_0, evW_0 _ _ _ hk]
    · rw [three_1, evW_1 _ _ _ hk, e2]
    · rw [three_2, evW_2 _ _ _ hk, e4]
  · by_cases h0 : k = 0
    · subst h0
      have e1 := three_1 x 0 (fiW ((0 : Nat) : Int)) z2 z4
      have e2 := three_2 x 0 (fiW ((0 : Nat) : Int)) z2 z4
      simp only [Nat.zero_mul, Nat.zero_add] at e1 e2
      rw [e1, e2]
      exact hb h
    · rw [three_lt (by omega), three_lt (by omega)]
      exact j.bad h (by omega)
theorem EvJ.no {F : Prop} {heat fall vap n : Nat} {x : Nat → Nat} (j : EvJ F heat fall vap n x) (hn : 0 < n) (h : ¬ F) : souB n x = false := by
  have hb := j.bad h hn
  have hl : lvB x 0 = false := by
    unfold lvB parB
    simp only [Nat.zero_mul, Nat.zero_add]
    rw [hb, Bool.and_false]
  have : lvs x n = false := all_range_f hn hl
  unfold souB
  rw [this, Bool.false_and, Bool.and_false]
theorem own_wf {w w' : World} {base size n : Nat} {T : TypeId} {v : Value} {xs : List Value} (h : w.ownsRow base T size v n xs) (hw : w' = w ∨ w' = w.drew) : w'.ownsRow base T size v n xs := by
  rcases hw with rfl | rfl
  · exact h
  · exact own_drew h
section
variable {P : Program} {ops : Array Oper} {rest : List Oper} {o : Oper} {a : Act} {w w0 : World} {Q : Exit → Act → World → Prop}
/-- A struct of three singles appended to a slice of one's own. -/
theorem append_three (hg : o.guard = none) (s y : Operand) (t : TypeId) (hop : o.op = Op.call { callee := Callee.builtin Builtin.append, args := #[s, y], argTypes := #[t, t] })
    (e : TypeId) (ht : P.underlying t = some (.slice e)) (hi : (P.info? e).map (fun i => (i.zero, i.size, i.bytes)) = some (some (.agg #[.float .f32 0, .float .f32 0, .float .f32 0]), 3, 12))
    (v : Value) (k : Nat) (x : Nat → Nat) (hs : a.eval s = v) (hown : w.ownsRow w0.heap.size e 3 v k (wds x (k * 3))) (hb : Below w0.heap.size w0 w)
    (ad A B C : Nat) (hx : a.eval y = .slice (some ⟨ad, 0, none⟩) 1 1) (hrow : w.heap[ad]? = some (.cells #[.float .f32 A, .float .f32 B, .float .f32 C] e (0, 0))) (hk : k ≤ 1048576)
    (h : ∀ v' w', w'.ownsRow w0.heap.size e 3 v' (k + 1) (wds (three x k A B C) ((k + 1) * 3)) → Below w0.heap.size w0 w' → wpList P ops Q rest (a.put o.dst v') w') : wpList P ops Q (o :: rest) a w := by
  obtain ⟨i, hi1, hi2⟩ := Option.map_eq_some_iff.1 hi
  injection hi2 with hz hi3
  injection hi3 with hsize hby
  have hm : maxLen = 140737488351232 ∨ 2097152 ≤ maxLen := .inr (by decide)
  refine wpList_append_own w hg s y t hop w0.heap.size e i _ 3 12 ht hi1 hz hsize hby rfl (by decide) v k (wds x (k * 3)) hs hown ⟨ad, 0, none⟩ 1 1 [.float .f32 A, .float .f32 B, .float .f32 C] hx rfl (fun j u hj => ?_) (by simp [Value.oneCell']) (Nat.le_trans (show k + 1 ≤ 2097152 by omega) (by decide)) (by omega) hb.size (fun v' w' h1 h2 _ => h v' w' ?_ ?_)
  · rw [Addr.add_mid, cell_of_row w ad (0 + j) _ _ _ hrow, Nat.zero_add]
    rw [← hj, ← Array.getElem?_toList]
  · rw [wds_step] at h1
    exact h1
  · exact hb.grown h2 hb.size fun g hgv => (hown.lt g hgv).1
end
end Go.Fl
/- Slices of pairs of whole numbers: blocks whose first cells are 64-bit numbers; stored, appended, read. No program. -/
namespace Go.Fl
open Ieee Go Go.RowKit

/-- The first m cells are the numbers of y. -/
def LvI (cs : Array Value) (m : Nat) (y : Nat → Int) : Prop := m ≤ cs.size ∧ ∀ k, k < m → cs[k]? = some (.int .i64 (y k))
def upI (y : Nat → Int) (i : Nat) (a : Int) : Nat → Int := fun k => if k = i then a else y k
theorem LvI.set {cs : Array Value} {m : Nat} {y : Nat → Int} (h : LvI cs m y) (i : Nat) (a : Int) : LvI (cs.setIfInBounds i (.int .i64 a)) m (upI y i a) := by
  refine ⟨by simp [h.1], fun k hk => ?_⟩
  unfold upI
  by_cases e : k = i
  · subst e
    rw [if_pos rfl, Array.getElem?_setIfInBounds_self_of_lt (by have := h.1; omega)]
  · rw [if_neg e, Array.getElem?_setIfInBounds_ne (by omega)]
    exact h.2 k hk
theorem LvI.ext {cs : Array Value} {m : Nat} {y z : Nat → Int} (h : LvI cs m y) (e : ∀ k, k < m → y k = z k) : LvI cs m z := ⟨h.1, fun k hk => by rw [h.2 k hk, e k hk]⟩
/-- Reads as n pairs. -/
def RdI (w : World) (v : Value) (n : Nat) (y : Nat → Int) : Prop := ∃ p cap, v = .slice p n cap ∧ (0 < n → ∃ b o, p = some ⟨b, o, none⟩ ∧ ∀ k, k < 2 * n → w.cell? ⟨b, o + k, none⟩ = some (.int .i64 (y k)))
section
variable {w0 w w' : World} {l : List (Nat × Array Value × TypeId)} {B : Nat} {cs : Array Value} {T : TypeId} {y : Nat → Int} {n m : Nat}
theorem LvI.cell (h : LvI cs m y) (hb : w.heap[B]? = some (.cells cs T (0, 0))) {k : Nat} (hk : k < m) : w.cell? ⟨B, k, none⟩ = some (.int .i64 (y k)) :=
  (cell_of_row w B k _ _ _ hb).trans (h.2 k hk)
theorem LvI.rd (h : LvI cs (2 * n) y) (hb : w.heap[B]? = some (.cells cs T (0, 0))) (cap : Nat) : RdI w (.slice (some ⟨B, 0, none⟩) n cap) n y :=
  ⟨some ⟨B, 0, none⟩, cap, rfl, fun _ => ⟨B, 0, rfl, fun k hk => by rw [Nat.zero_add]; exact h.cell hb hk⟩⟩
theorem Kept.rdI (k : Kept w0 l w) (h : LvI cs (2 * n) y) (hm : (B, cs, T) ∈ l) (cap : Nat) : RdI w (.slice (some ⟨B, 0, none⟩) n cap) n y := h.rd (k.at hm) cap
theorem RdI.zero (w : World) (p : Option Addr) (cap : Nat) (y : Nat → Int) : RdI w (.slice p 0 cap) 0 y := ⟨p, cap, rfl, fun h => absurd h (Nat.lt_irrefl _)⟩
end
/-- Marks in place up to m, as before from there on. -/
def mrI (y : Nat → Int) (k : Int) (m : Nat) : Nat → Int := fun j => if j < m then k + j else y j
theorem mrI_zero (y : Nat → Int) (k : Int) : mrI y k 0 = y := by funext j; simp [mrI]
theorem mrI_step (y : Nat → Int) (k : Int) (m : Nat) : upI (mrI y k m) m (k + m) = mrI y k (m + 1) := by
  funext j
  unfold mrI upI
  by_cases h : j = m
  · subst h; rw [if_pos rfl, if_pos (by omega)]
  · rw [if_neg h]
    by_cases h1 : j < m
    · show (if j < m then k + (j : Int) else y j) = _
      rw [if_pos h1, if_pos (by omega)]
    · show (if j < m then k + (j : Int) else y j) = _
      rw [if_neg h1, if_neg (by omega)]
section
variable {P : Program} {ops : Array Oper} {rest : List Oper} {o : Oper} {a : Act} {w w0 : World} {Q : Exit → Act → World → Prop} {l : List (Nat × Array Value × TypeId)} {T : TypeId} {cs : Array Value} {m : Nat} {y : Nat → Int}
theorem run_store_li {ty : TypeId} (hi : (P.info? ty).map (·.size) = some 1) {B i : Nat} {v u : Int} (hc : w.cell? ⟨B, i, none⟩ = some (.int .i64 u)) (hf : w.frozen? ⟨B, i, none⟩ = false) :
    (storeVar ty ⟨B, i, none⟩ (.int .i64 v)).run P w = .ok () (w.setCell ⟨B, i, none⟩ (.int .i64 v)) := by
  cases hq : P.info? ty with
  | none => rw [hq] at hi; cases hi
  | some j =>
    rw [hq] at hi
    have hs : j.size = 1 := by simpa using hi
    have ha : (⟨B, i, none⟩ : Addr).add 0 = ⟨B, i, none⟩ := by rw [Addr.add_mid]; rfl
    simp [storeVar, sizeOf, typeInfo, hq, hs, Value.cells, storeCells, ha, run_store_int, stored, hc, hf, Sem.run_bind]
/-- One number of a kept block, stored: the walk goes on in some world. -/
theorem store_li (hgd : o.guard = none) (ty : TypeId) (x z : Operand) (ho : o.op = .store ty x z) (hi : (P.info? ty).map (·.size) = some 1) (B i : Nat) (v : Int) (hx : a.eval x = .pointer (some ⟨B, i, none⟩)) (hz : a.eval z = .int .i64 v)
    (k : Kept w0 ((B, cs, T) :: l) w) (h : LvI cs m y) (hm : i < m) (hB : w0.heap.size ≤ B) (hne : ∀ x ∈ l, x.1 ≠ B)
    (hn : ∀ w', Kept w0 ((B, cs.setIfInBounds i (.int .i64 v), T) :: l) w' → LvI (cs.setIfInBounds i (.int .i64 v)) m (upI y i v) → wpList P ops Q rest (a.put o.dst undef) w') : wpList P ops Q (o :: rest) a w := by
  have hb := k.at (x := (B, cs, T)) (by simp)
  have hr := run_store_li (P := P) hi (v := v) (h.cell hb hm) (frozen_of_row w B i _ _ hb)
  refine wpList_plain hgd fun K hK' => ?_
  unfold Oper.wp
  simp [execOp, ho, Instr.storeAt, Instr.sureAddr, hx, hz, hr, Result.andThen]
  exact hK' _ _ (hn _ (k.lcell hB hne i _) (h.set i v))
/-- The numbers as a list. -/
def wdi (x : Nat → Int) (m : Nat) : List Value := (List.range m).map fun i => .int .i64 (x i)
theorem wdi_get {x : Nat → Int} {m i : Nat} (h : i < m) : (wdi x m)[i]? = some (.int .i64 (x i)) := by simp [wdi, h]
theorem wdi_two (x : Nat → Int) (k : Nat) : wdi x (k * 2) ++ [.int .i64 (x (k * 2)), .int .i64 (x (k * 2 + 1))] = wdi x ((k + 1) * 2) := by
  unfold wdi
  rw [show (k + 1) * 2 = k * 2 + 1 + 1 by omega, List.range_succ, List.range_succ]
  simp
theorem own_keptI {v : Value} {n : Nat} {x : Nat → Int} (hn : 0 < n) (h : w.ownsRow w0.heap.size T 2 v n (wdi x (n * 2))) (hb : Below w0.heap.size w0 w) :
    ∃ B cs cap, v = .slice (some ⟨B, 0, none⟩) n cap ∧ w0.heap.size ≤ B ∧ LvI cs (2 * n) x ∧ Kept w0 [(B, cs, T)] w := by
  rcases h.2 with ⟨_, h0⟩ | ⟨g, cap, cur, e, hB, hg, hnc, hcm, hcs, ht⟩
  · omega
  · refine ⟨g, cur, cap, e, hB, ⟨?_, fun k hk => ?_⟩, ⟨hb, fun y hy => ?_⟩⟩
    · rw [hcs]
      have := Nat.mul_le_mul_right 2 hnc
      omega
    · have h1 : (cur.toList.take (n * 2))[k]? = some (.int .i64 (x k)) := by rw [ht]; exact wdi_get (by omega)
      rw [List.getElem?_take, if_pos (by omega), Array.getElem?_toList] at h1
      exact h1
    · simp only [List.mem_cons, List.not_mem_nil, or_false] at hy
      subst hy
      exact hg
/-- A pair appended to a slice of one's own. -/
theorem append_two (hg : o.guard = none) (s y : Operand) (t : TypeId) (hop : o.op = Op.call { callee := Callee.builtin Builtin.append, args := #[s, y], argTypes := #[t, t] })
    (e : TypeId) (ht : P.underlying t = some (.slice e)) (hi : (P.info? e).map (fun i => (i.zero, i.size, i.bytes)) = some (some (.agg #[.int .i64 0, .int .i64 0]), 2, 16))
    (v : Value) (k : Nat) (x : Nat → Int) (hs : a.eval s = v) (hown : w.ownsRow w0.heap.size e 2 v k (wdi x (k * 2))) (hb : Below w0.heap.size w0 w)
    (ad : Nat) (A B : Int) (hA : x (k * 2) = A) (hB : x (k * 2 + 1) = B) (hx : a.eval y = .slice (some ⟨ad, 0, none⟩) 1 1) (hrow : w.heap[ad]? = some (.cells #[.int .i64 A, .int .i64 B] e (0, 0))) (hk : k ≤ 1048576)
    (h : ∀ v' w', w'.ownsRow w0.heap.size e 2 v' (k + 1) (wdi x ((k + 1) * 2)) → Below w0.heap.size w0 w' → wpList P ops Q rest (a.put o.dst v') w') : wpList P ops Q (o :: rest) a w := by
  obtain ⟨i, hi1, hi2⟩ := Option.map_eq_some_iff.1 hi
  injection hi2 with hz hi3
  injection hi3 with hsize hby
  refine wpList_append_own w hg s y t hop w0.heap.size e i _ 2 16 ht hi1 hz hsize hby rfl (by decide) v k (wdi x (k * 2)) hs hown ⟨ad, 0, none⟩ 1 1 [.int .i64 A, .int .i64 B] hx rfl (fun j u hj => ?_) (by simp [Value.oneCell']) (Nat.le_trans (show k + 1 ≤ 2097152 by omega) (by decide)) (by omega) hb.size (fun v' w' h1 h2 _ => h v' w' ?_ ?_)
  · rw [Addr.add_mid, cell_of_row w ad (0 + j) _ _ _ hrow, Nat.zero_add]
    rw [← hj, ← Array.getElem?_toList]
  · subst hA hB
    rw [wdi_two] at h1
    exact h1
  · exact hb.grown h2 hb.size fun g hgv => (hown.lt g hgv).1
theorem run_makeP {t e : TypeId} (ht : P.underlying t = some (.slice e)) (hi : (P.info? e).map (fun i => (i.zero, i.size, i.bytes)) = some (some (.agg #[.int .i64 0, .int .i64 0]), 2, 16)) {n : Nat} (hn : n ≤ 1048576) (w : World) :
    (Instr.makeSlice t (.int .i64 (n : Int)) (.int .i64 (n : Int))).run P w = .ok (.slice (some ⟨w.heap.size, 0, none⟩) n n) (w.alloc (.cells (vls (2 * n) (ilw fun _ => 0)) e)) := by
  obtain ⟨i, hi1, hi2⟩ := Option.map_eq_some_iff.1 hi
  injection hi2 with h2 hi3
  injection hi3 with h3 h4
  have h := run_make (P := P) w t e i _ ht hi1 h2 .i64 .i64 n n (by omega) (Int.le_refl _) (by rw [h4]; omega) (by omega)
  rw [h, h3]
  simp only [Int.toNat_natCast]
  congr 4
  apply Array.ext_getElem?
  intro j
  by_cases hj : j < 2 * n
  · rw [vls_get _ hj]
    have hm : j % 2 = 0 ∨ j % 2 = 1 := by omega
    have hj2 : j < n * 2 := by omega
    rcases hm with hm | hm <;> simp [madeCells, hj2, hm, Value.cells, ilw]
  · rw [vls_none _ (by omega)]
    simp [madeCells]
    omega
theorem LvI.zero (m : Nat) : LvI (vls m (ilw fun _ => 0)) m (fun _ => 0) := by
  refine ⟨by simp [Go.Fl.vls], fun k hk => ?_⟩
  simp [Go.Fl.vls, ilw, hk]
end

section
variable {w : World} {n b o : Nat} {y : Nat → Int}
theorem row2 (hc : ∀ k, k < 2 * n → w.cell? ⟨b, o + k, none⟩ = some (.int .i64 (y k))) {i : Nat} (hi : i < n) :
    w.rangeAt b (o + i * 2) [.int .i64 (y (i * 2)), .int .i64 (y (i * 2 + 1))] := by
  intro j v hv
  match j, hv with
  | 0, hv => simp only [List.getElem?_cons_zero, Option.some.injEq] at hv; subst hv; exact hc (i * 2) (by omega)
  | 1, hv => simp only [List.getElem?_cons_succ, List.getElem?_cons_zero, Option.some.injEq] at hv; subst hv; rw [Nat.add_assoc]; exact hc (i * 2 + 1) (by omega)
  | j + 2, hv => simp at hv
/-- Marks: the numbers from q on. -/
def mkI (q : Int) : Nat → Int := fun j => q + j
end
end Go.Fl
/- Columns: 160 counts, eight airs, a gauge and ticks, in one value. No program. -/
namespace Go.Fl
open Ieee Go Go.RowKit

/-- The cells of a column: its numbers, and the ticks last. -/
def clw (c : Nat → Nat) (t : Int) : Nat → Value := fun i => if i = 177 then .int .i64 t else .float .f32 (c i)
theorem clw_f {c : Nat → Nat} {t : Int} {i : Nat} (h : i < 177) : clw c t i = .float .f32 (c i) := if_neg (by omega)
theorem clw_t {c : Nat → Nat} {t : Int} : clw c t 177 = .int .i64 t := rfl
theorem clw_one (c : Nat → Nat) (t : Int) (i : Nat) : (clw c t i).oneCell' = true := by
  unfold clw
  by_cases h : i = 177
  · rw [if_pos h]; rfl
  · rw [if_neg h]; rfl
/-- The heat and the vapour of a cell of a column. -/
def heC (c : Nat → Nat) (i : Nat) : Nat := c (160 + i * 2)
def vaC (c : Nat → Nat) (i : Nat) : Nat := c (160 + i * 2 + 1)

section
variable {w : World} {g : Nat} {c : Nat → Nat} {t : Int} {T : TypeId}
theorem vAt.cf (h : vAt w g 178 (clw c t) T) {i : Nat} (hi : i < 177) : w.cell? ⟨g, i, none⟩ = some (.float .f32 (c i)) := by rw [h.cell (by omega), clw_f hi]
theorem vAt.ct (h : vAt w g 178 (clw c t) T) : w.cell? ⟨g, 177, none⟩ = some (.int .i64 t) := h.cell (by omega)
theorem vAt.cd (h : vAt w g 178 (clw c t) T) {i : Nat} (hi : i < 8) (k : Nat) (hk : k < 20) : w.cell? ⟨g, i * 20 + k, none⟩ = some (.float .f32 (rowK c i k)) := h.cf (by omega)
theorem vAt.ch (h : vAt w g 178 (clw c t) T) {i : Nat} (hi : i < 8) : w.cell? ⟨g, 160 + i * 2, none⟩ = some (.float .f32 (heC c i)) := h.cf (by omega)
theorem vAt.cv (h : vAt w g 178 (clw c t) T) {i : Nat} (hi : i < 8) : w.cell? ⟨g, 160 + i * 2 + 1, none⟩ = some (.float .f32 (vaC c i)) := h.cf (by omega)
end

theorem vls_fls (f : Nat → Value) (c : Nat → Nat) (h : ∀ j, j < 20 → f j = .float .f32 (c j)) : vls 20 f = fls c := by
  apply Array.ext_getElem?
  intro i
  by_cases hi : i < 20
  · rw [vls_get _ hi, fls_get _ hi, h i hi]
  · rw [vls_none _ (by omega), fls_none _ (by omega)]
theorem vls_two (f : Nat → Value) : vls 2 f = #[f 0, f 1] := rfl
/-- The droplets and the air of a cell, as parts of the value. -/
theorem part_dr (c : Nat → Nat) (t : Int) {i : Nat} (hi : i < 8) : vls 20 (fun j => clw c t (i * 20 + j)) = fls (rowK c i) := vls_fls _ _ fun j hj => clw_f (by omega)
theorem part_air (c : Nat → Nat) (t : Int) {i : Nat} (hi : i < 8) : vls 2 (fun j => clw c t (160 + i * 2 + j)) = #[.float .f32 (heC c i), .float .f32 (vaC c i)] := by
  rw [vls_two, Nat.add_zero, clw_f (by omega), clw_f (by omega)]; rfl

/-- A column that is valid. -/
structure ColOk (c : Nat → Nat) (t : Int) : Prop where
  sz : ∀ i, i < 8 → (∀ j, j < 20 → amtB (rowK c i j) = true)
  air : ∀ i, i < 8 → airB (heC c i) (vaC c i) = true
  gauge : amtB (c 176) = true
  t0 : 0 ≤ t
  t1 : t ≤ 1000000000
/-- A column whose cells up to k are in order. -/
def UpOk (c : Nat → Nat) (k : Nat) : Prop := ∀ i, i < k → (∀ j, j < 20 → amtB (rowK c i j) = true) ∧ airB (heC c i) (vaC c i) = true
theorem UpOk.zero (c : Nat → Nat) : UpOk c 0 := fun i hi => by omega
theorem UpOk.step {c : Nat → Nat} {k : Nat} (h : UpOk c k) (a : (∀ j, j < 20 → amtB (rowK c k j) = true)) (b : airB (heC c k) (vaC c k) = true) : UpOk c (k + 1) := fun i hi => by
  by_cases e : i = k
  · subst e; exact ⟨a, b⟩
  · exact h i (by omega)
theorem ColOk.of {c : Nat → Nat} {t : Int} (h : UpOk c 8) (g : amtB (c 176) = true) (h0 : 0 ≤ t) (h1 : t ≤ 1000000000) : ColOk c t := ⟨fun i hi => (h i hi).1, fun i hi => (h i hi).2, g, h0, h1⟩
theorem no_sz {c : Nat → Nat} {t : Int} {k : Nat} (hk : k < 8) (h : ¬ (∀ j, j < 20 → amtB (rowK c k j) = true)) {q : Bool} (hq : q = true ↔ ColOk c t) : q = false := by
  rw [← Bool.not_eq_true]; exact fun ht => h ((hq.1 ht).sz k hk)
theorem no_air {c : Nat → Nat} {t : Int} {k : Nat} (hk : k < 8) (h : airB (heC c k) (vaC c k) = false) {q : Bool} (hq : q = true ↔ ColOk c t) : q = false := by
  rw [← Bool.not_eq_true]; exact fun ht => by have := (hq.1 ht).air k hk; rw [h] at this; cases this
theorem no_gauge {c : Nat → Nat} {t : Int} (h : amtB (c 176) = false) {q : Bool} (hq : q = true ↔ ColOk c t) : q = false := by
  rw [← Bool.not_eq_true]; exact fun ht => by have := (hq.1 ht).gauge; rw [h] at this; cases this
theorem is_col {c : Nat → Nat} {t : Int} (h : UpOk c 8) (g : amtB (c 176) = true) {q : Bool} (hq : q = true ↔ ColOk c t) : (0 ≤ t ∧ t ≤ 1000000000) ↔ q = true := by
  rw [hq]; exact ⟨fun x => .of h g x.1 x.2, fun x => ⟨x.t0, x.t1⟩⟩
end Go.Fl

namespace Go.Fl
open Ieee Go Go.RowKit
/-! Blocks of a hundred and sixty numbers, of eight airs, and parts of a column. -/
theorem rowsP_rowN (d c : Nat → Nat) (k i : Nat) : updR (flw (rowsP d c k)) (k * 20) 20 (flw (rowK d k)) i = flw (rowsP d c (k + 1)) i := by
  unfold updR flw rowsP rowK
  by_cases h1 : k * 20 ≤ i ∧ i < k * 20 + 20
  · rw [if_pos h1]
    have e : k * 20 + (i - k * 20) = i := by omega
    simp only [e]
    rw [if_pos (by omega)]
  · rw [if_neg h1]
    by_cases h2 : i < k * 20
    · rw [if_pos h2, if_pos (by omega)]
    · rw [if_neg h2, if_neg (by omega)]
/-- The first k pairs as d has them, the others as c. -/
def twosP (d c : Nat → Nat) (k : Nat) : Nat → Nat := fun i => if i < k * 2 then d i else c i
theorem twosP_zero (d c : Nat → Nat) (i : Nat) : twosP d c 0 i = c i := by simp [twosP]
theorem twosP_step (d c : Nat → Nat) (k i : Nat) : updR (flw (twosP d c k)) (k * 2) 2 (fun j => flw d (k * 2 + j)) i = flw (twosP d c (k + 1)) i := by
  unfold updR flw twosP
  by_cases h1 : k * 2 ≤ i ∧ i < k * 2 + 2
  · rw [if_pos h1]
    have e : k * 2 + (i - k * 2) = i := by omega
    simp only [e]
    rw [if_pos (by omega)]
  · rw [if_neg h1]
    by_cases h2 : i < k * 2
    · rw [if_pos h2, if_pos (by omega)]
    · rw [if_neg h2, if_neg (by omega)]
section
variable {w w' : World} {g n : Nat} {f : Nat → Value} {T : TypeId}
theorem vAt.setRowN {d c : Nat → Nat} {k N : Nat} (h : vAt w g N (flw (rowsP d c k)) T) : vAt (w.setCells g (k * 20) (fls (rowK d k)).toList) g N (flw (rowsP d c (k + 1))) T :=
  (h.setPart (k * 20) 20 (flw (rowK d k))).ext fun i _ => rowsP_rowN d c k i
theorem vAt.setTwo {d c : Nat → Nat} {k N : Nat} (h : vAt w g N (flw (twosP d c k)) T) : vAt (w.setCells g (k * 2) [.float .f32 (d (k * 2)), .float .f32 (d (k * 2 + 1))]) g N (flw (twosP d c (k + 1))) T :=
  (h.setPart (k * 2) 2 (fun j => flw d (k * 2 + j))).ext fun i _ => twosP_step d c k i
end
section
variable {P : Program} {ops : Array Oper} {rest : List Oper} {op : Oper} {a : Act} {w : World} {Q : Exit → Act → World → Prop}
/-- A part of a known block, whose cells are told by another function. -/
theorem wpList_load_as (hw : Region.wanted op (yielded ops a.tmps) = true) (ty : TypeId) (x : Operand) (ho : op.op = .load ty x)
    (b o : Nat) (hx : a.eval x = .pointer (some ⟨b, o, none⟩)) (n : Nat) (f : Nat → Value) (T : TypeId) (hv : vAt w b n f T) (m : Nat) (hm : o + m ≤ n) (cs : Array Value) (hcs : (vls m fun j => f (o + j)) = cs) (d : TypeDesc)
    (hu : P.underlying ty = some d) (hd : (match d with | .struct _ | .array _ _ => true | _ => false) = true) (hi : (P.info? ty).map (·.size) = some m)
    (h : wpList P ops Q rest (a.put op.dst (.agg cs)) w) : wpList P ops Q (op :: rest) a w :=
  wpList_step fun _ hK => by
    rw [if_pos hw]
    refine wp_load_mid ty x ho b o hx (vls m fun j => f (o + j)).toList d (hv.range o m hm) hu (by cases d <;> simp_all [TypeDesc.isRow]) (by simpa using hi) (hK _ _ ?_)
    simpa [hcs] using h
theorem wpList_store_as (hgd : op.guard = none) (ty : TypeId) (x y : Operand) (ho : op.op = .store ty x y)
    (b o : Nat) (cs : Array Value) (hx : a.eval x = .pointer (some ⟨b, o, none⟩)) (hy : a.eval y = .agg cs) (n : Nat) (f : Nat → Value) (T : TypeId) (hv : vAt w b n f T) (m : Nat) (hs : cs.size = m) (hm : o + m ≤ n)
    (hi : (P.info? ty).map (·.size) = some m) (h1 : cs.all (·.oneCell') = true)
    (h : ∀ w', w' = w.setCells b o cs.toList → wpList P ops Q rest (a.put op.dst undef) w') : wpList P ops Q (op :: rest) a w :=
  wpList_store_mid hgd ty x y ho b o cs hx hy (by rw [hs]; exact hv.there o m hm) (by rw [hs]; exact hi) h1 (h _ rfl)
end
theorem drops_is (c : Nat → Nat) (t : Int) : (vls 160 fun j => clw c t (0 + j)) = vls 160 (flw c) := vls_ext fun i hi => by rw [Nat.zero_add]; exact clw_f (by omega)
/-- The airs of a column. -/
def airsC (c : Nat → Nat) : Nat → Nat := fun j => c (160 + j)
theorem airs_is (c : Nat → Nat) (t : Int) : (vls 16 fun j => clw c t (160 + j)) = vls 16 (flw (airsC c)) := vls_ext fun i hi => clw_f (by omega)
theorem two_is (c : Nat → Nat) (k : Nat) : (vls 2 fun j => flw c (k * 2 + j)) = #[.float .f32 (c (k * 2)), .float .f32 (c (k * 2 + 1))] := rfl
theorem dr_is (c : Nat → Nat) (t : Int) (k : Nat) (hk : k < 8) : (vls 20 fun j => clw c t (k * 20 + j)) = fls (rowK c k) := part_dr c t hk
theorem row_isN (c : Nat → Nat) (k : Nat) : (vls 20 fun j => flw c (k * 20 + j)) = fls (rowK c k) := rfl
theorem vAt.partAt {P : Program} {w : World} {g n : Nat} {f : Nat → Value} {T ty : TypeId} {d : TypeDesc} (h : vAt w g n f T) (o m : Nat) (hm : o + m ≤ n) (cs : Array Value) (hcs : (vls m fun j => f (o + j)) = cs) (hu : P.underlying ty = some d) (hd : (match d with | .struct _ | .array _ _ => true | _ => false) = true) (hi : (P.info? ty).map (·.size) = some m) :
    (Instr.loadAt ty (.pointer (some ⟨g, o, none⟩))).run P w = .ok (.agg cs) w := by
  have := run_loadVar_mid (P := P) w g o ty (vls m fun j => f (o + j)).toList d (h.range o m hm) hu (by cases d <;> simp_all [TypeDesc.isRow]) (by simpa using hi)
  simp only [Instr.loadAt, Instr.sureAddr, Sem.run_bind, Sem.run_pure, Result.andThen_ok, this]
  simp [hcs]
theorem rowsP_all8 (d c : Nat → Nat) (i : Nat) (h : i < 160) : rowsP d c 8 i = d i := if_pos h
theorem twosP_all8 (d c : Nat → Nat) (i : Nat) (h : i < 16) : twosP d c 8 i = d i := if_pos h
/-- A column that is put together of its parts. -/
def partsC (c : Nat → Nat) (a b : Bool) (f : Nat) (t : Int) : Nat → Value := fun i => if i < 160 then (if a then .float .f32 (c i) else .float .f32 0) else if i < 176 then (if b then .float .f32 (c i) else .float .f32 0) else if i = 177 then .int .i64 t else .float .f32 f
theorem two_one (a b : Nat) : (#[Value.float .f32 a, Value.float .f32 b] : Array Value).all (·.oneCell') = true := vls_one (n := 2) (f := fun i => if i = 0 then .float .f32 a else .float .f32 b) (fun i => by by_cases h : i = 0 <;> simp [h, Value.oneCell'])
end Go.Fl
/- Kept blocks whose cells are told by a function: loads and stores of one cell, of a part, of the whole; the walk goes on in some world. No program. -/
namespace Go.Fl
open Ieee Go Go.RowKit
theorem in0 {α : Type} {x : α} {l : List α} : x ∈ x :: l := List.mem_cons_self
theorem in1 {α : Type} {x y : α} {l : List α} : x ∈ y :: x :: l := List.mem_cons_of_mem _ in0
theorem in2 {α : Type} {x y z : α} {l : List α} : x ∈ y :: z :: x :: l := List.mem_cons_of_mem _ in1
theorem in3 {α : Type} {x y z u : α} {l : List α} : x ∈ y :: z :: u :: x :: l := List.mem_cons_of_mem _ in2
theorem in4 {α : Type} {x y z u v : α} {l : List α} : x ∈ y :: z :: u :: v :: x :: l := List.mem_cons_of_mem _ in3
theorem ne0 {B : Nat} : ∀ x ∈ ([] : List (Nat × Array Value × TypeId)), x.1 ≠ B := fun _ h => by cases h
theorem neC {B g : Nat} {cs : Array Value} {T : TypeId} {l : List (Nat × Array Value × TypeId)} (h : g ≠ B) (hl : ∀ x ∈ l, x.1 ≠ B) : ∀ x ∈ (g, cs, T) :: l, x.1 ≠ B := fun x hx => by
  rcases List.mem_cons.1 hx with rfl | hx
  · exact h
  · exact hl x hx
theorem updV_set (n : Nat) (f : Nat → Value) (i : Nat) (v : Value) : (vls n f).setIfInBounds i v = vls n (updV f i v) := by
  apply Array.ext_getElem?
  intro j
  rw [Array.getElem?_setIfInBounds]
  by_cases hj : j < n
  · by_cases e : i = j
    · subst e
      rw [if_pos rfl, vls_size, if_pos hj, vls_get _ hj]
      simp [updV]
    · rw [if_neg e, vls_get _ hj, vls_get _ hj]
      unfold updV
      rw [if_neg (by omega)]
  · by_cases e : i = j
    · subst e
      rw [if_pos rfl, vls_size, if_neg hj, vls_none _ (by omega)]
    · rw [if_neg e, vls_none _ (by omega), vls_none _ (by omega)]
section
variable {w0 w : World} {l : List (Nat × Array Value × TypeId)} {B n : Nat} {f : Nat → Value} {T : TypeId}
theorem Kept.v (k : Kept w0 l w) (h : (B, vls n f, T) ∈ l) : vAt w B n f T := k.at h
theorem Kept.ext {d : Nat → Value} (k : Kept w0 ((B, vls n f, T) :: l) w) (h : ∀ i, i < n → f i = d i) : Kept w0 ((B, vls n d, T) :: l) w := by
  rw [vls_ext (g := d) h] at k
  exact k
theorem Kept.put1 (k : Kept w0 ((B, vls n f, T) :: l) w) (hB : w0.heap.size ≤ B) (hne : ∀ x ∈ l, x.1 ≠ B) (i : Nat) (v : Value) : Kept w0 ((B, vls n (updV f i v), T) :: l) (w.setCell ⟨B, i, none⟩ v) := by
  refine ⟨k.1.setCell (p := ⟨B, i, none⟩) hB v, fun x hx => ?_⟩
  rcases List.mem_cons.1 hx with rfl | hx
  · exact (show vAt w B n f T from k.at (x := (B, vls n f, T)) (by simp)).set i v
  · rw [heap_setCell_other w _ _ v (fun e => hne x hx e)]
    exact k.2 x (by simp [hx])
theorem Kept.putN (hB : w0.heap.size ≤ B) (hne : ∀ x ∈ l, x.1 ≠ B) (m o : Nat) (d : Nat → Value) (k : Kept w0 ((B, vls n f, T) :: l) w) : Kept w0 ((B, vls n (updR f o m d), T) :: l) (w.setCells B o (vls m d).toList) := by
  refine ⟨below_cells hB _ _ k.1, fun x hx => ?_⟩
  rcases List.mem_cons.1 hx with rfl | hx
  · exact (show vAt w B n f T from k.at (x := (B, vls n f, T)) (by simp)).setPart o m d
  · rw [heap_setCells_other B x.1 (hne x hx) _ _ _]
    exact k.2 x (by simp [hx])
end
section
variable {P : Program} {ops : Array Oper} {rest : List Oper} {op : Oper} {a : Act} {w w0 : World} {Q : Exit → Act → World → Prop} {l : List (Nat × Array Value × TypeId)} {T : TypeId} {n : Nat} {f : Nat → Value}
/-- One cell of a block, loaded, under a guard too. -/
theorem load_one (hw : Region.wanted op (yielded ops a.tmps) = true) (ty : TypeId) (x : Operand) (ho : op.op = .load ty x) (B i : Nat) (hx : a.eval x = .pointer (some ⟨B, i, none⟩)) (hv : vAt w B n f T) (hi : i < n) (v : Value) (hf : f i = v)
    (d : TypeDesc) (hu : P.underlying ty = some d) (hd : d.isRow = false) (h : wpList P ops Q rest (a.put op.dst v) w) : wpList P ops Q (op :: rest) a w :=
  wpList_step fun K hK => by
    rw [if_pos hw]
    unfold Oper.wp
    have := run_loadVar_one (P := P) hu hd ((hv.cell hi).trans (congrArg some hf))
    simp [execOp, ho, Instr.loadAt, Instr.sureAddr, hx, this, Result.andThen]
    exact hK _ _ h
theorem run_store_any {ty : TypeId} (hi : (P.info? ty).map (·.size) = some 1) {B i : Nat} {u : Value} {v : Value} (h1 : v.oneCell' = true) (hs1 : v.cells = #[v]) (hc : w.cell? ⟨B, i, none⟩ = some u) (hf : w.frozen? ⟨B, i, none⟩ = false) :
    (storeVar ty ⟨B, i, none⟩ v).run P w = .ok () (w.setCell ⟨B, i, none⟩ v) := by
  cases hq : P.info? ty with
  | none => rw [hq] at hi; cases hi
  | some j =>
    rw [hq] at hi
    have hs : j.size = 1 := by simpa using hi
    have ha : (⟨B, i, none⟩ : Addr).add 0 = ⟨B, i, none⟩ := by rw [Addr.add_mid]; rfl
    simp [storeVar, sizeOf, typeInfo, hq, hs, hs1, storeCells, ha, run_store P w _ v _ h1, hc, hf, Sem.run_bind]
/-- One cell of a kept block, stored: the walk goes on in some world. -/
theorem store_one (hgd : op.guard = none) (ty : TypeId) (x z : Operand) (ho : op.op = .store ty x z) (hi : (P.info? ty).map (·.size) = some 1) (B i : Nat) (v : Value) (hx : a.eval x = .pointer (some ⟨B, i, none⟩)) (hz : a.eval z = v) (h1 : v.oneCell' = true) (hs1 : v.cells = #[v])
    (k : Kept w0 ((B, vls n f, T) :: l) w) (hm : i < n) (hB : w0.heap.size ≤ B) (hne : ∀ x ∈ l, x.1 ≠ B)
    (hn : ∀ w', Kept w0 ((B, vls n (updV f i v), T) :: l) w' → wpList P ops Q rest (a.put op.dst undef) w') : wpList P ops Q (op :: rest) a w := by
  have hb : vAt w B n f T := k.at (x := (B, vls n f, T)) (by simp)
  have hr := run_store_any (P := P) hi h1 hs1 (hb.cell hm) (hb.frozen i)
  refine wpList_plain hgd fun K hK' => ?_
  unfold Oper.wp
  simp [execOp, ho, Instr.storeAt, Instr.sureAddr, hx, hz, hr, Result.andThen]
  exact hK' _ _ (hn _ (k.put1 hB hne i v))
/-- A part of a kept block, stored. -/
theorem store_cut (hgd : op.guard = none) (ty : TypeId) (x y : Operand) (ho : op.op = .store ty x y) (B o m : Nat) (d : Nat → Value) (cs : Array Value) (hx : a.eval x = .pointer (some ⟨B, o, none⟩)) (hy : a.eval y = .agg cs) (hcs : cs = vls m d)
    (hi : (P.info? ty).map (·.size) = some m) (h1 : ∀ i, (d i).oneCell' = true)
    (k : Kept w0 ((B, vls n f, T) :: l) w) (hm : o + m ≤ n) (hB : w0.heap.size ≤ B) (hne : ∀ x ∈ l, x.1 ≠ B)
    (hn : ∀ w', Kept w0 ((B, vls n (updR f o m d), T) :: l) w' → wpList P ops Q rest (a.put op.dst undef) w') : wpList P ops Q (op :: rest) a w := by
  have hb : vAt w B n f T := k.at (x := (B, vls n f, T)) (by simp)
  subst hcs
  exact wpList_store_part hgd ty x y ho B o m d hx hy n f T hb hm hi h1 (hn _ (k.putN hB hne m o d))
/-- A part of a kept block, loaded, under a guard too. -/
theorem load_cut (hw : Region.wanted op (yielded ops a.tmps) = true) (ty : TypeId) (x : Operand) (ho : op.op = .load ty x) (B o m : Nat) (hx : a.eval x = .pointer (some ⟨B, o, none⟩)) (hv : vAt w B n f T) (hm : o + m ≤ n) (cs : Array Value) (hcs : (vls m fun j => f (o + j)) = cs) (d : TypeDesc)
    (hu : P.underlying ty = some d) (hd : (match d with | .struct _ | .array _ _ => true | _ => false) = true) (hi : (P.info? ty).map (·.size) = some m)
    (h : wpList P ops Q rest (a.put op.dst (.agg cs)) w) : wpList P ops Q (op :: rest) a w :=
  wpList_load_as hw ty x ho B o hx n f T hv m hm cs hcs d hu hd hi h
/-- A whole kept block, stored. -/
theorem store_row (hgd : op.guard = none) (ty : TypeId) (x y : Operand) (ho : op.op = .store ty x y) (B : Nat) (cs old : Array Value) (hx : a.eval x = .pointer (some ⟨B, 0, none⟩)) (hy : a.eval y = .agg cs)
    (k : Kept w0 ((B, old, T) :: l) w) (hi : (P.info? ty).map (·.size) = some cs.size) (hs : old.size = cs.size) (h1 : cs.all (·.oneCell') = true) (hB : w0.heap.size ≤ B) (hne : ∀ x ∈ l, x.1 ≠ B)
    (hn : ∀ w', Kept w0 ((B, cs, T) :: l) w' → wpList P ops Q rest (a.put op.dst undef) w') : wpList P ops Q (op :: rest) a w :=
  wpList_store_row hgd ty x y ho B cs hx hy T old (k.at (x := (B, old, T)) in0) hi hs h1 (hn _ (k.set hB hne cs))
/-- In a region that draws its order: a part of a block, loaded. -/
theorem run_load_as {d : Option Tmp} {ty0 : TypeId} {ps : String} {af : Array Edge} {gd : Option (Nat × Bool)} (ty : TypeId) (x : Operand) (B o m : Nat) (hx : a.eval x = .pointer (some ⟨B, o, none⟩)) (hv : vAt w B n f T) (hm : o + m ≤ n) (cs : Array Value) (hcs : (vls m fun j => f (o + j)) = cs) (dd : TypeDesc)
    (hu : P.underlying ty = some dd) (hd : (match dd with | .struct _ | .array _ _ => true | _ => false) = true) (hi : (P.info? ty).map (·.size) = some m) : (execOp a.eval ⟨d, .load ty x, ty0, ps, af, gd⟩).run P w = .ok (.value (.agg cs)) w := by
  have := run_load_mid (P := P) (a := a) (w := w) (d := d) (ty0 := ty0) (ps := ps) (af := af) (gd := gd) ty x B o (vls m fun j => f (o + j)).toList hx (hv.range o m hm) dd hu (by cases dd <;> simp_all [TypeDesc.isRow]) (by simpa using hi)
  simpa [hcs] using this
/-- One cell of a block, as a load in a region that only reads meets it. -/
theorem vAt.oneAt {g : Nat} {ty : TypeId} {d : TypeDesc} (h : vAt w g n f T) (o : Nat) (ho : o < n) (v : Value) (hf : f o = v) (hu : P.underlying ty = some d) (hd : d.isRow = false) : (Instr.loadAt ty (.pointer (some ⟨g, o, none⟩))).run P w = .ok v w := by
  have := run_loadVar_one (P := P) hu hd ((h.cell ho).trans (congrArg some hf))
  simp only [Instr.loadAt, Instr.sureAddr, Sem.run_bind, Sem.run_pure, Result.andThen_ok, this]
end
end Go.Fl
/- Doubles with a sign: products, one less a number; what they come to at most. No program. -/
namespace Go.Fl
open Ieee

theorem write_signD (s : Bool) (m : Nat) (e : Int) : D.write (.number s m e) = (if s then 9223372036854775808 else 0) + D.write (.number false m e) := by
  cases s
  · simp
  · show D.nearest true m e = _ + D.nearest false m e
    unfold Format.nearest
    split
    · simp [Format.word, sw_D]
    · simp only [Toward.cut, Format.word, sw_D]
      simp
/-- A sign before a magnitude. -/
def sgD (s : Bool) (m : Nat) : Nat := (if s then 9223372036854775808 else 0) + m
theorem read_sgD {s : Bool} {m : Nat} (h : m < DINF) : ∃ M e, D.read m = .number false M e ∧ D.read (sgD s m) = .number s M e := by
  obtain ⟨M, t, h1, _⟩ := read_repD h
  refine ⟨M, _, h1, ?_⟩
  cases s
  · show D.read (0 + m) = _
    rw [Nat.zero_add]; exact h1
  · show D.read (9223372036854775808 + m) = _
    rw [DINF_val] at h
    have hd : m / 9223372036854775808 = 0 := Nat.div_eq_of_lt (by omega)
    have hm : m % 9223372036854775808 = m := Nat.mod_eq_of_lt (by omega)
    have hd2 : (9223372036854775808 + m) / 9223372036854775808 = 1 := by omega
    have hm2 : (9223372036854775808 + m) % 9223372036854775808 = m := by omega
    unfold Format.read at h1 ⊢
    simp only [sw_D, bin_D, infRung_D, hd, hm, hd2, hm2] at h1 ⊢
    split at h1
    · rename_i h2; rw [if_pos h2]
      simp at h1 ⊢
      exact h1
    · rename_i h2; rw [if_neg h2, if_pos h]
      simp at h1 ⊢
      exact h1
theorem mul_sgD {s t : Bool} {m n : Nat} (hm : m < DINF) (hn : n < DINF) : D.mul (sgD s m) (sgD t n) = some (sgD (s ^^ t) (fmulD m n)) := by
  obtain ⟨M, e, h1, h2⟩ := read_sgD (s := s) hm
  obtain ⟨N, f, h3, h4⟩ := read_sgD (s := t) hn
  have e2 : fmulD m n = D.write (.number false (M * N) (e + f)) := by
    unfold fmulD Format.mul
    rw [h1, h3]; rfl
  unfold Format.mul
  rw [h2, h4]
  simp only [Datum.product, Option.map_some]
  rw [write_signD, ← e2]
  rfl
theorem sub_negD {x y : Nat} (hy : y < DINF) (hlt : x < y) : D.sub x y = some (sgD true (fsubD y x)) := by
  have hx : x < DINF := by omega
  obtain ⟨m', j', q1, v1⟩ := read_valD hx
  obtain ⟨n', k', q2, v2⟩ := read_valD hy
  have hval : valD x ≤ valD y := val_leD (Nat.le_of_lt hlt)
  have hne : valD x ≠ valD y := fun e => by
    have a := nearest_valD hx
    rw [e, nearest_valD hy] at a
    omega
  have hval : valD x < valD y := by omega
  rw [v1, v2] at hval
  have hfs : fsubD y x = (D.sub y x).getD 0 := rfl
  rw [hfs]
  unfold Format.sub
  rw [q1, q2]
  simp only [Datum.opposite, Datum.sum, signed, Bool.not_false, Bool.false_eq_true, if_false, if_true, Option.map_some, Option.getD_some, Nat.shiftLeft_eq]
  rw [Int.min_comm (-1074 + (k' : Int)) (-1074 + (j' : Int))]
  have hpos : m' * 2 ^ (-1074 + (j' : Int) - min (-1074 + (j' : Int)) (-1074 + (k' : Int))).toNat < n' * 2 ^ (-1074 + (k' : Int) - min (-1074 + (j' : Int)) (-1074 + (k' : Int))).toNat := by
    rcases Nat.le_total j' k' with hjk | hjk
    · obtain ⟨s, rfl⟩ : ∃ s, k' = j' + s := ⟨k' - j', by omega⟩
      rw [show min (-1074 + (j' : Int)) (-1074 + ((j' + s : Nat) : Int)) = -1074 + (j' : Int) by omega, show (-1074 + (j' : Int) - (-1074 + (j' : Int))).toNat = 0 by omega, show (-1074 + ((j' + s : Nat) : Int) - (-1074 + (j' : Int))).toNat = s by omega, Nat.pow_zero, Nat.mul_one]
      rw [Nat.pow_add, Nat.mul_comm (2 ^ j'), ← Nat.mul_assoc] at hval
      exact Nat.lt_of_mul_lt_mul_right hval
    · obtain ⟨s, rfl⟩ : ∃ s, j' = k' + s := ⟨j' - k', by omega⟩
      rw [show min (-1074 + ((k' + s : Nat) : Int)) (-1074 + (k' : Int)) = -1074 + (k' : Int) by omega, show (-1074 + ((k' + s : Nat) : Int) - (-1074 + (k' : Int))).toNat = s by omega, show (-1074 + (k' : Int) - (-1074 + (k' : Int))).toNat = 0 by omega, Nat.pow_zero, Nat.mul_one]
      rw [Nat.pow_add, Nat.mul_comm (2 ^ k'), ← Nat.mul_assoc] at hval
      exact Nat.lt_of_mul_lt_mul_right hval
  generalize m' * 2 ^ (-1074 + (j' : Int) - min (-1074 + (j' : Int)) (-1074 + (k' : Int))).toNat = a at *
  generalize n' * 2 ^ (-1074 + (k' : Int) - min (-1074 + (j' : Int)) (-1074 + (k' : Int))).toNat = b at *
  rw [if_neg (by omega), if_neg (by omega), decide_eq_true (by omega), decide_eq_false (by omega), show ((a : Int) + -(b : Int)).natAbs = ((b : Int) + -(a : Int)).natAbs by omega, write_signD, if_pos rfl]
  rfl
/-- A number less one below 0 is a sum. -/
theorem sub_sgD {x m : Nat} (hx : x < DINF) (hm : m < DINF) : D.sub x (sgD true m) = some (faddD x m) := by
  obtain ⟨M, e, h1, h2⟩ := read_sgD (s := true) hm
  obtain ⟨N, f, h3, _⟩ := read_sgD (s := false) hx
  have h4 := (add_eqD (x := x) (y := m) (nnB_iffD.2 (Nat.le_of_lt hx)) (nnB_iffD.2 (Nat.le_of_lt hm))).1
  rw [← h4]
  unfold Format.sub Format.add
  rw [h1, h2, h3]
  rfl
/-- A finite double of magnitude at most b. -/
def MgD (X b : Nat) : Prop := ∃ s m, X = sgD s m ∧ m ≤ b
theorem MgD.mono {X b c : Nat} (h : MgD X b) (hbc : b ≤ c) : MgD X c := by
  obtain ⟨s, m, e, h⟩ := h
  exact ⟨s, m, e, Nat.le_trans h hbc⟩
theorem fmul_mono2D {m n b c : Nat} (h1 : m ≤ b) (h2 : n ≤ c) (hb : b < DINF) (hc : c < DINF) : fmulD m n ≤ fmulD b c := by
  rw [fmul_valD (Nat.lt_of_le_of_lt h1 hb) (Nat.lt_of_le_of_lt h2 hc), fmul_valD hb hc]
  refine nearest_monoD 0 0 (by omega) ?_
  rw [Nat.pow_zero, Nat.mul_one, Nat.mul_one]
  exact Nat.mul_le_mul (val_leD h1) (val_leD h2)
theorem MgD.mul {X Y b c : Nat} (h1 : MgD X b) (h2 : MgD Y c) (hb : b < DINF) (hc : c < DINF) : ∃ r, D.mul X Y = some r ∧ MgD r (fmulD b c) := by
  obtain ⟨s, m, rfl, h1⟩ := h1
  obtain ⟨t, n, rfl, h2⟩ := h2
  exact ⟨_, mul_sgD (Nat.lt_of_le_of_lt h1 hb) (Nat.lt_of_le_of_lt h2 hc), _, _, rfl, fmul_mono2D h1 h2 hb hc⟩
theorem MgD.one_less {X b : Nat} (h : MgD X b) (h1 : 4607182418800017408 ≤ b) (hb : b < DINF) : ∃ r, D.sub 4607182418800017408 X = some r ∧ MgD r (faddD 4607182418800017408 b) := by
  obtain ⟨s, m, rfl, hm⟩ := h
  have hm2 : m < DINF := Nat.lt_of_le_of_lt hm hb
  have ho : 4607182418800017408 < DINF := by decide
  have hbb : b ≤ faddD 4607182418800017408 b := by
    have := fadd_monoD (x := 0) (y := b) (x' := 4607182418800017408) (y' := b) (by omega) (Nat.le_refl _) (Nat.le_of_lt ho) (Nat.le_of_lt hb)
    rwa [fadd_zeroD (nnB_iffD.2 (Nat.le_of_lt hb))] at this
  cases s
  · rw [show sgD false m = m from Nat.zero_add m]
    by_cases hc : m ≤ 4607182418800017408
    · refine ⟨_, (fsub_valD ho hc).1, false, _, (Nat.zero_add _).symm, ?_⟩
      exact Nat.le_trans (fsub_leD ho hc) (Nat.le_trans h1 hbb)
    · refine ⟨_, sub_negD hm2 (by omega), true, _, rfl, ?_⟩
      exact Nat.le_trans (fsub_leD hm2 (by omega)) (Nat.le_trans hm hbb)
  · refine ⟨_, sub_sgD ho hm2, false, _, (Nat.zero_add _).symm, ?_⟩
    exact fadd_monoD (Nat.le_refl _) hm (Nat.le_of_lt ho) (Nat.le_of_lt hb)
/-- A quotient by a number: at most 2 ^ t, if the first is at most 2 ^ t times the other. -/
theorem quo_leD {x y W t : Nat} (hx : x < DINF) (hy : y < DINF) (h0 : y ≠ 0) (hW : W < DINF) (hw : valD W = 2 ^ (VONED + t)) (h : valD x ≤ valD y * 2 ^ t) : D.div x y = some (fdivD x y) ∧ fdivD x y ≤ W := by
  obtain ⟨m, k1, h1, v1, w1, b1, c1⟩ := read_repD hx
  obtain ⟨n, k2, h2, v2, w2, b2, c2⟩ := read_repD hy
  have hn : 0 < n := by
    rcases Nat.eq_zero_or_pos n with rfl | hp
    · exfalso
      rcases c2 with rfl | c2
      · exact h0 (by omega)
      · omega
    · exact hp
  rw [v1, v2, Nat.mul_assoc, ← Nat.pow_add] at h
  have ed : D.div x y = some (D.nearest false (2 * ((m * 2 ^ (54 + n.log2 - m.log2)) / n) + ((m * 2 ^ (54 + n.log2 - m.log2)) % n != 0).toNat) (-1074 + (k1 : Int) - (-1074 + (k2 : Int)) - (54 + n.log2 - m.log2 : Nat) - 1)) := by
    unfold Format.div
    rw [h1, h2]
    simp only [Datum.quotient]
    rw [if_neg (by omega), fb_D]
    simp only [Option.map_some, Nat.shiftLeft_eq]
    rfl
  have e : fdivD x y = D.nearest false (2 * ((m * 2 ^ (54 + n.log2 - m.log2)) / n) + ((m * 2 ^ (54 + n.log2 - m.log2)) % n != 0).toNat) (-1074 + (k1 : Int) - (-1074 + (k2 : Int)) - (54 + n.log2 - m.log2 : Nat) - 1) := by
    unfold fdivD
    rw [ed]
    rfl
  refine ⟨by rw [e]; exact ed, ?_⟩
  have hbig : m ≠ 0 → n < m * 2 ^ (54 + n.log2 - m.log2) := fun hm => by
    have hm24 : m.log2 < 53 := (Nat.log2_lt hm).2 (by omega)
    have hl := Nat.log2_self_le hm
    have hn1 : n < 2 ^ (n.log2 + 1) := Nat.lt_log2_self
    calc n < 2 ^ (n.log2 + 1) := hn1
      _ ≤ 2 ^ (m.log2 + (54 + n.log2 - m.log2)) := Nat.pow_le_pow_right (by decide) (by omega)
      _ = 2 ^ m.log2 * 2 ^ (54 + n.log2 - m.log2) := Nat.pow_add _ _ _
      _ ≤ _ := Nat.mul_le_mul_right _ hl
  rw [e]
  generalize 54 + n.log2 - m.log2 = more at *
  rw [show -1074 + (k1 : Int) - (-1074 + (k2 : Int)) - (more : Nat) - 1 = -1074 + (((VONED + k1 : Nat) : Int) - ((k2 + more + 1 : Nat) : Int)) by have := VONED_val; omega]
  refine nearest_le_wordD hW (VONED + k1) (k2 + more + 1) rfl ?_
  rw [hw, Nat.pow_add 2 VONED k1, ← Nat.mul_assoc, Nat.mul_right_comm, Nat.pow_add 2 VONED t, Nat.mul_assoc (2 ^ VONED), Nat.mul_comm (2 ^ VONED)]
  refine Nat.mul_le_mul_right _ ?_
  have := quot_bd hn more h hbig
  rw [← Nat.pow_add, show t + (k2 + more + 1) = (k2 + t + more) + 1 by omega, Nat.pow_succ, Nat.mul_comm _ 2]
  exact this
/-- A quotient with a sign by a number. -/
theorem div_sgD {s : Bool} {m k : Nat} (hm : m < DINF) (hk : k < DINF) (h0 : k ≠ 0) : D.div (sgD s m) k = some (sgD s (fdivD m k)) := by
  obtain ⟨M, e, h1, h2⟩ := read_sgD (s := s) hm
  obtain ⟨N, f, h3, v3, w3, b3, c3⟩ := read_repD hk
  have hn : N ≠ 0 := by
    rintro rfl
    rcases c3 with rfl | c3
    · exact h0 (by omega)
    · omega
  have e2 : fdivD m k = (D.div m k).getD 0 := rfl
  rw [e2]
  unfold Format.div
  rw [h1, h2, h3]
  simp only [Datum.quotient]
  rw [if_neg hn, if_neg hn]
  simp only [Option.map_some, Option.getD_some]
  rw [write_signD, Bool.xor_false]
  rfl
theorem natAbs_le {a b K C : Nat} (h1 : a * K ≤ b * K + C) (h2 : b * K ≤ a * K + C) : ((a : Int) - (b : Int)).natAbs * K ≤ C := by
  rcases Nat.le_total a b with h | h
  · obtain ⟨d, rfl⟩ : ∃ d, b = a + d := ⟨b - a, by omega⟩
    rw [show ((a : Int) - ((a + d : Nat) : Int)).natAbs = d by omega]
    rw [Nat.add_mul] at h2
    omega
  · obtain ⟨d, rfl⟩ : ∃ d, a = b + d := ⟨a - b, by omega⟩
    rw [show (((b + d : Nat) : Int) - (b : Int)).natAbs = d by omega]
    rw [Nat.add_mul] at h1
    omega
/-- Two doubles of one sign that are at most 1 apart: their difference. -/
theorem sub_near {s : Bool} {m n : Nat} (hm : m < DINF) (hn : n < DINF) (h1 : valD m ≤ valD n + 2 ^ VONED) (h2 : valD n ≤ valD m + 2 ^ VONED) : ∃ r, D.sub (sgD s m) (sgD s n) = some r ∧ MgD r 4607182418800017408 := by
  obtain ⟨M, e, p1, p2⟩ := read_sgD (s := s) hm
  obtain ⟨N, f, q1, q2⟩ := read_sgD (s := s) hn
  obtain ⟨M', j, r1, v1, _⟩ := read_repD hm
  obtain ⟨N', k, r2, v2, _⟩ := read_repD hn
  rw [r1] at p1
  rw [r2] at q1
  simp only [Datum.number.injEq, true_and] at p1 q1
  obtain ⟨rfl, rfl⟩ := p1
  obtain ⟨rfl, rfl⟩ := q1
  unfold Format.sub
  rw [p2, q2]
  simp only [Datum.opposite, Datum.sum, Option.map_some]
  refine ⟨_, rfl, ?_⟩
  rw [write_signD]
  refine ⟨_, _, rfl, ?_⟩
  show D.nearest false _ _ ≤ _
  generalize hB : min (-1074 + (j : Int)) (-1074 + (k : Int)) = base
  have ha : (signed s M' (-1074 + (j : Int) - base).toNat + signed (!s) N' (-1074 + (k : Int) - base).toNat).natAbs = (((M' * 2 ^ (-1074 + (j : Int) - base).toNat : Nat) : Int) - ((N' * 2 ^ (-1074 + (k : Int) - base).toNat : Nat) : Int)).natAbs := by
    simp only [signed, Nat.shiftLeft_eq]
    cases s <;> simp <;> omega
  rw [ha]
  obtain ⟨i, hi⟩ : ∃ i : Nat, base = -1074 + (i : Int) := ⟨(base + 1074).toNat, by omega⟩
  subst hi
  rw [show (-1074 + (i : Int)) = -1074 + ((i : Nat) : Int) from rfl]
  refine nearest_le_wordD (by decide) i 0 (by omega) ?_
  rw [Nat.pow_zero, Nat.mul_one, val_ONED]
  have e1 : M' * 2 ^ (-1074 + (j : Int) - (-1074 + (i : Int))).toNat * 2 ^ i = M' * 2 ^ j := by
    rw [Nat.mul_assoc, ← Nat.pow_add, show (-1074 + (j : Int) - (-1074 + (i : Int))).toNat + i = j by omega]
  have e2 : N' * 2 ^ (-1074 + (k : Int) - (-1074 + (i : Int))).toNat * 2 ^ i = N' * 2 ^ k := by
    rw [Nat.mul_assoc, ← Nat.pow_add, show (-1074 + (k : Int) - (-1074 + (i : Int))).toNat + i = k by omega]
  refine natAbs_le ?_ ?_
  · rw [e1, e2, ← v1, ← v2]; exact h1
  · rw [e1, e2, ← v1, ← v2]; exact h2
/-- Rounding to even is at most one unit away. -/
theorem cut_even (s : Bool) (m d : Nat) : Toward.even.cut s m d * 2 ^ d ≤ m + 2 ^ d ∧ m ≤ Toward.even.cut s m d * 2 ^ d + 2 ^ d := by
  have hp : 0 < 2 ^ d := Nat.two_pow_pos _
  unfold Toward.cut
  simp only [Nat.shiftLeft_eq, Nat.one_mul]
  rcases Nat.le_total d (m.log2 + 2) with hd | hd
  · rw [Nat.min_eq_left hd]
    have hdm := Nat.div_add_mod m (2 ^ d)
    have hml := Nat.mod_lt m hp
    generalize (decide (2 ^ d < 2 * (m % 2 ^ d)) || 2 ^ d == 2 * (m % 2 ^ d) && m / 2 ^ d % 2 == 1) = b
    generalize m / 2 ^ d = q at *
    generalize m % 2 ^ d = r at *
    generalize 2 ^ d = G at *
    have hc := Nat.mul_comm G q
    cases b
    · simp only [Bool.toNat_false, Nat.add_zero]; omega
    · simp only [Bool.toNat_true, Nat.add_mul, Nat.one_mul]; omega
  · rw [Nat.min_eq_right hd]
    have l1 : m < 2 ^ (m.log2 + 1) := Nat.lt_log2_self
    have l2 : 2 ^ (m.log2 + 2) = 2 * 2 ^ (m.log2 + 1) := by rw [Nat.pow_succ 2 (m.log2 + 1), Nat.mul_comm]
    have l3 : 2 ^ (m.log2 + 2) ≤ 2 ^ d := Nat.pow_le_pow_right (by decide) hd
    rw [Nat.div_eq_of_lt (by omega), Nat.mod_eq_of_lt (by omega), decide_eq_false (by omega)]
    rw [show (2 ^ (m.log2 + 2) == 2 * m) = false from by rw [beq_eq_false_iff_ne]; omega]
    simp only [Bool.false_and, Bool.or_false, Bool.toNat_false, Nat.add_zero, Nat.zero_mul]
    omega
/-- A whole number below 2 ^ 53 is a double. -/
theorem int_word {N : Nat} (hN : N < 9007199254740992) : ∃ W, W < DINF ∧ valD W = N * 2 ^ VONED := by
  by_cases h0 : N = 0
  · exact ⟨0, by decide, by rw [h0, val_zeroD, Nat.zero_mul]⟩
  have hL : N.log2 < 53 := (Nat.log2_lt h0).2 (by omega)
  have l1 := Nat.log2_self_le h0
  have l2 : N < 2 ^ (N.log2 + 1) := Nat.lt_log2_self
  generalize N.log2 = L at *
  obtain ⟨c, hc⟩ : ∃ c, L + c = 52 := ⟨52 - L, by omega⟩
  have m1 : 4503599627370496 ≤ N * 2 ^ c := by
    calc 4503599627370496 = 2 ^ L * 2 ^ c := by rw [← Nat.pow_add, hc]
      _ ≤ _ := Nat.mul_le_mul_right _ l1
  have m2 : N * 2 ^ c < 9007199254740992 := by
    calc N * 2 ^ c < 2 ^ (L + 1) * 2 ^ c := Nat.mul_lt_mul_of_pos_right l2 (Nat.two_pow_pos _)
      _ = 9007199254740992 := by rw [← Nat.pow_add, show L + 1 + c = 53 by omega]
  have hV := VONED_val
  refine ⟨(1023 + L) * 4503599627370496 + (N * 2 ^ c - 4503599627370496), by rw [DINF_val]; omega, ?_⟩
  generalize hM : N * 2 ^ c = M at *
  have e1 : ((1023 + L) * 4503599627370496 + (M - 4503599627370496)) / 4503599627370496 = 1023 + L := by omega
  have e2 : ((1023 + L) * 4503599627370496 + (M - 4503599627370496)) % 4503599627370496 = M - 4503599627370496 := by omega
  unfold valD
  rw [if_neg (by omega), e1, e2, show 4503599627370496 + (M - 4503599627370496) = M by omega, ← hM, Nat.mul_assoc, ← Nat.pow_add]
  rw [show c + (1023 + L - 1) = VONED by omega]
theorem nearest_word {N W : Nat} (hW : W < DINF) (h : valD W = N * 2 ^ VONED) : D.nearest false N 0 = W := by
  have h1 := nearest_congrD (m := N) (m' := valD W) (E := 1074) (E' := 0) VONED 0 (by have := VONED_val; omega) (by rw [Nat.pow_zero, Nat.mul_one, h])
  rw [nearest_valD hW] at h1
  exact h1
/-- Rounding to even, of a double with a sign: a double with that sign, at most 1 away. -/
theorem even_near {s : Bool} {m : Nat} (hm : m < DINF) : ∃ n, n < DINF ∧ D.write ((D.read (sgD s m)).integral .even) = sgD s n ∧ valD m ≤ valD n + 2 ^ VONED ∧ valD n ≤ valD m + 2 ^ VONED := by
  obtain ⟨M, k, r1, v1, w1, b1, c1⟩ := read_repD hm
  obtain ⟨M2, e, p1, p2⟩ := read_sgD (s := s) hm
  rw [r1] at p1
  simp only [Datum.number.injEq, true_and] at p1
  obtain ⟨rfl, rfl⟩ := p1
  rw [p2]
  simp only [Datum.integral]
  have hV := VONED_val
  rcases Nat.lt_or_ge k VONED with hk | hk
  rotate_left
  · obtain ⟨t, rfl⟩ : ∃ t, k = VONED + t := ⟨k - VONED, by omega⟩
    rw [show (-1074 + ((VONED + t : Nat) : Int)).toNat = t by omega, show (-(-1074 + ((VONED + t : Nat) : Int))).toNat = 0 by omega, Nat.shiftLeft_eq]
    rw [show Toward.even.cut s (M * 2 ^ t) 0 = M * 2 ^ t from by simp [Toward.cut, Nat.mod_one]]
    refine ⟨m, hm, ?_, Nat.le_add_right _ _, Nat.le_add_right _ _⟩
    rw [write_signD]
    have : D.write (.number false (M * 2 ^ t) 0) = m := nearest_word hm (by rw [v1, Nat.pow_add, Nat.mul_comm (2 ^ VONED), Nat.mul_assoc])
    rw [this]
    rfl
  · obtain ⟨d, hd⟩ : ∃ d, VONED = k + d := ⟨VONED - k, by omega⟩
    rw [show (-1074 + (k : Int)).toNat = 0 by omega, show (-(-1074 + (k : Int))).toNat = d by omega, Nat.shiftLeft_eq, Nat.pow_zero, Nat.mul_one]
    obtain ⟨a1, a2⟩ := cut_even s M d
    generalize Toward.even.cut s M d = N at *
    have hN : N < 9007199254740992 := by
      have hp : 2 ≤ 2 ^ d := by
        obtain ⟨d', rfl⟩ : ∃ d', d = d' + 1 := ⟨d - 1, by omega⟩
        rw [Nat.pow_succ]
        have := Nat.two_pow_pos d'
        omega
      generalize 2 ^ d = G at *
      rcases Nat.lt_or_ge N 9007199254740992 with h | h
      · exact h
      · exfalso
        obtain ⟨N', rfl⟩ : ∃ N', N = N' + 1 := ⟨N - 1, by omega⟩
        rw [Nat.add_mul, Nat.one_mul] at a1
        have : N' * 2 ≤ N' * G := Nat.mul_le_mul_left _ hp
        omega
    obtain ⟨W, hW, hv⟩ := int_word hN
    refine ⟨W, hW, ?_, ?_, ?_⟩
    · rw [write_signD]
      have : D.write (.number false N 0) = W := nearest_word hW hv
      rw [this]
      rfl
    · rw [v1, hv, hd, Nat.pow_add, Nat.mul_comm (2 ^ k), ← Nat.mul_assoc, ← Nat.add_mul]
      exact Nat.mul_le_mul_right _ a2
    · rw [v1, hv, hd, Nat.pow_add, Nat.mul_comm (2 ^ k), ← Nat.mul_assoc, ← Nat.add_mul]
      exact Nat.mul_le_mul_right _ a1
/-- Less 0. -/
theorem sub_zeroD {s : Bool} {m : Nat} (hm : m < DINF) : D.sub (sgD s m) 0 = some (sgD s m) := by
  obtain ⟨M, k, r1, v1, w1, b1, c1⟩ := read_repD hm
  obtain ⟨M2, e, p1, p2⟩ := read_sgD (s := s) hm
  rw [r1] at p1
  simp only [Datum.number.injEq, true_and] at p1
  obtain ⟨rfl, rfl⟩ := p1
  have h0 : D.read 0 = .number false 0 (-1074) := by decide
  unfold Format.sub
  rw [p2, h0]
  simp only [Datum.opposite, Datum.sum, Option.map_some]
  rw [Int.min_eq_right (by omega : (-1074 : Int) ≤ -1074 + (k : Int))]
  rw [show (-1074 + (k : Int) - -1074).toNat = k by omega]
  have hs : signed (!false) 0 ((-1074 : Int) - -1074).toNat = 0 := by decide
  rw [hs, Int.add_zero]
  have hn : D.nearest false (M * 2 ^ k) (-1074) = m := by
    have := nearest_valD hm
    rw [v1] at this
    exact this
  have ha : (signed s M k).natAbs = M * 2 ^ k := by
    simp only [signed, Nat.shiftLeft_eq]
    generalize M * 2 ^ k = q
    cases s
    · show ((q : Int)).natAbs = q; omega
    · show (-(q : Int)).natAbs = q; omega
  have hz : (if signed s M k = 0 then s && !false else decide (signed s M k < 0)) = s := by
    simp only [signed, Nat.shiftLeft_eq]
    generalize M * 2 ^ k = q
    cases s
    · show (if (q : Int) = 0 then false else decide ((q : Int) < 0)) = false
      split
      · rfl
      · exact decide_eq_false (by omega)
    · show (if -(q : Int) = 0 then true else decide (-(q : Int) < 0)) = true
      split
      · rfl
      · rename_i h; exact decide_eq_true (by omega)
  rw [hz, ha, write_signD]
  show some (_ + D.nearest false (M * 2 ^ k) (-1074)) = _
  rw [hn]
  rfl
theorem order_zeroD {s : Bool} {n : Nat} (hn : n < DINF) : (D.order (sgD s n) 0 == some .eq) = decide (n = 0) := by
  obtain ⟨M, k, r1, v1, w1, b1, c1⟩ := read_repD hn
  obtain ⟨M2, e, p1, p2⟩ := read_sgD (s := s) hn
  rw [r1] at p1
  simp only [Datum.number.injEq, true_and] at p1
  obtain ⟨rfl, rfl⟩ := p1
  have h0 : D.read 0 = .number false 0 (-1074) := by decide
  unfold Format.order
  rw [p2, h0]
  simp only [Datum.order, signed, Nat.shiftLeft_eq, Nat.zero_mul]
  have hp : 0 < 2 ^ (-1074 + (k : Int) - min (-1074 + (k : Int)) (-1074)).toNat := Nat.two_pow_pos _
  have hM : (M * 2 ^ (-1074 + (k : Int) - min (-1074 + (k : Int)) (-1074)).toNat = 0) ↔ n = 0 := by
    constructor
    · intro h
      rcases Nat.mul_eq_zero.1 h with h | h
      · rcases c1 with rfl | c1
        · omega
        · omega
      · omega
    · rintro rfl
      have : M = 0 := by omega
      rw [this, Nat.zero_mul]
  generalize M * 2 ^ (-1074 + (k : Int) - min (-1074 + (k : Int)) (-1074)).toNat = q at *
  by_cases hq : q = 0
  · subst hq
    rw [decide_eq_true (hM.1 rfl)]
    cases s <;> rfl
  · rw [decide_eq_false (fun h => hq (hM.2 h))]
    have : (if s then -(q : Int) else (q : Int)) ≠ 0 := by cases s <;> simp <;> omega
    generalize (if s then -(q : Int) else (q : Int)) = z at *
    rcases Int.lt_or_gt_of_ne this with h | h
    · rw [Int.compare_eq_lt.2 (by simpa using h)]; rfl
    · rw [Int.compare_eq_gt.2 (by simpa using h)]; rfl
end Go.Fl
/- The sums of a unit at an angle: all stay finite. No program. -/
namespace Go.Fl
open Ieee
def W64 : Nat := 4634204016564240384
def TAU : Nat := 4618760256179416344
def kc (m : Nat) : Nat := floatOfInt .f64 ((2 * (m : Int) - 1) * (2 * (m : Int)))
def ks (m : Nat) : Nat := floatOfInt .f64 ((2 * (m : Int)) * (2 * (m : Int) + 1))
def k2 (m : Nat) : Nat := floatOfInt .f64 (2 * (m : Int))
def bndU : Nat → Nat
  | 0 => 4607182418800017408
  | j + 1 => faddD 4607182418800017408 (fmulD W64 (bndU j))
theorem bndU_all : ((List.range 15).all fun j => decide (4607182418800017408 ≤ bndU j) && decide (bndU j < DINF) && decide (fmulD W64 (bndU j) < DINF) && decide (4607182418800017408 ≤ fmulD W64 (bndU j))) = true := by decide +kernel
theorem bndU_facts {j : Nat} (h : j < 15) : 4607182418800017408 ≤ bndU j ∧ bndU j < DINF ∧ fmulD W64 (bndU j) < DINF ∧ 4607182418800017408 ≤ fmulD W64 (bndU j) := by
  have := List.all_eq_true.1 bndU_all j (List.mem_range.2 h)
  simp only [Bool.and_eq_true, decide_eq_true_eq] at this
  exact ⟨this.1.1.1, this.1.1.2, this.1.2, this.2⟩
theorem con_all : ((List.range 15).all fun m => m == 0 || (decide (4607182418800017408 ≤ kc m) && decide (kc m < DINF) && decide (4607182418800017408 ≤ ks m) && decide (ks m < DINF) && (((D.sub (k2 m) 4607182418800017408).bind fun a => D.mul a (k2 m)) == some (kc m)) && (((D.add (k2 m) 4607182418800017408).bind fun a => D.mul (k2 m) a) == some (ks m)))) = true := by decide +kernel
theorem con_facts {m : Nat} (h0 : 1 ≤ m) (h : m < 15) : (4607182418800017408 ≤ kc m ∧ kc m < DINF ∧ 4607182418800017408 ≤ ks m ∧ ks m < DINF) ∧ (∃ a, D.sub (k2 m) 4607182418800017408 = some a ∧ D.mul a (k2 m) = some (kc m)) ∧ (∃ a, D.add (k2 m) 4607182418800017408 = some a ∧ D.mul (k2 m) a = some (ks m)) := by
  have := List.all_eq_true.1 con_all m (List.mem_range.2 h)
  rw [Bool.or_eq_true] at this
  rcases this with h1 | h1
  · have : m = 0 := by simpa using h1
    omega
  · simp only [Bool.and_eq_true, decide_eq_true_eq, beq_iff_eq] at h1
    obtain ⟨⟨⟨⟨⟨a, b⟩, c⟩, d⟩, e⟩, f⟩ := h1
    exact ⟨⟨a, b, c, d⟩, Option.bind_eq_some_iff.1 e, Option.bind_eq_some_iff.1 f⟩
def stepD (k y C : Nat) : Nat := (D.sub 4607182418800017408 ((D.mul ((D.div y k).getD 0) C).getD 0)).getD 0
theorem val_W64 : valD W64 = 2 ^ (VONED + 6) := by decide +kernel
/-- One step of either sum. -/
theorem step_unit {y k C j : Nat} (hy : y < DINF) (hv : valD y ≤ 2 ^ (VONED + 6)) (hk : 4607182418800017408 ≤ k) (hk2 : k < DINF) (hC : MgD C (bndU j)) (hj : j < 14) :
    ∃ q r, D.div y k = some q ∧ D.mul q C = some r ∧ D.sub 4607182418800017408 r = some (stepD k y C) ∧ MgD (stepD k y C) (bndU (j + 1)) := by
  obtain ⟨b1, b2, b3, b4⟩ := bndU_facts (show j < 15 by omega)
  have hkv : 2 ^ VONED ≤ valD k := by rw [← val_ONED]; exact val_leD hk
  have q1 := quo_leD (t := 6) hy hk2 (by omega) (W := W64) (by decide) val_W64 (by
    rw [Nat.pow_add] at hv
    exact Nat.le_trans hv (Nat.mul_le_mul_right _ hkv))
  have hq : MgD (fdivD y k) W64 := ⟨false, _, (Nat.zero_add _).symm, q1.2⟩
  obtain ⟨r, hr, hr2⟩ := hq.mul hC (by decide) b2
  obtain ⟨z, hz, hz2⟩ := hr2.one_less b4 b3
  have hs : stepD k y C = z := by
    unfold stepD
    rw [q1.1, Option.getD_some, hr, Option.getD_some, hz, Option.getD_some]
  refine ⟨_, r, q1.1, hr, by rw [hs]; exact hz, by rw [hs]; exact hz2⟩
/-- The sums after j steps. -/
def cosF (y : Nat) : Nat → Nat
  | 0 => 4607182418800017408
  | j + 1 => stepD (kc (14 - j)) y (cosF y j)
def sinF (y : Nat) : Nat → Nat
  | 0 => 4607182418800017408
  | j + 1 => stepD (ks (14 - j)) y (sinF y j)
theorem cosF_mg {y : Nat} (hy : y < DINF) (hv : valD y ≤ 2 ^ (VONED + 6)) : ∀ j, j ≤ 14 → MgD (cosF y j) (bndU j) ∧ MgD (sinF y j) (bndU j)
  | 0, _ => ⟨⟨false, _, (Nat.zero_add _).symm, Nat.le_refl _⟩, ⟨false, _, (Nat.zero_add _).symm, Nat.le_refl _⟩⟩
  | j + 1, h => by
    obtain ⟨i1, i2⟩ := cosF_mg hy hv j (by omega)
    obtain ⟨⟨a, b, c, d⟩, _⟩ := con_facts (m := 14 - j) (by omega) (by omega)
    obtain ⟨_, _, _, _, _, h1⟩ := step_unit hy hv a b i1 (by omega)
    obtain ⟨_, _, _, _, _, h2⟩ := step_unit hy hv c d i2 (by omega)
    exact ⟨h1, h2⟩
theorem tau_facts : TAU < DINF ∧ fmulD TAU 4607182418800017408 = TAU ∧ fmulD TAU TAU < DINF ∧ decide (valD (fmulD TAU TAU) ≤ 2 ^ (VONED + 6)) = true := by decide +kernel
/-- The angle and its square. -/
theorem angle_facts {g : Nat} (hg : MgD g 4607182418800017408) : ∃ s m, D.mul TAU g = some (sgD s m) ∧ D.mul (sgD s m) (sgD s m) = some (fmulD m m) ∧ m ≤ TAU ∧ fmulD m m < DINF ∧ valD (fmulD m m) ≤ 2 ^ (VONED + 6) := by
  obtain ⟨t1, t2, t3, t4⟩ := tau_facts
  obtain ⟨s, m, rfl, hm⟩ := hg
  have h1 : D.mul (sgD false TAU) (sgD s m) = some (sgD s (fmulD TAU m)) := by
    have := mul_sgD (s := false) (t := s) t1 (Nat.lt_of_le_of_lt hm (by decide : 4607182418800017408 < DINF))
    rwa [Bool.false_xor] at this
  rw [show sgD false TAU = TAU from Nat.zero_add _] at h1
  have h2 : fmulD TAU m ≤ TAU := by
    have := fmul_mono2D (Nat.le_refl TAU) hm t1 (by decide)
    rwa [t2] at this
  have h3 : fmulD TAU m < DINF := Nat.lt_of_le_of_lt h2 t1
  have h4 : fmulD (fmulD TAU m) (fmulD TAU m) ≤ fmulD TAU TAU := fmul_mono2D h2 h2 t1 t1
  have h5 := mul_sgD (s := s) (t := s) h3 h3
  rw [Bool.xor_self, show sgD false (fmulD (fmulD TAU m) (fmulD TAU m)) = fmulD (fmulD TAU m) (fmulD TAU m) from Nat.zero_add _] at h5
  exact ⟨s, _, h1, h5, h2, Nat.lt_of_le_of_lt h4 t3, Nat.le_trans (val_leD h4) (of_decide_eq_true t4)⟩
end Go.Fl
/- A unit's two words; narrowing with a sign; complex numbers widened. No program. -/
namespace Go.Fl
open Ieee Go Go.RowKit
def sgS (s : Bool) (m : Nat) : Nat := (if s then 2147483648 else 0) + m
theorem sgS_fin {s : Bool} {m : Nat} (h : m < INF) : sgS s m < 4294967296 ∧ finB (sgS s m) = true := by
  have h' := h
  rw [INF_val] at h
  have h1 : sgS s m < 4294967296 := by unfold sgS; split <;> omega
  refine ⟨h1, finB_iff.2 ?_⟩
  rw [INF_val]
  unfold mg sgS
  split <;> omega
theorem narr_sg {s : Bool} {b : Nat} (hb : b ≤ p64 254) : floatToFloatBits .f64 (sgD s b) .f32 = some (sgS s (narr b)) ∧ narr b < INF := by
  have h1 := narr_up (by decide) (by decide) hb
  have h2 := (p_one (j := 254) (by decide) (by decide)).2.2
  have h3 : narr b < INF := Nat.lt_of_le_of_lt h1 h2
  obtain ⟨m, e, hr, hs⟩ := read_sgD (s := s) (Nat.lt_of_le_of_lt hb (p_one (j := 254) (by decide) (by decide)).2.1)
  have e1 : FloatKind.f64.decode (sgD s b) = .number s m e := hs
  have e2 : FloatKind.f32.encode (.number s m e) = sgS s (narr b) := by
    show S.write (.number s m e) = _
    rw [write_signS]
    unfold sgS narr
    rw [hr]
  obtain ⟨f1, f2⟩ := sgS_fin (s := s) h3
  obtain ⟨m', e', _, q⟩ := read_fin f1 (finB_iff.1 f2)
  have e3 : FloatKind.f32.decode (sgS s (narr b)) = .number (decide (2147483648 ≤ sgS s (narr b))) m' e' := q
  unfold floatToFloatBits
  rw [if_neg (by decide), e1]
  simp only [e2, e3]
  exact ⟨rfl, h3⟩
theorem wid_sg {x : Nat} (hx : x < 4294967296) (h : finB x = true) : ∃ s m, wid x = sgD s m ∧ m < DINF := by
  have h' := finB_iff.1 h
  refine ⟨decide (2147483648 ≤ x), wid (mg x), ?_, (read_wid_fin hx h').1⟩
  rw [wid_fin hx h']
  unfold sgD
  simp
theorem bnd_small : bndU 14 ≤ p64 254 ∧ bndU 14 < DINF ∧ TAU < DINF ∧ fmulD TAU (bndU 14) ≤ p64 254 := by decide +kernel
/-- The unit at a finite angle. -/
structure UnitF (x : Nat) (s : Bool) (m n g X y a b p : Nat) : Prop where
  wide : wid x = sgD s m
  hm : m < DINF
  hn : n < DINF
  he : D.write ((D.read (sgD s m)).integral .even) = sgD s n
  g0 : n = 0 → g = sgD s m ∧ D.sub (sgD s m) 0 = some g
  g1 : n ≠ 0 → D.sub (sgD s m) (sgD s n) = some g
  mul : D.mul TAU g = some X
  sq : D.mul X X = some y
  hy : y < DINF
  hv : valD y ≤ 2 ^ (VONED + 6)
  pr : D.mul X (sinF y 14) = some p
  ca : floatToFloatBits .f64 (cosF y 14) .f32 = some a
  cb : floatToFloatBits .f64 p .f32 = some b
  la : a < 4294967296 ∧ finB a = true
  lb : b < 4294967296 ∧ finB b = true
theorem one_of_val {m : Nat} (h : valD m ≤ 2 ^ VONED) : m ≤ 4607182418800017408 := by
  rcases Nat.lt_or_ge 4607182418800017408 m with h1 | h1
  · have := val_ltD h1
    rw [val_ONED] at this
    omega
  · exact h1
theorem unit_f {x : Nat} (hx : x < 4294967296) (h : finB x = true) : ∃ s m n g X y a b p, UnitF x s m n g X y a b p := by
  obtain ⟨s, m, hw, hm⟩ := wid_sg hx h
  obtain ⟨n, hn, he, n1, n2⟩ := even_near (s := s) hm
  obtain ⟨g, hg, g0, g1⟩ : ∃ g, MgD g 4607182418800017408 ∧ (n = 0 → g = sgD s m ∧ D.sub (sgD s m) 0 = some g) ∧ (n ≠ 0 → D.sub (sgD s m) (sgD s n) = some g) := by
    by_cases h0 : n = 0
    · refine ⟨sgD s m, ⟨s, m, rfl, one_of_val ?_⟩, fun _ => ⟨rfl, sub_zeroD hm⟩, fun h1 => absurd h0 h1⟩
      rw [h0, show valD 0 = 0 by decide, Nat.zero_add] at n1
      exact n1
    · obtain ⟨r, hr, hr2⟩ := sub_near (s := s) hm hn n1 n2
      exact ⟨r, hr2, fun h1 => absurd h1 h0, fun _ => hr⟩
  obtain ⟨S', M, q1, q2, q3, q4, q5⟩ := angle_facts hg
  obtain ⟨b1, b2, b3, b4⟩ := bnd_small
  obtain ⟨c1, c2⟩ := cosF_mg q4 q5 14 (Nat.le_refl _)
  obtain ⟨p, hp, hp2⟩ := MgD.mul (X := sgD S' M) (b := TAU) ⟨S', M, rfl, q3⟩ c2 b3 b2
  obtain ⟨sc, mc, ec, lc⟩ := c1
  obtain ⟨sp, mp, ep, lp⟩ := hp2
  have na := narr_sg (s := sc) (Nat.le_trans lc b1)
  have nb := narr_sg (s := sp) (Nat.le_trans lp b4)
  rw [← ec] at na
  rw [← ep] at nb
  exact ⟨s, m, n, g, sgD S' M, fmulD M M, _, _, p, hw, hm, hn, he, g0, g1, q1, q2, q4, q5, hp, na.1, nb.1, sgS_fin na.2, sgS_fin nb.2⟩
section
variable {P : Program}
theorem cut_nanConv32 (x t : Nat) : INF < mg ((Question.nanConv .f32 x).cut t) ∧ (Question.nanConv .f32 x).cut t < 4294967296 := by
  simp only [Question.cut, INF_val]
  unfold mg
  have h1 : t % 2 < 2 := Nat.mod_lt _ (by decide)
  have h2 : (t / 2) % (2 ^ 23 - 1) < 2 ^ 23 - 1 := Nat.mod_lt _ (by decide)
  simp only [Nat.reducePow, Nat.reduceSub] at h2 ⊢
  generalize t % 2 = a at *
  generalize t / 2 % _ = b at *
  have : a = 0 ∨ a = 1 := by omega
  rcases this with rfl | rfl <;> omega
theorem run_narrow_nan (w : World) (src dst : TypeId) (x : Nat) (hs : (P.underlying src) = some (.float .f64)) (hd : P.underlying dst = some (.float .f32)) (h : DINF < x % 9223372036854775808) :
    ∃ z, (convert src dst (.float .f64 x)).run P w = .ok (.float .f32 z) w.drew ∧ INF < mg z ∧ z < 4294967296 := by
  refine ⟨(Question.nanConv .f32 x).cut (w.tape w.drawn (.nanConv .f32 x)), ?_, cut_nanConv32 _ _⟩
  obtain ⟨s, t, e⟩ := read_nanD h
  have e' : FloatKind.f64.decode x = .nan s t := e
  simp [convert, run_underlying hs, run_underlying hd, Conv.floatToFloat, e', Question.forced]
theorem conv_complex_fin (src dst : TypeId) {a b : Nat} (hs : P.underlying src = some (.complex .f32)) (hd : P.underlying dst = some (.complex .f64)) (ha : a < 4294967296) (fa : finB a = true) (hb : b < 4294967296) (fb : finB b = true) (w : World) :
    (convert src dst (.complex .f32 a b)).run P w = .ok (.complex .f64 (wid a) (wid b)) w := by
  have e : ∀ {x : Nat}, x < 4294967296 → finB x = true → floatToFloatBits .f32 x .f64 = some (wid x) := fun {x} hx hf => by
    obtain ⟨m, e, _, h1⟩ := read_fin hx (finB_iff.1 hf)
    obtain ⟨_, _, m', e', h3⟩ := read_wid_fin hx (finB_iff.1 hf)
    have e1 : FloatKind.f32.decode x = .number (decide (2147483648 ≤ x)) m e := h1
    have e2 : FloatKind.f64.encode (.number (decide (2147483648 ≤ x)) m e) = wid x := by unfold wid; rw [h1]; rfl
    have e3 : FloatKind.f64.decode (wid x) = .number (decide (2147483648 ≤ x)) m' e' := h3
    unfold floatToFloatBits
    rw [if_neg (by decide), e1]
    simp only [e2, e3]
    rfl
  refine run_convert_complex w src dst .f32 .f64 a b _ _ (by rw [hs]; rfl) hd ?_
  unfold cConvBits
  rw [e ha fa, e hb fb]
  rfl
theorem conv_complex_nan (src dst : TypeId) {a b : Nat} (hs : P.underlying src = some (.complex .f32)) (hd : P.underlying dst = some (.complex .f64)) (ha : INF < mg a) (hb : INF < mg b) (w : World) :
    ∃ c d, (convert src dst (.complex .f32 a b)).run P w = .ok (.complex .f64 c d) w.drew.drew ∧ DINF < c % 9223372036854775808 ∧ DINF < d % 9223372036854775808 := by
  obtain ⟨s, t, e⟩ := read_nan ha
  obtain ⟨s', t', e'⟩ := read_nan hb
  have e1 : FloatKind.f32.decode a = .nan s t := e
  have e2 : FloatKind.f32.decode b = .nan s' t' := e'
  refine ⟨(Question.nanConv .f64 a).cut (w.tape w.drawn (.nanConv .f64 a)), (Question.nanConv .f64 b).cut (w.drew.tape w.drew.drawn (.nanConv .f64 b)), ?_, (cut_nanConv64 _ _).1, (cut_nanConv64 _ _).1⟩
  simp [convert, run_underlying hs, run_underlying hd, Conv.complexToComplex, Conv.floatToFloat, e1, e2, Question.forced]
end
theorem same2_nan {a b : Nat} (ha : DINF < a % 9223372036854775808) (hb : DINF < b % 9223372036854775808) : Same2 a b :=
  ⟨.inr ⟨order_nan64 ha _, order_nan64 hb _, order_nan64 ha _, order_nan64 hb _⟩, fun he => by rw [order_nan64 ha] at he; cases he⟩
theorem same2_fin {x : Nat} (hx : x < 4294967296) (hf : finB x = true) : Same2 (wid x) (wid x) := by
  obtain ⟨_, _, m, e, hr⟩ := read_wid_fin hx (finB_iff.1 hf)
  exact ⟨.inl ⟨order_self hr, rfl⟩, fun _ _ => quo_one hr⟩
end Go.Fl
/- Whole numbers among amounts: cut as a double, and as a single told as an integer. No program. -/
namespace Go.Fl
open Ieee Go Go.RowKit
theorem cutz (m d : Nat) : Toward.zero.cut false m d = m / 2 ^ d := by
  have h : m < 2 ^ (m.log2 + 1) := Nat.lt_log2_self
  unfold Toward.cut
  simp only [Nat.shiftLeft_eq, Nat.one_mul, Bool.toNat_false, Nat.add_zero]
  rcases Nat.le_total d (m.log2 + 2) with h1 | h1
  · rw [Nat.min_eq_left h1]
  · rw [Nat.min_eq_right h1]
    have h2 : m < 2 ^ (m.log2 + 2) := Nat.lt_of_lt_of_le h (Nat.pow_le_pow_right (by decide) (by omega))
    have h3 : m < 2 ^ d := Nat.lt_of_lt_of_le h2 (Nat.pow_le_pow_right (by decide) h1)
    rw [Nat.div_eq_of_lt h2, Nat.div_eq_of_lt h3]
/-- A number m * 2 ^ (k - B), cut: whole units of 2 ^ B. -/
theorem cutz_unit (m k B : Nat) : Toward.zero.cut false (m <<< (-(B : Int) + (k : Nat)).toNat) (-(-(B : Int) + (k : Nat))).toNat = m * 2 ^ k / 2 ^ B := by
  rw [cutz, Nat.shiftLeft_eq]
  rcases Nat.le_total B k with h | h
  · obtain ⟨t, rfl⟩ : ∃ t, k = B + t := ⟨k - B, by omega⟩
    have e : m * 2 ^ (B + t) = m * 2 ^ t * 2 ^ B := by rw [Nat.pow_add, Nat.mul_comm (2 ^ B), Nat.mul_assoc]
    rw [show (-(B : Int) + ((B + t : Nat) : Int)).toNat = t by omega, show (-(-(B : Int) + ((B + t : Nat) : Int))).toNat = 0 by omega, Nat.pow_zero, Nat.div_one, e, Nat.mul_div_cancel _ (Nat.two_pow_pos _)]
  · obtain ⟨t, rfl⟩ : ∃ t, B = k + t := ⟨B - k, by omega⟩
    rw [show (-((k + t : Nat) : Int) + (k : Int)).toNat = 0 by omega, show (-(-((k + t : Nat) : Int) + (k : Int))).toNat = t by omega, Nat.pow_zero, Nat.mul_one, Nat.pow_add, ← Nat.div_div_eq_div_mul, Nat.mul_div_cancel _ (Nat.two_pow_pos _)]
def wS (N : Nat) : Nat := floatOfInt .f32 (N : Int)
def wD (N : Nat) : Nat := D.write (.number false N 0)
theorem whole_all : ((List.range 201).all fun N => decide (val (wS N) = N * 2 ^ 149) && decide (wS N < INF) && decide (valD (wD N) = N * 2 ^ (149 + 925)) && decide (wD N < DINF)) = true := by decide +kernel
theorem whole_one {N : Nat} (h : N ≤ 200) : val (wS N) = N * 2 ^ 149 ∧ wS N < INF ∧ valD (wD N) = N * 2 ^ (149 + 925) ∧ wD N < DINF := by
  have := List.all_eq_true.1 whole_all N (List.mem_range.2 (by omega))
  simp only [Bool.and_eq_true, decide_eq_true_eq] at this
  exact ⟨this.1.1.1, this.1.1.2, this.1.2, this.2⟩
theorem cmp_eqb (a b : Nat) : ((some (compare a b) : Option Ordering) == some .eq) = decide (a = b) := by
  rcases Nat.lt_trichotomy a b with h | h | h
  · rw [Nat.compare_eq_lt.2 h, decide_eq_false (by omega)]; rfl
  · rw [Nat.compare_eq_eq.2 h, decide_eq_true h]; rfl
  · rw [Nat.compare_eq_gt.2 h, decide_eq_false (by omega)]; rfl
theorem val_injS {a b : Nat} (h : val a = val b) : a = b := by
  rcases Nat.lt_trichotomy a b with h1 | h1 | h1
  · have := val_lt h1; omega
  · exact h1
  · have := val_lt h1; omega
theorem val_injD {a b : Nat} (h : valD a = valD b) : a = b := by
  rcases Nat.lt_trichotomy a b with h1 | h1 | h1
  · have := val_ltD h1; omega
  · exact h1
  · have := val_ltD h1; omega
theorem top_val : val 1128792064 = 200 * 2 ^ 149 := by decide +kernel
theorem min_max64 : IntKind.i64.min = -9223372036854775808 ∧ IntKind.i64.max = 9223372036854775807 := by decide
theorem intz {M : Nat} {i : Int} {N : Nat} (e : Toward.zero.cut false (M <<< i.toNat) (-i).toNat = N) : D.write ((Datum.number false M i).integral .zero) = wD N := by
  subst e
  rfl
theorem div_units (v B C : Nat) : v * 2 ^ B / 2 ^ (B + C) = v / 2 ^ C := by
  rw [Nat.pow_add, ← Nat.div_div_eq_div_mul, Nat.mul_div_cancel _ (Nat.two_pow_pos B)]
theorem eq_units {N v B C : Nat} : N * 2 ^ (B + C) = v * 2 ^ C ↔ N * 2 ^ B = v := by
  rw [Nat.pow_add, ← Nat.mul_assoc]
  exact ⟨fun h => Nat.eq_of_mul_eq_mul_right (Nat.two_pow_pos C) h, fun h => by rw [h]⟩
/-- An amount up to 200: its whole part, told both ways; whether it is whole, told both ways. -/
theorem whole_f {A : Nat} (hA : A < INF) (hle : A ≤ 1128792064) : ∃ N : Nat, N ≤ 200 ∧ floatToIntVal .f32 A .i64 = some (N : Int) ∧
    D.write ((D.read (wid A)).integral .zero) = wD N ∧ (∃ s m e, D.read (wid A) = .number s m e) ∧ (D.order (wD N) (wid A) == some .eq) = (S.order (wS N) A == some .eq) := by
  obtain ⟨m, k, r, v⟩ := read_val hA
  obtain ⟨w1, w2⟩ := wid_val hA
  rw [show WEXP = 925 from rfl] at w2
  obtain ⟨M, t, R, V⟩ := read_valD w1
  have hvA : val A ≤ 200 * 2 ^ 149 := by
    rw [← top_val]
    rcases Nat.lt_or_eq_of_le hle with h | rfl
    · exact Nat.le_of_lt (val_lt h)
    · exact Nat.le_refl _
  have hN : val A / 2 ^ 149 ≤ 200 := by
    have := Nat.div_le_div_right (c := 2 ^ 149) hvA
    rwa [Nat.mul_div_cancel _ (Nat.two_pow_pos 149)] at this
  have hND : valD (wid A) / 2 ^ (925 + 149) = val A / 2 ^ 149 := by
    rw [w2]
    exact div_units (val A) 925 149
  have hx : ∃ N, N = val A / 2 ^ 149 := ⟨_, rfl⟩
  obtain ⟨N, hNe⟩ := hx
  rw [← hNe] at hN hND
  obtain ⟨o1, o2, o3, o4⟩ := whole_one hN
  refine ⟨N, hN, ?_, ?_, ⟨_, _, _, R⟩, ?_⟩
  · unfold floatToIntVal
    have e1 : FloatKind.f32.decode A = .number false m (-149 + (k : Nat)) := r
    rw [e1]
    have e2 : (Datum.number false m (-149 + (k : Nat))).toInt .zero = some ((N : Nat) : Int) := by
      unfold Datum.toInt
      simp only [Datum.integral]
      rw [show (-149 + (k : Int)) = (-((149 : Nat) : Int) + (k : Nat)) by omega, cutz_unit, ← v, ← hNe]
      simp [signed]
    rw [e2]
    simp only
    obtain ⟨m1, m2⟩ := min_max64
    rw [if_pos (by rw [m1, m2]; constructor <;> omega)]
  · have e : Toward.zero.cut false (M <<< (-1074 + (t : Int)).toNat) (-(-1074 + (t : Int))).toNat = N := by
      rw [show (-1074 + (t : Int)) = (-((925 + 149 : Nat) : Int) + (t : Nat)) by omega, cutz_unit, ← V, hND]
    rw [R]
    generalize (-1074 + (t : Int)) = i at e ⊢
    subst e
    rfl
  · rw [order_ltD o4 w1, order_lt o2 hA, cmp_eqb, cmp_eqb]
    refine decide_eq_decide.2 ⟨?_, ?_⟩
    · intro h
      have h2 : valD (wD (N)) = valD (wid A) := by rw [h]
      rw [o3, w2] at h2
      exact val_injS (by rw [o1]; exact (eq_units (N := N) (v := val A) (B := 149) (C := 925)).1 h2)
    · intro h
      have h2 : val (wS (N)) = val A := by rw [h]
      rw [o1] at h2
      exact val_injD (by rw [o3, w2]; exact (eq_units (N := N) (v := val A) (B := 149) (C := 925)).2 h2)
end Go.Fl
/- How often twice a limit is in a speed, rounded to an even number; words that may be infinite. No program. -/
namespace Go.Fl
open Ieee Go Go.RowKit
def FM : Nat := 2139095039
theorem FM_lt : FM < INF := by decide
theorem narr_sgw {s : Bool} {b : Nat} (hb : b ≤ wid FM) : floatToFloatBits .f64 (sgD s b) .f32 = some (sgS s (narr b)) ∧ narr b < INF := by
  have hw := wid_val FM_lt
  rw [show WEXP = 925 from rfl] at hw
  have h1 := narr_le (y := FM) (y64 := wid FM) FM_lt hw.1 hw.2 hb
  have h3 : narr b < INF := Nat.lt_of_le_of_lt h1 FM_lt
  obtain ⟨m, e, hr, hs⟩ := read_sgD (s := s) (Nat.lt_of_le_of_lt hb hw.1)
  have e1 : FloatKind.f64.decode (sgD s b) = .number s m e := hs
  have e2 : FloatKind.f32.encode (.number s m e) = sgS s (narr b) := by
    show S.write (.number s m e) = _
    rw [write_signS]
    unfold sgS narr
    rw [hr]
  obtain ⟨f1, f2⟩ := sgS_fin (s := s) h3
  obtain ⟨m', e', _, q⟩ := read_fin f1 (finB_iff.1 f2)
  have e3 : FloatKind.f32.decode (sgS s (narr b)) = .number (decide (2147483648 ≤ sgS s (narr b))) m' e' := q
  unfold floatToFloatBits
  rw [if_neg (by decide), e1]
  simp only [e2, e3]
  exact ⟨rfl, h3⟩
/-- Rounding to even: the double itself, or a whole number below 2 to the 53rd. -/
theorem even_same {s : Bool} {m : Nat} (hm : m < DINF) : ∃ n, n < DINF ∧ D.write ((D.read (sgD s m)).integral .even) = sgD s n ∧ (n = m ∨ valD n < 9007199254740992 * 2 ^ VONED) := by
  obtain ⟨M, k, r1, v1, w1, b1, c1⟩ := read_repD hm
  obtain ⟨M2, e, p1, p2⟩ := read_sgD (s := s) hm
  rw [r1] at p1
  simp only [Datum.number.injEq, true_and] at p1
  obtain ⟨rfl, rfl⟩ := p1
  rw [p2]
  simp only [Datum.integral]
  have hV := VONED_val
  rcases Nat.lt_or_ge k VONED with hk | hk
  rotate_left
  · obtain ⟨t, rfl⟩ : ∃ t, k = VONED + t := ⟨k - VONED, by omega⟩
    rw [show (-1074 + ((VONED + t : Nat) : Int)).toNat = t by omega, show (-(-1074 + ((VONED + t : Nat) : Int))).toNat = 0 by omega, Nat.shiftLeft_eq]
    rw [show Toward.even.cut s (M * 2 ^ t) 0 = M * 2 ^ t from by simp [Toward.cut, Nat.mod_one]]
    refine ⟨m, hm, ?_, .inl rfl⟩
    rw [write_signD]
    have : D.write (.number false (M * 2 ^ t) 0) = m := nearest_word hm (by rw [v1, Nat.pow_add, Nat.mul_comm (2 ^ VONED), Nat.mul_assoc])
    rw [this]
    rfl
  · obtain ⟨d, hd⟩ : ∃ d, VONED = k + d := ⟨VONED - k, by omega⟩
    rw [show (-1074 + (k : Int)).toNat = 0 by omega, show (-(-1074 + (k : Int))).toNat = d by omega, Nat.shiftLeft_eq, Nat.pow_zero, Nat.mul_one]
    obtain ⟨a1, a2⟩ := cut_even s M d
    generalize Toward.even.cut s M d = N at *
    have hN : N < 9007199254740992 := by
      have hp : 2 ≤ 2 ^ d := by
        obtain ⟨d', rfl⟩ : ∃ d', d = d' + 1 := ⟨d - 1, by omega⟩
        rw [Nat.pow_succ]
        have := Nat.two_pow_pos d'
        omega
      generalize 2 ^ d = G at *
      rcases Nat.lt_or_ge N 9007199254740992 with h | h
      · exact h
      · exfalso
        obtain ⟨N', rfl⟩ : ∃ N', N = N' + 1 := ⟨N - 1, by omega⟩
        rw [Nat.add_mul, Nat.one_mul] at a1
        have : N' * 2 ≤ N' * G := Nat.mul_le_mul_left _ hp
        omega
    obtain ⟨W, hW, hv⟩ := int_word hN
    refine ⟨W, hW, ?_, .inr ?_⟩
    · rw [write_signD]
      have : D.write (.number false N 0) = W := nearest_word hW hv
      rw [this]
      rfl
    · rw [hv]
      exact Nat.mul_lt_mul_of_pos_right hN (Nat.two_pow_pos _)
theorem FM_val : 9007199254740992 * 2 ^ VONED ≤ valD (wid FM) := by decide +kernel
theorem le_of_valD {a b : Nat} (h : valD a ≤ valD b) : a ≤ b := by
  rcases Nat.lt_or_ge b a with h1 | h1
  · have := val_ltD h1; omega
  · exact h1
theorem wid_le {x y : Nat} (h : x ≤ y) (hy : y < INF) : wid x ≤ wid y := by
  have h1 := wid_val (Nat.lt_of_le_of_lt h hy)
  have h2 := wid_val hy
  refine le_of_valD ?_
  rw [h1.2, h2.2]
  refine Nat.mul_le_mul_right _ ?_
  rcases Nat.lt_or_eq_of_le h with h3 | rfl
  · exact Nat.le_of_lt (val_lt h3)
  · exact Nat.le_refl _
theorem sub_nwF {x y : Nat} (hx : FW x) (hy : NW y) : ∃ v, S.sub x y = some v ∧ NW v := by
  obtain ⟨s, m, e, h1, h3⟩ := read_fw hx
  unfold Format.sub
  rw [h1]
  rcases read_nw hy with ⟨t, n, k, h2⟩ | ⟨t, h2⟩
  · rw [h2]; exact ⟨_, rfl, write_nw _ _ _⟩
  · rw [h2]; exact ⟨_, rfl, write_inf _⟩
theorem div_inf {x : Nat} (hx : FW x) : S.div x INF = some 0 ∨ S.div x INF = some 2147483648 := by
  obtain ⟨s, m, e, h1, h3⟩ := read_fw hx
  unfold Format.div
  rw [h1, read_INF]
  cases s
  · left; rfl
  · right; rfl
theorem fw_two : FW 1073741824 := ⟨by decide, by decide⟩
theorem valPos1 {l : Nat} (h : l ≠ 0) : 1 ≤ val l := by
  have := val_lt (x := 0) (y := l) (by omega)
  omega
theorem two_mul {l : Nat} (hl : amtB l = true) (h0 : l ≠ 0) : ∃ w, S.mul 1073741824 l = some w ∧ 1 ≤ w ∧ w ≤ INF := by
  have hf := fw_amt hl
  obtain ⟨h1, h2⟩ := mul_nw fw_two (by decide) (⟨hf.1, Nat.le_of_lt hf.2⟩ : NW l)
  refine ⟨_, h1, ?_, ?_⟩
  · rw [fmul_val (by decide) (amtB_iff.1 hl)]
    refine word_le_nearest (y := 1) (by decide) 0 149 (by omega) ?_
    have : val 1073741824 = 2 ^ 150 := by decide
    have v1 : val 1 = 1 := by decide
    have := valPos1 h0
    rw [v1, Nat.pow_zero, Nat.mul_one]
    have h3 : val 1073741824 * 1 ≤ val 1073741824 * val l := Nat.mul_le_mul_left _ this
    have h4 : 1 * 2 ^ 149 ≤ val 1073741824 := by decide
    omega
  · rw [fmul_val (by decide) (amtB_iff.1 hl)]
    exact write_nn (NN_number (s := false) rfl)
theorem sv_pos {w : Nat} (h1 : 1 ≤ w) (h2 : w < INF) : FW w ∧ sv w ≠ 0 := by
  have hI := INF_val
  have hm : mg w = w := by unfold mg; omega
  refine ⟨⟨by omega, by rw [hm]; exact h2⟩, ?_⟩
  unfold sv
  rw [if_neg (by omega), hm]
  have := valPos1 (l := w) (by omega)
  omega
theorem conv_wid {x : Nat} (hx : x < 4294967296) (h : mg x < INF) : floatToFloatBits .f32 x .f64 = some (wid x) := by
  obtain ⟨m, e, h1, h2⟩ := read_fin hx h
  obtain ⟨_, _, m', e', h3⟩ := read_wid_fin hx h
  unfold floatToFloatBits
  rw [if_neg (by decide)]
  have e1 : FloatKind.f32.decode x = .number (decide (2147483648 ≤ x)) m e := h2
  rw [e1]
  have e2 : FloatKind.f64.encode (.number (decide (2147483648 ≤ x)) m e) = wid x := by unfold wid; rw [h2]; rfl
  simp only [e2]
  have e3 : FloatKind.f64.decode (wid x) = .number (decide (2147483648 ≤ x)) m' e' := h3
  rw [e3]
  simp [Datum.isInfinity]
/-- How a speed is folded by a limit. -/
structure FoldF (x l w q Q K k : Nat) : Prop where
  hw : S.mul 1073741824 l = some w
  hq : S.div x w = some q
  cQ : floatToFloatBits .f32 q .f64 = some Q
  hK : D.write ((D.read Q).integral .even) = K
  rd : (∃ s m e, D.read Q = .number s m e) ∨ ∃ s, D.read Q = .infinity s
  ck : floatToFloatBits .f64 K .f32 = some k
  zk : (D.order K 0 == some .eq) = true → (S.order k 0 == some .eq) = true
  nz : (S.order k 0 == some .eq) = false → ∃ p v, S.mul w k = some p ∧ S.sub x p = some v ∧ v < 4294967296
theorem fold_f {x l : Nat} (hx : FW x) (hl : amtB l = true) (h0 : l ≠ 0) : ∃ w q Q K k, FoldF x l w q Q K k := by
  obtain ⟨w, hw, h1, h2⟩ := two_mul hl h0
  have hI := INF_val
  have nzf : ∀ k, FW w → sv w ≠ 0 → NW k → ∃ p v, S.mul w k = some p ∧ S.sub x p = some v ∧ v < 4294967296 := fun k fw nw hk => by
    obtain ⟨p1, p2⟩ := mul_nw fw nw hk
    obtain ⟨v, v1, v2⟩ := sub_nwF hx p2
    exact ⟨_, v, p1, v1, v2.1⟩
  rcases Nat.lt_or_eq_of_le h2 with h2 | rfl
  · obtain ⟨fw, nw⟩ := sv_pos h1 h2
    obtain ⟨hq, q1, q2⟩ := div_nw hx fw nw
    generalize fdiv x w = q at hq q1 q2
    rcases Nat.lt_or_eq_of_le q2 with q3 | q3
    · have hwd := wid_fin q1 q3
      have hm : wid (mg q) ≤ wid FM := wid_le (by unfold FM; omega) FM_lt
      have hmD : wid (mg q) < DINF := (wid_val q3).1
      obtain ⟨n, hn, he, hb⟩ := even_same (s := decide (2147483648 ≤ q)) hmD
      have hnF : n ≤ wid FM := by
        rcases hb with rfl | hb
        · exact hm
        · exact le_of_valD (Nat.le_of_lt (Nat.lt_of_lt_of_le hb FM_val))
      have hsg : wid q = sgD (decide (2147483648 ≤ q)) (wid (mg q)) := by
        rw [hwd]; unfold sgD; simp
      generalize decide (2147483648 ≤ q) = s at he hsg
      obtain ⟨c1, c2⟩ := narr_sgw (s := s) hnF
      obtain ⟨f1, f2⟩ := sgS_fin (s := s) c2
      refine ⟨w, q, wid q, sgD s n, sgS s (narr n), hw, hq, conv_wid q1 q3, by rw [hsg]; exact he, .inl ?_, c1, fun hz => ?_, fun _ => nzf _ fw nw ⟨f1, Nat.le_of_lt (finB_iff.1 f2)⟩⟩
      · rw [hsg]
        obtain ⟨M, e, _, r⟩ := read_sgD (s := s) hmD
        exact ⟨_, _, _, r⟩
      · rw [order_zeroD hn, decide_eq_true_eq] at hz
        subst hz
        rw [show narr 0 = 0 by decide]
        cases s <;> decide
    · have hq2 : q = 2139095040 ∨ q = 4286578688 := by unfold mg at q3; omega
      rcases hq2 with rfl | rfl
      · exact ⟨w, _, 9218868437227405312, 9218868437227405312, 2139095040, hw, hq, by decide, by decide, .inr ⟨false, by decide⟩, by decide, by decide, fun _ => nzf _ fw nw ⟨by decide, by decide⟩⟩
      · exact ⟨w, _, 18442240474082181120, 18442240474082181120, 4286578688, hw, hq, by decide, by decide, .inr ⟨true, by decide⟩, by decide, by decide, fun _ => nzf _ fw nw ⟨by decide, by decide⟩⟩
  · rcases div_inf hx with hq | hq
    · exact ⟨_, _, 0, 0, 0, hw, hq, by decide, by decide, .inl ⟨_, _, _, rfl⟩, by decide, by decide, fun h => absurd h (by decide)⟩
    · exact ⟨_, _, 9223372036854775808, 9223372036854775808, 2147483648, hw, hq, by decide, by decide, .inl ⟨_, _, _, rfl⟩, by decide, by decide, fun h => absurd h (by decide)⟩
end Go.Fl
/- The loudness of a power: the steps behind the mantissa and the exponent, all of them defined and bounded. No program. -/
namespace Go.Fl
open Ieee Go Go.RowKit
theorem sum_comm (x y : Datum) (hx : ∃ s m e, x = .number s m e) (hy : ∃ s m e, y = .number s m e) : x.sum y = y.sum x := by
  obtain ⟨s, m, i, rfl⟩ := hx
  obtain ⟨t, n, j, rfl⟩ := hy
  simp only [Datum.sum]
  rw [Int.min_comm i j, Int.add_comm, Bool.and_comm s t]
theorem add_sgD {s : Bool} {m i : Nat} (hm : m < DINF) (hi : i < DINF) : ∃ r, D.add (sgD s m) i = some r ∧ MgD r (faddD m i) := by
  have a1 := fadd_monoD (x := 0) (y := i) (x' := m) (y' := i) (by omega) (Nat.le_refl _) (Nat.le_of_lt hm) (Nat.le_of_lt hi)
  rw [fadd_zeroD (nnB_iffD.2 (Nat.le_of_lt hi))] at a1
  have e0 := add_eqD (nnB_iffD.2 (Nat.le_of_lt hm)) (nnB_iffD.2 (Nat.le_of_lt hi))
  cases s
  · exact ⟨_, by rw [show sgD false m = m from Nat.zero_add m]; exact e0.1, false, _, (Nat.zero_add _).symm, Nat.le_refl _⟩
  · obtain ⟨M, e, h1, h2⟩ := read_sgD (s := true) hm
    obtain ⟨N, f, h3, _⟩ := read_sgD (s := false) hi
    have a2 : m ≤ faddD m i := by
      have a3 := fadd_monoD (x := 0) (y := m) (x' := i) (y' := m) (by omega) (Nat.le_refl _) (Nat.le_of_lt hi) (Nat.le_of_lt hm)
      rw [fadd_zeroD (nnB_iffD.2 (Nat.le_of_lt hm)), fadd_valD hi hm, Nat.add_comm, ← fadd_valD hm hi] at a3
      exact a3
    have hs : D.add (sgD true m) i = D.sub i m := by
      unfold Format.add Format.sub
      rw [h1, h2, h3, sum_comm _ _ ⟨_, _, _, rfl⟩ ⟨_, _, _, rfl⟩]
      rfl
    rw [hs]
    by_cases hc : m ≤ i
    · exact ⟨_, (fsub_valD hi hc).1, false, _, (Nat.zero_add _).symm, Nat.le_trans (fsub_leD hi hc) a1⟩
    · exact ⟨_, sub_negD hm (by omega), true, _, rfl, Nat.le_trans (fsub_leD hm (by omega)) a2⟩
/-- The series, after j of its fifteen steps, that the square of the quotient begins. -/
def lc (m : Nat) : Nat := fdivD 4607182418800017408 (floatOfInt .f64 (2 * (m : Int) + 1))
def lS (v : Nat) : Nat → Nat
  | 0 => 0
  | j + 1 => faddD (lc (14 - j)) (fmulD v (lS v j))
def lB : Nat → Nat
  | 0 => 0
  | j + 1 => faddD 4607182418800017408 (lB j)
theorem lB_all : ((List.range 16).all fun j => decide (lB j < DINF)) = true := by decide +kernel
theorem lB_fin {j : Nat} (h : j ≤ 15) : lB j < DINF := by
  have := List.all_eq_true.1 lB_all j (List.mem_range.2 (by omega))
  exact of_decide_eq_true this
theorem lc_all : ((List.range 15).all fun m => D.div 4607182418800017408 (floatOfInt .f64 (2 * (m : Int) + 1)) == some (lc m) && decide (lc m ≤ 4607182418800017408)) = true := by decide +kernel
theorem lc_one {m : Nat} (h : m ≤ 14) : D.div 4607182418800017408 (floatOfInt .f64 (2 * (m : Int) + 1)) = some (lc m) ∧ lc m ≤ 4607182418800017408 := by
  have := List.all_eq_true.1 lc_all m (List.mem_range.2 (by omega))
  simp only [Bool.and_eq_true, decide_eq_true_eq, beq_iff_eq] at this
  exact this
theorem one_fin : (4607182418800017408 : Nat) < DINF := by decide
theorem lS_le {v : Nat} (hv : v ≤ 4607182418800017408) : ∀ j, j ≤ 15 → lS v j ≤ lB j
  | 0, _ => Nat.le_refl _
  | j + 1, h => by
    have ih := lS_le hv j (by omega)
    have hj := lB_fin (j := j) (by omega)
    have h1 : fmulD v (lS v j) ≤ lB j := Nat.le_trans (fmul_leD hv (Nat.lt_of_le_of_lt ih hj)) ih
    exact fadd_monoD (lc_one (m := 14 - j) (by omega)).2 h1 (Nat.le_of_lt one_fin) (Nat.le_of_lt hj)
theorem lS_step {v : Nat} (hv : v ≤ 4607182418800017408) {j : Nat} (h : j < 15) : D.mul v (lS v j) = some (fmulD v (lS v j)) ∧ D.add (lc (14 - j)) (fmulD v (lS v j)) = some (lS v (j + 1)) := by
  have hj := lB_fin (j := j) (by omega)
  have ih := lS_le hv j (by omega)
  have hs := Nat.lt_of_le_of_lt ih hj
  have hvf := Nat.lt_of_le_of_lt hv one_fin
  have hm := mul_eqD (amtB_iffD.2 hvf) (amtB_iffD.2 hs)
  have hc := (lc_one (m := 14 - j) (by omega)).2
  exact ⟨hm.1, (add_eqD (nnB_iffD.2 (Nat.le_of_lt (Nat.lt_of_le_of_lt hc one_fin))) hm.2).1⟩
def dW (k : Int) : Nat := floatOfInt .f64 k
theorem dW_all : ((List.range 301).all fun j => (let k : Int := (j : Int) - 150; (dW k == sgD (decide (k < 0)) (dW (k.natAbs : Int))) && decide (dW (k.natAbs : Int) ≤ dW 150) && (D.add (dW k) 4607182418800017408 == some (dW (k + 1))) && (D.sub (dW k) 4607182418800017408 == some (dW (k - 1))))) = true := by decide +kernel
structure LoudF (z e a b u v g h i tw x y r : Nat) : Prop where
  ha : D.sub z 4607182418800017408 = some a
  hb : D.add z 4607182418800017408 = some b
  hu : D.div a b = some u
  hv : D.mul u u = some v
  hv1 : v ≤ 4607182418800017408
  hg : D.mul 4611686018427387904 u = some g
  hh : D.mul g (lS v 15) = some h
  hi : D.div h 4604418534313441775 = some i
  ht : D.add e i = some tw
  hx : D.mul tw 4599094494223104511 = some x
  hy : D.mul 4621819117588971520 x = some y
  hr : floatToFloatBits .f64 y .f32 = some r
  hf : r < 4294967296 ∧ finB r = true
theorem bounds_l : (fmulD 4611686018427387904 4607182418800017408 < DINF) ∧ (fmulD (fmulD 4611686018427387904 4607182418800017408) (lB 15) < DINF) ∧ valD (fmulD (fmulD 4611686018427387904 4607182418800017408) (lB 15)) ≤ valD 4604418534313441775 * 2 ^ 6 ∧ (4634204016564240384 : Nat) < DINF ∧ valD 4634204016564240384 = 2 ^ (VONED + 6) ∧ faddD (dW 150) 4634204016564240384 < DINF ∧
    fmulD (faddD (dW 150) 4634204016564240384) 4599094494223104511 < DINF ∧ fmulD 4621819117588971520 (fmulD (faddD (dW 150) 4634204016564240384) 4599094494223104511) ≤ wid FM := by decide +kernel
theorem loud_f {z : Nat} (h1 : 4607182418800017408 ≤ z) (h2 : z < 4611686018427387904) {k : Int} (hk : -150 ≤ k ∧ k ≤ 150) : ∃ a b u v g h i tw x y r, LoudF z (dW k) a b u v g h i tw x y r := by
  have hz : z < DINF := by rw [DINF_val]; omega
  have hD := DINF_val
  obtain ⟨w1, w2, w3, w4, w5, w6, w7, w8⟩ := bounds_l
  obtain ⟨sa, _⟩ := fsub_valD hz h1
  have la := fsub_leD hz h1
  have sb := (add_eqD (x := z) (y := 4607182418800017408) (nnB_iffD.2 (Nat.le_of_lt hz)) (nnB_iffD.2 (by omega))).1
  have lb1 := fadd_monoD (x := z) (y := 0) (x' := z) (y' := 4607182418800017408) (Nat.le_refl _) (by omega) (Nat.le_of_lt hz) (by omega)
  have lb2 := fadd_monoD (x := z) (y := 4607182418800017408) (x' := 4611686018427387904) (y' := 4607182418800017408) (by omega) (Nat.le_refl _) (by omega) (by omega)
  have lz : faddD z 0 = z := by rw [fadd_valD hz (by omega), Nat.add_comm, ← fadd_valD (by omega) hz, fadd_zeroD (nnB_iffD.2 (Nat.le_of_lt hz))]
  rw [lz] at lb1
  have l3 : faddD 4611686018427387904 4607182418800017408 < DINF := by decide +kernel
  generalize fsubD z 4607182418800017408 = a at sa la
  generalize faddD z 4607182418800017408 = b at sb lb1 lb2
  obtain ⟨su, lu⟩ := quo_leD (x := a) (y := b) (W := 4607182418800017408) (t := 0) (by omega) (by omega) (by omega) one_fin (by rw [Nat.add_zero]; exact val_ONED) (by rw [Nat.pow_zero, Nat.mul_one]; exact val_leD (Nat.le_trans la lb1))
  generalize fdivD a b = u at su lu
  have uf := Nat.lt_of_le_of_lt lu one_fin
  obtain ⟨sv, nv⟩ := mul_eqD (x := u) (y := u) (amtB_iffD.2 uf) (amtB_iffD.2 uf)
  have lv : fmulD u u ≤ 4607182418800017408 := Nat.le_trans (fmul_leD lu uf) lu
  generalize fmulD u u = v at sv nv lv
  have g1 := (mul_eqD (x := 4611686018427387904) (y := u) (amtB_iffD.2 (by omega)) (amtB_iffD.2 uf)).1
  have lg := fmul_mono2D (m := 4611686018427387904) (n := u) (b := 4611686018427387904) (c := 4607182418800017408) (Nat.le_refl _) lu (by omega) one_fin
  generalize fmulD 4611686018427387904 u = g at g1 lg
  have ls := lS_le lv 15 (Nat.le_refl _)
  have l15 := lB_fin (j := 15) (Nat.le_refl _)
  have sf := Nat.lt_of_le_of_lt ls l15
  have gf := Nat.lt_of_le_of_lt lg w1
  have hh1 := (mul_eqD (x := g) (y := lS v 15) (amtB_iffD.2 gf) (amtB_iffD.2 sf)).1
  have lh := fmul_mono2D (m := g) (n := lS v 15) lg ls w1 l15
  generalize fmulD g (lS v 15) = h at hh1 lh
  have hf := Nat.lt_of_le_of_lt lh w2
  obtain ⟨si, li⟩ := quo_leD (x := h) (y := 4604418534313441775) (W := 4634204016564240384) (t := 6) hf (by omega) (by decide) w4 w5 (Nat.le_trans (val_leD lh) w3)
  generalize fdivD h 4604418534313441775 = i at si li
  have hkk := List.all_eq_true.1 dW_all (k + 150).toNat (List.mem_range.2 (by omega))
  rw [show (((k + 150).toNat : Nat) : Int) - 150 = k by omega] at hkk
  simp only [Bool.and_eq_true, decide_eq_true_eq, beq_iff_eq] at hkk
  obtain ⟨⟨⟨k1, k2⟩, _⟩, _⟩ := hkk
  have d150 : dW 150 < DINF := by decide +kernel
  have iF := Nat.lt_of_le_of_lt li w4
  obtain ⟨tw, t1, t2⟩ := add_sgD (s := decide (k < 0)) (m := dW (k.natAbs : Int)) (i := i) (Nat.lt_of_le_of_lt k2 d150) iF
  rw [← k1] at t1
  have t3 := t2.mono (fadd_monoD k2 li (Nat.le_of_lt d150) (Nat.le_of_lt w4))
  obtain ⟨x, x1, x2⟩ := t3.mul (Y := 4599094494223104511) (c := 4599094494223104511) ⟨false, _, (Nat.zero_add _).symm, Nat.le_refl _⟩ w6 (by omega)
  obtain ⟨y, y1, y2⟩ := MgD.mul (X := 4621819117588971520) (b := 4621819117588971520) ⟨false, _, (Nat.zero_add _).symm, Nat.le_refl _⟩ x2 (by omega) w7
  obtain ⟨s, n, rfl, hn⟩ := y2
  obtain ⟨c1, c2⟩ := narr_sgw (s := s) (Nat.le_trans hn w8)
  exact ⟨a, b, u, v, g, h, i, tw, x, _, _, sa, sb, su, sv, lv, g1, hh1, si, t1, x1, y1, c1, sgS_fin c2⟩
end Go.Fl
namespace Go.Fl
open Ieee Go Go.RowKit
theorem dbl2 {s : Nat} (h : 4503599627370496 ≤ s) (h2 : s + 4503599627370496 < DINF) : D.mul 4611686018427387904 s = some (s + 4503599627370496) := by
  have h1 := dbl h h2
  have hs : s < DINF := by omega
  have ht : (4611686018427387904 : Nat) < DINF := by decide
  rw [(mul_eqD (amtB_iffD.2 hs) (amtB_iffD.2 ht)).1] at h1
  rw [(mul_eqD (amtB_iffD.2 ht) (amtB_iffD.2 hs)).1, fmul_valD ht hs, Nat.mul_comm, ← fmul_valD hs ht]
  exact h1
theorem dW_one {k : Int} (h : -150 ≤ k ∧ k ≤ 150) : D.add (dW k) 4607182418800017408 = some (dW (k + 1)) ∧ D.sub (dW k) 4607182418800017408 = some (dW (k - 1)) := by
  have hkk := List.all_eq_true.1 dW_all (k + 150).toNat (List.mem_range.2 (by omega))
  rw [show (((k + 150).toNat : Nat) : Int) - 150 = k by omega] at hkk
  simp only [Bool.and_eq_true, decide_eq_true_eq, beq_iff_eq] at hkk
  exact ⟨hkk.1.2, hkk.2⟩
theorem wid_ends : wid 1 = 3936146074321813504 ∧ wid FM < 5183643171103440896 := by decide +kernel
theorem wid_range {p : Nat} (h : amtB p = true) (h0 : p ≠ 0) : 3936146074321813504 ≤ wid p ∧ wid p < 5183643171103440896 := by
  have hp := amtB_iff.1 h
  have hI := INF_val
  have a := wid_le (x := 1) (y := p) (by omega) hp
  have b := wid_le (x := p) (y := FM) (by unfold FM; omega) FM_lt
  have e := wid_ends
  omega
theorem geD {x y : Nat} (hx : x < DINF) (hy : y < DINF) : (D.order x y == some .gt || D.order x y == some .eq) = decide (y ≤ x) := by
  rw [order_ltD hx hy]
  rcases Nat.lt_trichotomy x y with h | h | h
  · rw [Nat.compare_eq_lt.2 h, decide_eq_false (by omega)]; rfl
  · rw [Nat.compare_eq_eq.2 h, decide_eq_true (by omega)]; rfl
  · rw [Nat.compare_eq_gt.2 h, decide_eq_true (by omega)]; rfl
theorem ltD {x y : Nat} (hx : x < DINF) (hy : y < DINF) : (D.order x y == some .lt) = decide (x < y) := by
  rw [order_ltD hx hy]
  rcases Nat.lt_trichotomy x y with h | h | h
  · rw [Nat.compare_eq_lt.2 h, decide_eq_true h]; rfl
  · rw [Nat.compare_eq_eq.2 h, decide_eq_false (by omega)]; rfl
  · rw [Nat.compare_eq_gt.2 h, decide_eq_false (by omega)]; rfl
end Go.Fl
/- Quotients of doubles between bounds; the eighth and the eightfold; differences, monotone. No program. -/
namespace Go.Fl
open Ieee Go Go.RowKit
theorem quo_repD {x y : Nat} (hx : x < DINF) (hy : y < DINF) (h0 : y ≠ 0) : ∃ m k1 n k2, valD x = m * 2 ^ k1 ∧ valD y = n * 2 ^ k2 ∧ 0 < n ∧ (m ≠ 0 → n * 9007199254740992 < m * 2 ^ (54 + n.log2 - m.log2)) ∧ D.div x y = some (fdivD x y) ∧
    fdivD x y = D.nearest false (2 * ((m * 2 ^ (54 + n.log2 - m.log2)) / n) + ((m * 2 ^ (54 + n.log2 - m.log2)) % n != 0).toNat) (-1074 + (((VONED + k1 : Nat) : Int) - ((k2 + (54 + n.log2 - m.log2) + 1 : Nat) : Int))) := by
  obtain ⟨m, k1, h1, v1, w1, b1, c1⟩ := read_repD hx
  obtain ⟨n, k2, h2, v2, w2, b2, c2⟩ := read_repD hy
  have hn : 0 < n := by
    rcases Nat.eq_zero_or_pos n with rfl | hp
    · exfalso
      rcases c2 with rfl | c2
      · exact h0 (by omega)
      · omega
    · exact hp
  have ed : D.div x y = some (D.nearest false (2 * ((m * 2 ^ (54 + n.log2 - m.log2)) / n) + ((m * 2 ^ (54 + n.log2 - m.log2)) % n != 0).toNat) (-1074 + (k1 : Int) - (-1074 + (k2 : Int)) - (54 + n.log2 - m.log2 : Nat) - 1)) := by
    unfold Format.div
    rw [h1, h2]
    simp only [Datum.quotient]
    rw [if_neg (by omega), fb_D]
    simp only [Option.map_some, Nat.shiftLeft_eq]
    rfl
  have e : fdivD x y = D.nearest false (2 * ((m * 2 ^ (54 + n.log2 - m.log2)) / n) + ((m * 2 ^ (54 + n.log2 - m.log2)) % n != 0).toNat) (-1074 + (k1 : Int) - (-1074 + (k2 : Int)) - (54 + n.log2 - m.log2 : Nat) - 1) := by
    unfold fdivD
    rw [ed]
    rfl
  refine ⟨m, k1, n, k2, v1, v2, hn, fun hm => ?_, by rw [e]; exact ed, ?_⟩
  · have hm24 : m.log2 < 53 := (Nat.log2_lt hm).2 (by omega)
    have hl := Nat.log2_self_le hm
    have hn1 : n < 2 ^ (n.log2 + 1) := Nat.lt_log2_self
    calc n * 9007199254740992 < 2 ^ (n.log2 + 1) * 2 ^ 53 := by
          rw [show (2 : Nat) ^ 53 = 9007199254740992 by decide]
          exact Nat.mul_lt_mul_of_pos_right hn1 (by decide)
      _ = 2 ^ (n.log2 + 1 + 53) := (Nat.pow_add 2 _ _).symm
      _ ≤ 2 ^ (m.log2 + (54 + n.log2 - m.log2)) := Nat.pow_le_pow_right (by decide) (by omega)
      _ = 2 ^ m.log2 * 2 ^ (54 + n.log2 - m.log2) := Nat.pow_add _ _ _
      _ ≤ _ := Nat.mul_le_mul_right _ hl
  · rw [e]
    congr 1
    generalize 54 + n.log2 - m.log2 = more
    have := VONED_val
    omega
theorem tb_le (b : Bool) : b.toNat ≤ 1 := by cases b <;> decide
theorem fdiv_le {x y z : Nat} (hx : x < DINF) (hy : y < DINF) (h0 : y ≠ 0) (hz : z < DINF) (h : valD x * 2 ^ VONED ≤ valD y * valD z) : fdivD x y ≤ z := by
  obtain ⟨m, k1, n, k2, v1, v2, hn, hbig, _, e⟩ := quo_repD hx hy h0
  obtain ⟨Mz, tz, _, vz, _, bz, _⟩ := read_repD hz
  rw [e]
  generalize 54 + n.log2 - m.log2 = more at *
  generalize VONED = vo at *
  refine nearest_le_wordD hz (vo + k1) (k2 + more + 1) rfl ?_
  rw [v1, v2, vz] at h
  rw [vz]
  by_cases hm : m = 0
  · subst hm
    rw [Nat.zero_mul, Nat.zero_div, Nat.zero_mod, Nat.mul_zero, show ((0 : Nat) != 0).toNat = 0 from rfl, Nat.zero_add, Nat.zero_mul]
    exact Nat.zero_le _
  have hD := hbig hm
  have h1 : m * 2 ^ more * 2 ^ (vo + k1) ≤ n * (Mz * 2 ^ tz * 2 ^ (k2 + more)) := by
    calc m * 2 ^ more * 2 ^ (vo + k1) = m * 2 ^ k1 * 2 ^ vo * 2 ^ more := by rw [Nat.pow_add]; ac_rfl
      _ ≤ n * 2 ^ k2 * (Mz * 2 ^ tz) * 2 ^ more := Nat.mul_le_mul_right _ h
      _ = _ := by rw [Nat.pow_add]; ac_rfl
  generalize vo + k1 = U at *
  rw [show k2 + more + 1 = (k2 + more) + 1 from rfl, Nat.pow_succ]
  generalize k2 + more = Q at *
  generalize m * 2 ^ more = X at *
  by_cases hU : U ≤ Q + tz
  · obtain ⟨t, ht⟩ : ∃ t, Q + tz = U + t := ⟨Q + tz - U, by omega⟩
    have hZ : Mz * 2 ^ tz * 2 ^ Q = Mz * 2 ^ t * 2 ^ U := by
      rw [Nat.mul_assoc, ← Nat.pow_add, Nat.add_comm tz Q, ht, Nat.pow_add]; ac_rfl
    rw [← Nat.mul_assoc, hZ]
    rw [hZ, ← Nat.mul_assoc] at h1
    have h2 : X ≤ n * (Mz * 2 ^ t) := Nat.le_of_mul_le_mul_right h1 (Nat.two_pow_pos _)
    generalize Mz * 2 ^ t = V at *
    rw [Nat.mul_right_comm]
    refine Nat.mul_le_mul_right _ ?_
    have e2 := Nat.div_add_mod X n
    by_cases hr : X % n = 0
    · have : X / n ≤ V := Nat.le_of_mul_le_mul_left (c := n) (by omega) hn
      simp [hr]; omega
    · have : X / n < V := Nat.lt_of_mul_lt_mul_left (a := n) (by omega)
      have := tb_le (X % n != 0)
      omega
  · exfalso
    obtain ⟨t, ht⟩ : ∃ t, U = Q + tz + t := ⟨U - (Q + tz), by omega⟩
    rw [ht, show Mz * 2 ^ tz * 2 ^ Q = Mz * 2 ^ (Q + tz) by rw [Nat.pow_add]; ac_rfl, ← Nat.mul_assoc, Nat.pow_add 2 (Q + tz) t, ← Nat.mul_assoc, Nat.mul_right_comm] at h1
    have h2 : X * 2 ^ t ≤ n * Mz := Nat.le_of_mul_le_mul_right h1 (Nat.two_pow_pos _)
    have h3 : X ≤ X * 2 ^ t := Nat.le_mul_of_pos_right _ (Nat.two_pow_pos _)
    have h4 : n * Mz ≤ n * 9007199254740992 := Nat.mul_le_mul_left _ (by omega)
    omega
theorem le_fdiv {x y z : Nat} (hx : x < DINF) (hy : y < DINF) (h0 : y ≠ 0) (hz : z < DINF) (h : valD y * valD z ≤ valD x * 2 ^ VONED) : z ≤ fdivD x y := by
  obtain ⟨m, k1, n, k2, v1, v2, hn, hbig, _, e⟩ := quo_repD hx hy h0
  obtain ⟨Mz, tz, _, vz, _, bz, _⟩ := read_repD hz
  rw [e]
  generalize 54 + n.log2 - m.log2 = more at *
  generalize VONED = vo at *
  refine word_le_nearestD hz (vo + k1) (k2 + more + 1) rfl ?_
  rw [v1, v2, vz] at h
  rw [vz]
  have h1 : n * (Mz * 2 ^ tz * 2 ^ (k2 + more)) ≤ m * 2 ^ more * 2 ^ (vo + k1) := by
    calc n * (Mz * 2 ^ tz * 2 ^ (k2 + more)) = n * 2 ^ k2 * (Mz * 2 ^ tz) * 2 ^ more := by rw [Nat.pow_add]; ac_rfl
      _ ≤ m * 2 ^ k1 * 2 ^ vo * 2 ^ more := Nat.mul_le_mul_right _ h
      _ = _ := by rw [Nat.pow_add]; ac_rfl
  by_cases hm : m = 0
  · subst hm
    have h5 : n * (Mz * 2 ^ tz * 2 ^ (k2 + more)) = 0 := by
      have : 0 * 2 ^ more * 2 ^ (vo + k1) = 0 := by rw [Nat.zero_mul, Nat.zero_mul]
      omega
    have h6 : Mz * 2 ^ tz * 2 ^ (k2 + more) = 0 := by
      rcases Nat.mul_eq_zero.1 h5 with h | h
      · omega
      · exact h
    have h7 : Mz * 2 ^ tz = 0 := by
      rcases Nat.mul_eq_zero.1 h6 with h | h
      · exact h
      · have := Nat.two_pow_pos (k2 + more); omega
    rw [h7, Nat.zero_mul]
    exact Nat.zero_le _
  have hD := hbig hm
  generalize vo + k1 = U at *
  rw [show k2 + more + 1 = (k2 + more) + 1 from rfl, Nat.pow_succ]
  generalize k2 + more = Q at *
  generalize m * 2 ^ more = X at *
  have e2 := Nat.div_add_mod X n
  have e3 := Nat.mod_lt X hn
  by_cases hU : U ≤ Q + tz
  · obtain ⟨t, ht⟩ : ∃ t, Q + tz = U + t := ⟨Q + tz - U, by omega⟩
    have hZ : Mz * 2 ^ tz * 2 ^ Q = Mz * 2 ^ t * 2 ^ U := by
      rw [Nat.mul_assoc, ← Nat.pow_add, Nat.add_comm tz Q, ht, Nat.pow_add]; ac_rfl
    rw [← Nat.mul_assoc, hZ]
    rw [hZ, ← Nat.mul_assoc] at h1
    have h2 : n * (Mz * 2 ^ t) ≤ X := Nat.le_of_mul_le_mul_right h1 (Nat.two_pow_pos _)
    generalize Mz * 2 ^ t = V at *
    rw [Nat.mul_right_comm]
    refine Nat.mul_le_mul_right _ ?_
    have : V ≤ X / n := (Nat.le_div_iff_mul_le hn).2 (by rw [Nat.mul_comm]; exact h2)
    omega
  · obtain ⟨t, ht⟩ : ∃ t, U = Q + tz + t := ⟨U - (Q + tz), by omega⟩
    have h8 : 9007199254740992 ≤ X / n := (Nat.le_div_iff_mul_le hn).2 (by rw [Nat.mul_comm]; omega)
    have h9 : Mz * 2 ^ tz * (2 ^ Q * 2) = 2 * Mz * 2 ^ (Q + tz) := by rw [Nat.pow_add]; ac_rfl
    rw [h9, ht, Nat.pow_add 2 (Q + tz) t, Nat.mul_comm (2 ^ (Q + tz)) (2 ^ t), ← Nat.mul_assoc]
    refine Nat.mul_le_mul_right _ ?_
    have h10 : 2 * (X / n) + (X % n != 0).toNat ≤ (2 * (X / n) + (X % n != 0).toNat) * 2 ^ t := Nat.le_mul_of_pos_right _ (Nat.two_pow_pos _)
    omega
theorem div_someD {x y : Nat} (hx : x < DINF) (hy : y < DINF) (h0 : y ≠ 0) : D.div x y = some (fdivD x y) := by
  obtain ⟨_, _, _, _, _, _, _, _, h, _⟩ := quo_repD hx hy h0
  exact h
theorem fsub_monoD {x x' y y' : Nat} (hx' : x' < DINF) (h1 : x ≤ x') (h2 : y' ≤ y) (h3 : y ≤ x) : fsubD x y ≤ fsubD x' y' := by
  rw [(fsub_valD (by omega) h3).2, (fsub_valD hx' (by omega)).2]
  refine nearest_monoD 0 0 rfl ?_
  have a := val_leD h1
  have b := val_leD h2
  rw [Nat.pow_zero, Nat.mul_one, Nat.mul_one]
  omega
/-! The eighth, the eightfold. -/
theorem read_8 : D.read 4620693217682128896 = .number false 4503599627370496 (-49) := by decide +kernel
theorem val_8 : valD 4620693217682128896 = 2 ^ VONED * 8 := by decide +kernel
theorem eightfold {s : Nat} (h : 4503599627370496 ≤ s) (h2 : s + 13510798882111488 < DINF) : D.mul s 4620693217682128896 = some (s + 13510798882111488) := by
  obtain ⟨m1, m2⟩ := mul_eqD (x := s) (y := 4620693217682128896) (amtB_iffD.2 (by omega)) (by decide)
  have hv : valD (s + 13510798882111488) = valD s * 8 := by
    have a := val_up h
    have b := val_up (s := s + 4503599627370496) (by omega)
    have c := val_up (s := s + 4503599627370496 + 4503599627370496) (by omega)
    rw [show s + 13510798882111488 = s + 4503599627370496 + 4503599627370496 + 4503599627370496 by omega, c, b, a]
    omega
  rw [m1, fmul_valD (by omega) (by rw [DINF_val]; decide)]
  refine congrArg some (Eq.trans (nearest_congrD (m' := valD (s + 13510798882111488)) (E := -1074) (E' := 0) 0 VONED (by have := VONED_val; omega) ?_) (nearest_valD h2))
  rw [hv, val_8, Nat.pow_zero, Nat.mul_one, Nat.mul_comm (2 ^ VONED) 8, ← Nat.mul_assoc]
theorem eighth {s : Nat} (h : 18014398509481984 ≤ s) (h2 : s < DINF) : D.div s 4620693217682128896 = some (s - 13510798882111488) := by
  obtain ⟨M, t, h1, hv, hy, hM, ht⟩ := read_repD h2
  have hM2 : 4503599627370496 ≤ M := by omega
  have ht1 : 3 ≤ t := by omega
  have hl : M.log2 = 52 := by
    have a : M.log2 < 53 := (Nat.log2_lt (by omega)).2 (by omega)
    have b : 52 ≤ M.log2 := (Nat.le_log2 (by omega)).2 (by omega)
    omega
  unfold Format.div
  rw [h1, read_8]
  simp only [Datum.quotient]
  rw [if_neg (by decide), hl, fb_D, show Nat.log2 4503599627370496 = 52 by decide +kernel, show 52 + 2 + 52 - 52 = 54 by decide, Nat.shiftLeft_eq]
  have e1 : M * 2 ^ 54 = 4503599627370496 * (M * 4) := by rw [show (2 : Nat) ^ 54 = 4503599627370496 * 4 by decide]; omega
  rw [e1, Nat.mul_div_cancel_left _ (by decide), Nat.mul_mod_right]
  simp only [bne_self_eq_false, Bool.toNat_false, Nat.add_zero, Option.map_some]
  have h3 : s - 13510798882111488 < DINF := by omega
  have hvs : valD (s - 13510798882111488) = M * 2 ^ (t - 3) := by
    unfold valD
    rw [if_neg (by omega), show (s - 13510798882111488) % 4503599627370496 = M - 4503599627370496 by omega, show (s - 13510798882111488) / 4503599627370496 - 1 = t - 3 by omega, show 4503599627370496 + (M - 4503599627370496) = M by omega]
  rw [show -1074 + (t : Int) - -49 - ((54 : Nat) : Int) - 1 = -1074 + ((t : Int) - 6) by omega]
  refine congrArg some (Eq.trans (nearest_congrD (m := 2 * (M * 4)) (m' := valD (s - 13510798882111488)) (E := (t : Int) - 6) (E' := 0) (t - 3) 3 (by omega) ?_) (nearest_valD h3))
  rw [hvs, show 2 * (M * 4) = M * 8 by omega, Nat.mul_assoc, Nat.mul_assoc, Nat.mul_comm 8]
end Go.Fl
