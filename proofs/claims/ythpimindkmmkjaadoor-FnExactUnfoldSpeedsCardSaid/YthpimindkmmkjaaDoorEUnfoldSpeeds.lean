import Derived.Test.YthpimindkmmkjaaDoorCUnfoldSpeeds
import Derived.Laws.FloatArith
import Derived.ProofKit
import Derived.WalkKit
import Derived.WalkLawsBesides
import Derived.WalkSpells
import Derived.Deep.QuietTactic
import Derived.BigQuiet
import Derived.Deep.RegionHeld3
import Derived.ChangeKeysEq
import Derived.Laws.BitsAllLaws
import Derived.Deep.MidRow
import Derived.Deep.WholeRow
import Derived.StillTailTactics
import Derived.Deep.Slices
import Derived.ChangeSame
import Derived.OrdersIn
import Derived.ControlIn
import Derived.RangeFuncSeq
import Derived.RangeFuncNested
import Derived.ArgAppend
import Derived.OwnWalkIn
import Derived.TacticsInMore
import Derived.Below
import Derived.Laws.AppendOwn
import Derived.Laws.ComplexArith
import Derived.Deep.Strs
import Derived.LaidEql
import Derived.Stop.Asserts
import Derived.RowKitTokens
import Derived.RangeFuncLeaves
import Derived.RangeFuncBox
import Derived.LoopNIn
import Derived.LoopIn
import Derived.Shelf.Abstract
import Derived.OpenShut
import Derived.Stop.LaidErr
import Derived.LaidMore
import Derived.Handed
import Derived.LaidHandle
import Derived.Stop.Joined
import Derived.MakeChecks
import Derived.Lib.SliceRun
import Derived.SevenTiedAt
/- What the law UnfoldSpeeds leans on, of no program: words of singles and doubles, blocks of memory, regions. -/
/- Cells of a map of echoes: two small numbers, a single, a number; slices of them that came in. No program. -/
namespace Go.Fl
open Ieee Go Go.RowKit Go.ChangeShapes
structure E4 where
  a : Int
  b : Int
  q : Nat
  s : Int
def e4 (c : E4) : List Value := [.int .i16 c.a, .int .i16 c.b, .float .f32 c.q, .int .i64 c.s]
def i16B (n : Int) : Prop := -32768 ≤ n ∧ n ≤ 32767
def E4.ok (c : E4) : Prop := c.q < 4294967296 ∧ i16B c.a ∧ i16B c.b
theorem E4.zero_ok : (⟨0, 0, 0, 0⟩ : E4).ok := ⟨Nat.zero_lt_succ _, by constructor <;> decide, by constructor <;> decide⟩
def Bef (c d : E4) : Prop := c.a < d.a ∨ (c.a = d.a ∧ c.b < d.b)
instance (c d : E4) : Decidable (Bef c d) := inferInstanceAs (Decidable (_ ∨ _))
/-- Reads as n cells. -/
def RdE (w : World) (v : Value) (n : Nat) (x : Nat → E4) : Prop := ∃ p cap, v = .slice p n cap ∧ (0 < n → ∃ b o, p = some ⟨b, o, none⟩ ∧ ∀ i, i < n → w.rangeAt b (o + i * 4) (e4 (x i)))
theorem range_cells {w : World} {b o : Nat} {c : E4} (h : w.rangeAt b o (e4 c)) :
    w.cell? ⟨b, o, none⟩ = some (.int .i16 c.a) ∧ w.cell? ⟨b, o + 1, none⟩ = some (.int .i16 c.b) ∧ w.cell? ⟨b, o + 2, none⟩ = some (.float .f32 c.q) ∧ w.cell? ⟨b, o + 3, none⟩ = some (.int .i64 c.s) :=
  ⟨h 0 _ rfl, h 1 _ rfl, h 2 _ rfl, h 3 _ rfl⟩
theorem range_of_cells {w : World} {b o : Nat} {c : E4} (h : w.cell? ⟨b, o, none⟩ = some (.int .i16 c.a) ∧ w.cell? ⟨b, o + 1, none⟩ = some (.int .i16 c.b) ∧ w.cell? ⟨b, o + 2, none⟩ = some (.float .f32 c.q) ∧ w.cell? ⟨b, o + 3, none⟩ = some (.int .i64 c.s)) :
    w.rangeAt b o (e4 c) := by
  obtain ⟨h0, h1, h2, h3⟩ := h
  intro j v hv
  match j, hv with
  | 0, hv => simp only [e4, List.getElem?_cons_zero, Option.some.injEq] at hv; subst hv; exact h0
  | 1, hv => simp only [e4, List.getElem?_cons_succ, List.getElem?_cons_zero, Option.some.injEq] at hv; subst hv; exact h1
  | 2, hv => simp only [e4, List.getElem?_cons_succ, List.getElem?_cons_zero, Option.some.injEq] at hv; subst hv; exact h2
  | 3, hv => simp only [e4, List.getElem?_cons_succ, List.getElem?_cons_zero, Option.some.injEq] at hv; subst hv; exact h3
  | j + 4, hv => simp [e4] at hv
theorem range_stay {w w' : World} {m b o : Nat} {c : E4} (h : w.rangeAt b o (e4 c)) (hm : m = w.heap.size) (hb : Below m w w') : w'.rangeAt b o (e4 c) := by
  subst hm
  refine range_of_cells ?_
  obtain ⟨h0, h1, h2, h3⟩ := range_cells h
  exact ⟨by rw [hb.cell (block_lt_of_cell h0)]; exact h0, by rw [hb.cell (block_lt_of_cell h1)]; exact h1, by rw [hb.cell (block_lt_of_cell h2)]; exact h2, by rw [hb.cell (block_lt_of_cell h3)]; exact h3⟩
theorem range_two {w : World} {b o : Nat} {c : E4} (h : w.rangeAt b o (e4 c)) : w.rangeAt b o [.int .i16 c.a, .int .i16 c.b] := by
  obtain ⟨h0, h1, _, _⟩ := range_cells h
  intro j v hv
  match j, hv with
  | 0, hv => simp only [List.getElem?_cons_zero, Option.some.injEq] at hv; subst hv; exact h0
  | 1, hv => simp only [List.getElem?_cons_succ, List.getElem?_cons_zero, Option.some.injEq] at hv; subst hv; exact h1
  | j + 2, hv => simp at hv
section
variable {H : Type} {enc : TypeId × Value → H} {P : Program} {w : World} {base : Nat} {spare : Nat → Bool} {held : Bool}
theorem trod_intK {t : TypeId} {k : IntKind} {fuel : Nat} {cs : List Value} {x : DataW H × List MemPlace} (ht : P.underlying t = some (.int k)) (h : DataW.trod enc P w base spare held fuel t cs = some x) : ∃ n, cs = [.int k n] ∧ (Lit.int k n).wf = true := by
  cases fuel with
  | zero => simp [DataW.trod] at h
  | succ n =>
    unfold DataW.trod at h
    rw [ht] at h
    split at h <;> simp_all
theorem wf_i16 {n : Int} (h : (Lit.int .i16 n).wf = true) : i16B n := by
  simpa [Lit.wf, IntKind.has, IntKind.min, IntKind.max, IntKind.signed, IntKind.bits, i16B] using h
theorem trod_array2 {t e : TypeId} {fuel : Nat} {c0 c1 : Value} {x : DataW H × List MemPlace} (ht : P.underlying t = some (.array 2 e)) (hce : P.cellsOf e = 1)
    (h : DataW.trod enc P w base spare held fuel t [c0, c1] = some x) :
    ∃ y0 y1 n, DataW.trod enc P w base spare held n e [c0] = some y0 ∧ DataW.trod enc P w base spare held n e [c1] = some y1 := by
  cases fuel with
  | zero => simp [DataW.trod] at h
  | succ n =>
    unfold DataW.trod at h
    rw [ht] at h
    have r2 : List.range 2 = [0, 1] := rfl
    simp [r2, hce] at h
    obtain ⟨_, h⟩ := h
    cases h0 : DataW.trod enc P w base spare held n e [c0] with
    | none => simp [h0] at h
    | some y0 =>
      cases h1 : DataW.trod enc P w base spare held n e [c1] with
      | none => simp [h0, h1] at h
      | some y1 => exact ⟨y0, y1, n, h0, h1⟩
theorem open_echo {t e f i16 i64 sp : TypeId} {f0 f1 f2 : Field} {v : Value} {d : DataW H} {p : List MemPlace} (ht : P.underlying t = some (.slice e)) (he : P.underlying e = some (.struct #[f0, f1, f2])) (hs : P.underlying sp = some (.array 2 i16)) (h16 : P.underlying i16 = some (.int .i16))
    (hf : P.underlying f = some (.float .f32)) (h64 : P.underlying i64 = some (.int .i64)) (e0 : f0.type = sp ∧ f0.offset = 0) (e1 : f1.type = f ∧ f1.offset = 2) (e2 : f2.type = i64 ∧ f2.offset = 3) (hC : P.cellsOf e = 4) (hS : P.cellsOf sp = 2) (h1 : P.cellsOf i16 = 1) (hF : P.cellsOf f = 1) (hI : P.cellsOf i64 = 1)
    (h : DataW.Trod enc P w base spare held t v d p) (hv : v.cells.toList = [v]) : ∃ n x, RdE w v n x ∧ n ≤ maxLen ∧ ∀ k, (x k).ok := by
  obtain ⟨fuel, h⟩ := h
  rw [hv] at h
  rcases Go.Deep.open_slice ht h with ⟨h0, _⟩ | ⟨ad, len, cap, m, n, D, Pl, hcs, _, hlc, hcm, hm, _, hel⟩
  · injection h0 with h0 _
    subst h0
    exact ⟨0, fun _ => ⟨0, 0, 0, 0⟩, ⟨none, 0, rfl, fun h => by omega⟩, Nat.zero_le _, fun _ => E4.zero_ok⟩
  · injection hcs with hcs _
    subst hcs
    have hlm : len ≤ m := by rw [hm]; split <;> omega
    have one : ∀ i, i < len → ∃ c : E4, (w.cell? (ad.add (i * 4)) = some (.int .i16 c.a) ∧ w.cell? (ad.add (i * 4 + 1)) = some (.int .i16 c.b) ∧ w.cell? (ad.add (i * 4 + 2)) = some (.float .f32 c.q) ∧ w.cell? (ad.add (i * 4 + 3)) = some (.int .i64 c.s)) ∧ c.ok := by
      intro i hi
      obtain ⟨cs', hc, ht'⟩ := hel i (by omega)
      rw [hC] at hc
      obtain ⟨_, hlen, hat⟩ := World.cells?_some hc
      obtain ⟨y0, y1, y2, n1, _, _, k0, k1, k2⟩ := Go.Deep.trod_struct3 he ht'
      rw [e0.1, e0.2, hS] at k0
      rw [e1.1, e1.2, hF] at k1
      rw [e2.1, e2.2, hI] at k2
      match cs', hlen with
      | [c0, c1, c2, c3], _ =>
        simp only [List.drop_zero, List.take_succ_cons, List.take_zero, List.drop_succ_cons] at k0 k1 k2
        obtain ⟨z0, z1, n2, l0, l1⟩ := trod_array2 hs h1 k0
        obtain ⟨q0, r0, s0⟩ := trod_intK h16 l0
        obtain ⟨q1, r1, s1⟩ := trod_intK h16 l1
        obtain ⟨q2, r2, s2⟩ := trod_f32 hf k1
        obtain ⟨q3, r3, _⟩ := trod_intK h64 k2
        simp only [List.cons.injEq, and_true] at r0 r1 r2 r3
        subst r0 r1 r2 r3
        have a0 := hat 0 (by omega)
        have a1 := hat 1 (by omega)
        have a2 := hat 2 (by omega)
        have a3 := hat 3 (by omega)
        simp only [Addr.add_add] at a0 a1 a2 a3
        exact ⟨⟨q0, q1, q2, q3⟩, ⟨by simpa using a0, by simpa using a1, by simpa using a2, by simpa using a3⟩, s2, wf_i16 s0, wf_i16 s1⟩
    obtain ⟨Q, hQ⟩ : ∃ Q : Nat → E4, ∀ i, i < len → (w.cell? (ad.add (i * 4)) = some (.int .i16 (Q i).a) ∧ w.cell? (ad.add (i * 4 + 1)) = some (.int .i16 (Q i).b) ∧ w.cell? (ad.add (i * 4 + 2)) = some (.float .f32 (Q i).q) ∧ w.cell? (ad.add (i * 4 + 3)) = some (.int .i64 (Q i).s)) ∧ (Q i).ok :=
      ⟨fun i => if hi : i < len then Classical.choose (one i hi) else ⟨0, 0, 0, 0⟩, fun i hi => by simp only [dif_pos hi]; exact Classical.choose_spec (one i hi)⟩
    refine ⟨len, fun k => if k < len then Q k else ⟨0, 0, 0, 0⟩, ⟨some ad, cap, rfl, fun hn => ?_⟩, Nat.le_trans hlc hcm, fun k => ?_⟩
    · have hsp : ad.spot = none := by
        have := (hQ 0 hn).1.1
        unfold World.cell? at this
        split at this
        · split at this
          · cases this
          · rename_i hs; simpa [Addr.add] using hs
        · cases this
      obtain ⟨b, o, sp⟩ := ad
      obtain rfl : sp = none := hsp
      refine ⟨b, o, rfl, fun i hi => ?_⟩
      have hq := (hQ i hi).1
      simp only [Addr.add_mid] at hq
      show w.rangeAt b (o + i * 4) (e4 (if i < len then Q i else ⟨0, 0, 0, 0⟩))
      rw [if_pos hi]
      simp only [← Nat.add_assoc] at hq
      exact range_of_cells hq
    · show (if k < len then Q k else ⟨0, 0, 0, 0⟩ : E4).ok
      split
      · rename_i hk; exact (hQ k hk).2
      · exact E4.zero_ok
end

/-- The first k cells of a block of n are those of x. -/
def LvE (cs : Array Value) (n k : Nat) (x : Nat → E4) : Prop := cs.size = 4 * n ∧ ∀ i, i < k → cs[i * 4]? = some (.int .i16 (x i).a) ∧ cs[i * 4 + 1]? = some (.int .i16 (x i).b) ∧ cs[i * 4 + 2]? = some (.float .f32 (x i).q) ∧ cs[i * 4 + 3]? = some (.int .i64 (x i).s)
theorem LvE.step {cs : Array Value} {n k : Nat} {x : Nat → E4} (h : LvE cs n k x) (hk : k < n) : LvE (putCells cs (k * 4) (e4 (x k))) n (k + 1) x := by
  have hs := h.1
  show LvE ((((cs.setIfInBounds (k * 4) _).setIfInBounds (k * 4 + 1) _).setIfInBounds (k * 4 + 1 + 1) _).setIfInBounds (k * 4 + 1 + 1 + 1) _) n (k + 1) x
  refine ⟨by simpa using hs, fun i hi => ?_⟩
  simp only [Array.getElem?_setIfInBounds, Array.size_setIfInBounds]
  by_cases he : i = k
  · subst he
    refine ⟨?_, ?_, ?_, ?_⟩
    · rw [if_neg (by omega), if_neg (by omega), if_neg (by omega), if_pos rfl, if_pos (by omega)]
    · rw [if_neg (by omega), if_neg (by omega), if_pos rfl, if_pos (by omega)]
    · rw [if_neg (by omega), if_pos (by omega), if_pos (by omega)]
    · rw [if_pos (by omega), if_pos (by omega)]
  · have := h.2 i (by omega)
    refine ⟨?_, ?_, ?_, ?_⟩
    · rw [if_neg (by omega), if_neg (by omega), if_neg (by omega), if_neg (by omega)]; exact this.1
    · rw [if_neg (by omega), if_neg (by omega), if_neg (by omega), if_neg (by omega)]; exact this.2.1
    · rw [if_neg (by omega), if_neg (by omega), if_neg (by omega), if_neg (by omega)]; exact this.2.2.1
    · rw [if_neg (by omega), if_neg (by omega), if_neg (by omega), if_neg (by omega)]; exact this.2.2.2
theorem LvE.rd {w w0 : World} {cs : Array Value} {n B : Nat} {T : TypeId} {x : Nat → E4} {l : List (Nat × Array Value × TypeId)} (h : LvE cs n n x) (k : Kept w0 l w) (hm : (B, cs, T) ∈ l) (cap : Nat) : RdE w (.slice (some ⟨B, 0, none⟩) n cap) n x := by
  have hb := k.at hm
  refine ⟨_, cap, rfl, fun _ => ⟨B, 0, rfl, fun i hi => range_of_cells ?_⟩⟩
  obtain ⟨h0, h1, h2, h3⟩ := h.2 i hi
  rw [Nat.zero_add]
  exact ⟨(cell_of_row w B _ _ _ _ hb).trans h0, (cell_of_row w B _ _ _ _ hb).trans h1, (cell_of_row w B _ _ _ _ hb).trans h2, (cell_of_row w B _ _ _ _ hb).trans h3⟩
theorem run_makeE {P : Program} {t e : TypeId} (ht : P.underlying t = some (.slice e)) (hi : (P.info? e).map (fun i => (i.zero, i.size, i.bytes)) = some (some (.agg #[.int .i16 0, .int .i16 0, .float .f32 0, .int .i64 0]), 4, 16)) {n : Nat} (hn : n ≤ 1048576) (w : World) :
    ∃ cs, LvE cs n 0 (fun _ => ⟨0, 0, 0, 0⟩) ∧ (Instr.makeSlice t (.int .i64 (n : Int)) (.int .i64 (n : Int))).run P w = .ok (.slice (some ⟨w.heap.size, 0, none⟩) n n) (w.alloc (.cells cs e)) := by
  obtain ⟨i, hi1, hi2⟩ := Option.map_eq_some_iff.1 hi
  injection hi2 with h2 hi3
  injection hi3 with h3 h4
  have h := run_make (P := P) w t e i _ ht hi1 h2 .i64 .i64 n n (by omega) (Int.le_refl _) (by rw [h4]; omega) (by omega)
  refine ⟨_, ⟨?_, fun i hi => absurd hi (Nat.not_lt_zero _)⟩, by rw [h, h3]; simp only [Int.toNat_natCast]; rfl⟩
  simp [madeCells]
  omega
section
variable {P : Program} {md : Region.Mode} {ops : Array Oper} {Q : Exit → Act → World → Prop} {S : World → Prop} {fuel : Nat} {listed : Array Bool} {a : Act} {w : World} {d : Option Tmp} {op : Op} {ty0 : TypeId} {ps : String} {af : Array Edge} {gd : Option (Nat × Bool)}
/-- An operation whose guard does not hold is passed. -/
theorem take_skip (i : Nat) (a' : Act) (listed' : Array Bool) (ho : ops[i]? = some ⟨d, op, ty0, ps, af, gd⟩) (hw : Region.wanted ⟨d, op, ty0, ps, af, gd⟩ (yielded ops a.tmps) = false)
    (hs : Region.noSelect ops = true) (hf : Region.free md ops listed i = true) (hr : (Region.ready md ops listed).contains i = true)
    (ha : a.put d undef = a') (hl : listed.setIfInBounds i true = listed') (hS : S w)
    (h : wpAnyH P md ops (NoPanic Q) S fuel listed' a' w) : wpAnyH P md ops (NoPanic Q) S (fuel + 1) listed a w := by
  subst ha hl
  exact wpAnyH_take ho hs hf hr (fun _ _ _ h => h) (.inr ⟨hw, rfl⟩) hS h
end
end Go.Fl
/- Slices whose elements have one cell; the words of noise. No program. -/
namespace Go.Fl
open Ieee Go Go.RowKit
/-- The first m cells are y. -/
def LvV (cs : Array Value) (m : Nat) (y : Nat → Value) : Prop := m ≤ cs.size ∧ ∀ k, k < m → cs[k]? = some (y k)
def upV (y : Nat → Value) (i : Nat) (a : Value) : Nat → Value := fun k => if k = i then a else y k
theorem LvV.set {cs : Array Value} {m : Nat} {y : Nat → Value} (h : LvV cs m y) (i : Nat) (a : Value) : LvV (cs.setIfInBounds i a) m (upV y i a) := by
  refine ⟨by simp [h.1], fun k hk => ?_⟩
  unfold upV
  by_cases e : k = i
  · subst e
    rw [if_pos rfl, Array.getElem?_setIfInBounds_self_of_lt (by have := h.1; omega)]
  · rw [if_neg e, Array.getElem?_setIfInBounds_ne (by omega)]
    exact h.2 k hk
theorem LvV.ext {cs : Array Value} {m : Nat} {y z : Nat → Value} (h : LvV cs m y) (e : ∀ k, k < m → y k = z k) : LvV cs m z := ⟨h.1, fun k hk => by rw [h.2 k hk, e k hk]⟩
def RdV (w : World) (v : Value) (n : Nat) (y : Nat → Value) : Prop := ∃ p cap, v = .slice p n cap ∧ (0 < n → ∃ b o, p = some ⟨b, o, none⟩ ∧ ∀ k, k < n → w.cell? ⟨b, o + k, none⟩ = some (y k))
section
variable {w0 w w' : World} {l : List (Nat × Array Value × TypeId)} {B : Nat} {cs : Array Value} {T : TypeId} {y : Nat → Value} {n m : Nat}
theorem LvV.cell (h : LvV cs m y) (hb : w.heap[B]? = some (.cells cs T (0, 0))) {k : Nat} (hk : k < m) : w.cell? ⟨B, k, none⟩ = some (y k) :=
  (cell_of_row w B k _ _ _ hb).trans (h.2 k hk)
theorem LvV.rd (h : LvV cs n y) (hb : w.heap[B]? = some (.cells cs T (0, 0))) (cap : Nat) : RdV w (.slice (some ⟨B, 0, none⟩) n cap) n y :=
  ⟨some ⟨B, 0, none⟩, cap, rfl, fun _ => ⟨B, 0, rfl, fun k hk => by rw [Nat.zero_add]; exact h.cell hb hk⟩⟩
theorem Kept.rdV (k : Kept w0 l w) (h : LvV cs n y) (hm : (B, cs, T) ∈ l) (cap : Nat) : RdV w (.slice (some ⟨B, 0, none⟩) n cap) n y := h.rd (k.at hm) cap
theorem RdV.zero (w : World) (p : Option Addr) (cap : Nat) (y : Nat → Value) : RdV w (.slice p 0 cap) 0 y := ⟨p, cap, rfl, fun h => absurd h (Nat.lt_irrefl _)⟩
theorem RdV.stay {v : Value} (h : RdV w v n y) (hb : Below w.heap.size w w') : RdV w' v n y := by
  obtain ⟨p, cap, rfl, hc⟩ := h
  refine ⟨p, cap, rfl, fun hn => ?_⟩
  obtain ⟨b, o, rfl, hr⟩ := hc hn
  exact ⟨b, o, rfl, fun k hk => by have h1 := hr k hk; rw [hb.cell (block_lt_of_cell h1)]; exact h1⟩
end
/-- Marks in place up to m, as before from there on. -/
def mrV (y f : Nat → Value) (m : Nat) : Nat → Value := fun j => if j < m then f j else y j
theorem mrV_zero (y f : Nat → Value) : mrV y f 0 = y := by funext j; simp [mrV]
theorem mrV_step (y f : Nat → Value) (m : Nat) : upV (mrV y f m) m (f m) = mrV y f (m + 1) := by
  funext j
  unfold mrV upV
  by_cases h : j = m
  · subst h; rw [if_pos rfl, if_pos (by omega)]
  · rw [if_neg h]
    by_cases h1 : j < m
    · show (if j < m then f j else y j) = _
      rw [if_pos h1, if_pos (by omega)]
    · show (if j < m then f j else y j) = _
      rw [if_neg h1, if_neg (by omega)]
section
variable {P : Program} {ops : Array Oper} {rest : List Oper} {o : Oper} {a : Act} {w w0 : World} {Q : Exit → Act → World → Prop} {l : List (Nat × Array Value × TypeId)} {T : TypeId} {cs : Array Value} {m : Nat} {y : Nat → Value}
/-- One element of a kept block, stored. -/
theorem store_lv1 (hgd : o.guard = none) (ty : TypeId) (x z : Operand) (ho : o.op = .store ty x z) (hi : (P.info? ty).map (·.size) = some 1) (B i : Nat) (v : Value) (hx : a.eval x = .pointer (some ⟨B, i, none⟩)) (hz : a.eval z = v) (h1 : v.oneCell' = true) (hs1 : v.cells = #[v])
    (k : Kept w0 ((B, cs, T) :: l) w) (h : LvV cs m y) (hm : i < m) (hB : w0.heap.size ≤ B) (hne : ∀ x ∈ l, x.1 ≠ B)
    (hn : ∀ w', Kept w0 ((B, cs.setIfInBounds i v, T) :: l) w' → LvV (cs.setIfInBounds i v) m (upV y i v) → wpList P ops Q rest (a.put o.dst undef) w') : wpList P ops Q (o :: rest) a w := by
  have hb := k.at (x := (B, cs, T)) (by simp)
  have hr := run_store_any (P := P) hi h1 hs1 (h.cell hb hm) (frozen_of_row w B i _ _ hb)
  refine wpList_plain hgd fun K hK' => ?_
  unfold Oper.wp
  simp [execOp, ho, Instr.storeAt, Instr.sureAddr, hx, hz, hr, Result.andThen]
  exact hK' _ _ (hn _ (k.lcell hB hne i _) (h.set i v))
def wdv (x : Nat → Value) (m : Nat) : List Value := (List.range m).map x
theorem wdv_get {x : Nat → Value} {m i : Nat} (h : i < m) : (wdv x m)[i]? = some (x i) := by simp [wdv, h]
theorem wdv_one (x : Nat → Value) (k : Nat) : wdv x k ++ [x k] = wdv x (k + 1) := by
  unfold wdv
  rw [List.range_succ]
  simp
theorem own_keptV {v : Value} {n : Nat} {x : Nat → Value} (hn : 0 < n) (h : w.ownsRow w0.heap.size T 1 v n (wdv x n)) (hb : Below w0.heap.size w0 w) :
    ∃ B cs cap, v = .slice (some ⟨B, 0, none⟩) n cap ∧ w0.heap.size ≤ B ∧ LvV cs n x ∧ Kept w0 [(B, cs, T)] w := by
  rcases h.2 with ⟨_, h0⟩ | ⟨g, cap, cur, e, hB, hg, hnc, hcm, hcs, ht⟩
  · omega
  · refine ⟨g, cur, cap, e, hB, ⟨?_, fun k hk => ?_⟩, ⟨hb, fun y hy => ?_⟩⟩
    · rw [hcs]; omega
    · have h1 : (cur.toList.take (n * 1))[k]? = some (x k) := by rw [ht]; exact wdv_get (by omega)
      rw [List.getElem?_take, if_pos (by omega), Array.getElem?_toList] at h1
      exact h1
    · simp only [List.mem_cons, List.not_mem_nil, or_false] at hy
      subst hy
      exact hg
/-- One element appended to a slice of one's own. -/
theorem append_one (hg : o.guard = none) (s y : Operand) (t : TypeId) (hop : o.op = Op.call { callee := Callee.builtin Builtin.append, args := #[s, y], argTypes := #[t, t] })
    (e : TypeId) (ht : P.underlying t = some (.slice e)) (z : Value) (by8 : Nat) (hzc : z.cells = #[z]) (h8 : 0 < by8 ∧ by8 ≤ 8) (hi : (P.info? e).map (fun i => (i.zero, i.size, i.bytes)) = some (some z, 1, by8))
    (v : Value) (k : Nat) (x : Nat → Value) (hs : a.eval s = v) (hown : w.ownsRow w0.heap.size e 1 v k (wdv x k)) (hb : Below w0.heap.size w0 w)
    (ad : Nat) (A : Value) (hA : x k = A) (h1c : A.oneCell' = true) (hx : a.eval y = .slice (some ⟨ad, 0, none⟩) 1 1) (hrow : w.heap[ad]? = some (.cells #[A] e (0, 0))) (hk : k ≤ 1048576)
    (h : ∀ v' w', w'.ownsRow w0.heap.size e 1 v' (k + 1) (wdv x (k + 1)) → Below w0.heap.size w0 w' → wpList P ops Q rest (a.put o.dst v') w') : wpList P ops Q (o :: rest) a w := by
  obtain ⟨i, hi1, hi2⟩ := Option.map_eq_some_iff.1 hi
  injection hi2 with hz hi3
  injection hi3 with hsize hby
  refine wpList_append_own w hg s y t hop w0.heap.size e i _ 1 by8 ht hi1 hz hsize hby (by rw [hzc]; rfl) (by omega) v k (wdv x k) hs hown ⟨ad, 0, none⟩ 1 1 [A] hx rfl (fun j u hj => ?_) (by simp [h1c]) (Nat.le_trans (show k + 1 ≤ 2097152 by omega) (by decide)) (by have := Nat.mul_le_mul (show k + 1 ≤ 1048577 by omega) h8.2; omega) hb.size (fun v' w' h1 h2 _ => h v' w' ?_ ?_)
  · rw [Addr.add_mid, cell_of_row w ad (0 + j) _ _ _ hrow, Nat.zero_add]
    rw [← hj, ← Array.getElem?_toList]
  · subst hA
    rw [wdv_one] at h1
    exact h1
  · exact hb.grown h2 hb.size fun g hgv => (hown.lt g hgv).1
theorem run_makeV {t e : TypeId} (ht : P.underlying t = some (.slice e)) (z : Value) (by8 : Nat) (hz : z.cells = #[z]) (h8 : by8 ≤ 8) (hi : (P.info? e).map (fun i => (i.zero, i.size, i.bytes)) = some (some z, 1, by8)) {n : Nat} (hn : n ≤ 1048576) (w : World) :
    ∃ cs, LvV cs n (fun _ => z) ∧ (Instr.makeSlice t (.int .i64 (n : Int)) (.int .i64 (n : Int))).run P w = .ok (.slice (some ⟨w.heap.size, 0, none⟩) n n) (w.alloc (.cells cs e)) := by
  obtain ⟨i, hi1, hi2⟩ := Option.map_eq_some_iff.1 hi
  injection hi2 with h2 hi3
  injection hi3 with h3 h4
  have h := run_make (P := P) w t e i _ ht hi1 h2 .i64 .i64 n n (by omega) (Int.le_refl _) (by rw [h4]; have := Nat.mul_le_mul h8 hn; omega) (by omega)
  refine ⟨_, ⟨?_, fun k hk => ?_⟩, by rw [h, h3]; simp only [Int.toNat_natCast]; rfl⟩
  · simp [madeCells]
  · simp [madeCells, hz, hk, Nat.mod_one]
end
/-! The words of noise. -/
def nzF (s : Int) : Nat := floatOfInt .f32 (s / 65536 - 32768)
def nzQ (s : Int) : Nat := sgnW (nzF s) (fdiv (mg (nzF s)) 1191182336)
def nzW (st : Nat) (s : Int) : Nat := sgnW (nzQ s) (fmul st (mg (nzQ s)))
theorem int_low {i : Int} (h : -32768 ≤ i ∧ i ≤ 32768) : floatOfInt .f32 i < 4294967296 ∧ mg (floatOfInt .f32 i) ≤ 1191182336 := by
  have e : floatOfInt .f32 i = sgS (decide (i < 0)) (iS i.natAbs) := by
    show S.write (.number (decide (i < 0)) i.natAbs 0) = _
    rw [write_signS]
    unfold sgS iS
    simp
  have hle : iS i.natAbs ≤ 1191182336 := by
    show S.nearest false i.natAbs (-149 + ((149 : Int))) ≤ 1191182336
    refine nearest_le_word (by decide) 149 0 (by omega) ?_
    have hv : val 1191182336 = 32768 * 2 ^ 149 := by decide +kernel
    rw [hv, Nat.pow_zero, Nat.mul_one]
    exact Nat.mul_le_mul_right _ (by omega)
  have hI : iS i.natAbs < INF := Nat.lt_of_le_of_lt hle (by decide)
  rw [e, mg_sgS hI]
  exact ⟨(sgS_fin hI).1, hle⟩
theorem noise_f {st : Nat} {s : Int} (hst : amtB st = true) (hs : 0 ≤ s ∧ s < 4294967296) : S.div (nzF s) 1191182336 = some (nzQ s) ∧ S.mul st (nzQ s) = some (nzW st s) ∧ nzW st s < 4294967296 ∧ finB (nzW st s) = true := by
  obtain ⟨l1, l2⟩ := int_low (i := s / 65536 - 32768) (by omega)
  have hm : mg (nzF s) < INF := Nat.lt_of_le_of_lt l2 (by decide)
  have hd := div_sgn (x := nzF s) (y := 1191182336) l1 hm (by decide) (by decide)
  have hq : fdiv (mg (nzF s)) 1191182336 ≤ 1065353216 := quo_le_one (by decide) (by decide) l2
  have hqi : fdiv (mg (nzF s)) 1191182336 < INF := Nat.lt_of_le_of_lt hq (by decide)
  obtain ⟨g1, g2⟩ := sgnW_mg (x := nzF s) (inf_small hqi)
  have hq2 : mg (nzQ s) ≤ 1065353216 := by show mg (sgnW _ _) ≤ _; rw [g1]; exact hq
  have hmul := mul_sgr (t := st) (y := nzQ s) g2 (Nat.lt_of_le_of_lt hq2 (by decide)) (amtB_iff.1 hst)
  have hle : fmul st (mg (nzQ s)) ≤ st := by
    rw [fmul_comm (amtB_iff.1 hst) (Nat.lt_of_le_of_lt hq2 (by decide))]
    exact fmul_le hq2 (amtB_iff.1 hst)
  have hli : fmul st (mg (nzQ s)) < INF := Nat.lt_of_le_of_lt hle (amtB_iff.1 hst)
  obtain ⟨k1, k2⟩ := sgnW_mg (x := nzQ s) (inf_small hli)
  exact ⟨hd, hmul, k2, finB_iff.2 (by show mg (sgnW _ _) < INF; rw [k1]; exact hli)⟩
/-- The next seed; the seed after k draws. -/
def nxN (s : Int) : Int := (1664525 * s % 4294967296 + 1013904223) % 4294967296
def sdN (s : Int) : Nat → Int
  | 0 => s
  | k + 1 => nxN (sdN s k)
theorem nxN_bnd (s : Int) : 0 ≤ nxN s ∧ nxN s < 4294967296 := by unfold nxN; omega
theorem nxN_alt (s : Int) : (1664525 * s + 1013904223) % 4294967296 = nxN s := by unfold nxN; omega
theorem sdN_bnd {s : Int} (h : 0 ≤ s ∧ s < 4294967296) : ∀ k, 0 ≤ sdN s k ∧ sdN s k < 4294967296
  | 0 => h
  | _ + 1 => nxN_bnd _
/-- The pulses of noise. -/
def nzV (st : Nat) (s : Int) (k : Nat) : Value := .complex .f32 (nzW st (sdN s (2 * k + 1))) (nzW st (sdN s (2 * k + 2)))
/-- A mark. -/
def ckV (k : Nat) : Value := .complex .f32 (wS k) 1065353216
theorem ck_all : ((List.range 130).all fun k => (cConvBits .f64 (floatOfInt .f64 (k : Int)) 4607182418800017408 .f32 == some (wS k, 1065353216)) && (FloatKind.f32.format.order (wS k) (wS k) == some .eq)) = true := by decide +kernel
theorem ck_one {k : Nat} (h : k < 130) : cConvBits .f64 (floatOfInt .f64 (k : Int)) 4607182418800017408 .f32 = some (wS k, 1065353216) ∧ (FloatKind.f32.format.order (wS k) (wS k) == some .eq) = true := by
  have := List.all_eq_true.1 ck_all k (List.mem_range.2 h)
  simp only [Bool.and_eq_true, beq_iff_eq] at this
  exact ⟨this.1, by rw [this.2]; rfl⟩
end Go.Fl
/- A drawn region in which an operation may draw; slices of words. No program. -/
namespace Go.Fl
open Ieee Go Go.RowKit
section
variable {P : Program} {md : Region.Mode} {ops : Array Oper} {Q : Exit → Act → World → Prop} {S : World → Prop} {fuel : Nat} {listed : Array Bool} {a : Act} {w w0 : World} {rs : List Nat} {l : List (Nat × Array Value × TypeId)}
variable {d : Option Tmp} {op : Go.Op} {ty0 : TypeId} {ps : String} {af : Array Edge} {gd : Option (Nat × Bool)}
theorem valK (i : Nat) (a' : Act) (listed' : Array Bool) (v : Value) (w1 : World) (k : Kept w0 l w) (ho : ops[i]? = some ⟨d, op, ty0, ps, af, gd⟩) (hw : Region.wanted ⟨d, op, ty0, ps, af, gd⟩ (yielded ops a.tmps) = true)
    (hrun : (execOp a.eval ⟨d, op, ty0, ps, af, gd⟩).run P w = .ok (.value v) w1) (hb : w1 = w ∨ w1 = w.drew) (ha : a.put d v = a') (hl : listed.setIfInBounds i true = listed')
    (hn : Kept w0 l w1 → S w1 ∧ wpAnyH P md ops Q S fuel listed' a' w1)
    (hs : AllReadyH P md ops Q S fuel listed a w rs) : AllReadyH P md ops Q S fuel listed a w (i :: rs) := by
  subst hl ha
  exact ready_val ho hw _ _ hrun (hn (kept_wf k hb)) hs
/-- An operation on any two singles. -/
theorem arith_any (op : BinOp) (hop : op = .add ∨ op = .sub ∨ op = .mul ∨ op = .quo) (t : TypeId) (x y : Nat) (hr : ∀ r, floatBits op .f32 x y = some r → r < 4294967296) (w : World) :
    ∃ z w1, (binOp op t (.float .f32 x) (.float .f32 y)).run P w = .ok (.float .f32 z) w1 ∧ (w1 = w ∨ w1 = w.drew) ∧ z < 4294967296 ∧ (floatBits op .f32 x y = some z ∨ INF < mg z) := by
  cases h : floatBits op .f32 x y with
  | some r => exact ⟨r, w, run_float_arith (P := P) w op t .f32 x y r h, .inl rfl, hr r h, .inl rfl⟩
  | none =>
    obtain ⟨z, h1, h2, h3⟩ := run_arith_nan (P := P) w op hop t x y h
    exact ⟨z, _, h1, .inr rfl, h3, .inr h2⟩
end
/-- A word as a value. -/
def flV (x : Nat → Nat) (k : Nat) : Value := .float .f32 (x k)
/-- A mark. -/
def mkV (k : Nat) : Value := .float .f32 (wS k)
theorem mk_all : ((List.range 130).all fun k => (FloatKind.f32.format.order (wS k) (wS k) == some .eq)) = true := by decide +kernel
theorem mk_one {k : Nat} (h : k < 130) : (FloatKind.f32.format.order (wS k) (wS k) == some .eq) = true := List.all_eq_true.1 mk_all k (List.mem_range.2 h)
end Go.Fl
/- The frame of a law over any list of parameters: out of the walk's contract the row's step. No program. -/
namespace Go.LawFrame
open Go.ChangeShapes Go.WideShapes Go.ChangeAt Go.RowKit

section
variable {H : Type} {enc : TypeId × Value → H} {P : Program}

theorem trodAll_stays (hl : laidOutB P = true) : ∀ {ts : List TypeId} {vs : List Value} {ds : List (DataW H)} {ps : List MemPlace} {W W' : World} {sp : Nat → Bool},
    (∀ t ∈ ts, P.readableRec t = true ∧ t < P.types.size) → DataW.TrodAll enc P W 0 (fun _ => true) true ts vs ds ps → (∀ p ∈ ps, W.sameAt W' p) → (∀ p ∈ ps, sp p.block = true) →
    DataW.TrodAll enc P W' 0 sp true ts vs ds ps
  | [], [], [], _, _, _, _, _, h, _, _ => h
  | t :: ts, v :: vs, d :: ds, ps, W, W', sp, hts, h, hs, hp => by
    obtain ⟨p, q, h1, h2, rfl⟩ := h
    refine ⟨p, q, ?_, ?_, rfl⟩
    · exact WideElems.Trod_stays hl (hts t (by simp)).1 (hts t (by simp)).2 h1 (fun x hx => hs x (by simp [hx])) (fun x hx => hp x (by simp [hx]))
    · exact trodAll_stays hl (fun t' ht' => hts t' (by simp [ht'])) h2 (fun x hx => hs x (by simp [hx])) (fun x hx => hp x (by simp [hx]))

theorem trodAll_length : ∀ {ts : List TypeId} {vs : List Value} {ds : List (DataW H)} {ps : List MemPlace} {W : World} {b : Nat} {sp : Nat → Bool} {held : Bool},
    DataW.TrodAll enc P W b sp held ts vs ds ps → vs.length = ts.length ∧ ds.length = ts.length
  | [], [], [], _, _, _, _, _, _ => ⟨rfl, rfl⟩
  | _ :: ts, _ :: vs, _ :: ds, _, _, _, _, _, h => by
    obtain ⟨p, q, h1, h2, rfl⟩ := h
    obtain ⟨a, b⟩ := trodAll_length h2
    exact ⟨by simp [a], by simp [b]⟩
end

/-- THE ROW's STEP: where every call returns true and what was there before it is as it was. -/
theorem lifted {C : Checked} {os : Os} (started : os.Started) {H : Type} {enc : TypeId × Value → H} {f : FuncId} {fn : Func} {s : ChangeSpec} {n : Nat} {tb : TypeId}
    (own : ownKnob C.prog.godebug = none) (noInit : C.prog.inits.idxOf? f = none) (hfn : C.prog.funcs[f]? = some fn)
    (hl : laidOutB C.prog = true) (hts : ∀ t ∈ fn.params.toList, C.prog.readableRec t = true ∧ t < C.prog.types.size)
    (hn : fn.params.size = n) (hvars : s.vars = []) (hs : ∀ ds : List (DataW H), ds.length = n → s.fn H ds = { results := [.lit (.bool true)], args := ds })
    (hres : fn.resultTypes = #[tb]) (hb : C.prog.underlying tb = some .bool)
    (wit : ∃ (w : World) (tape : Tape) (i : Input), w.os = os ∧ (w.forCall tape i).Shaped C.prog ∧ i.vars = [] ∧ Input.okWide C.prog (w.forCall tape i) .any w.heap.size f i ∧
      s.pre6 enc C.prog fn [] false (w.forCall tape i).memory i.args ∧ ({} : Assume).holds C.prog (lone (Frame.enter C.prog f i.args .normal) [] (w.forCall tape i)))
    (walk : ∀ (W : World) (base : Nat) (args : Array Value) (ds : List (DataW H)) (ps : List MemPlace), (∀ (j : Nat) t v, fn.params[j]? = some t → args[j]? = some v → Value.okWide C.prog W .any base t v) → args.size = n →
      DataW.TrodAll enc C.prog W 0 (fun _ => true) true fn.params.toList args.toList ds ps →
      Calls C.prog f args W fun e W' => e = .returned (.bool true) ∧ Below W.heap.size W W') :
    ReturnsInHanded {} C os f .any (s.pre6 enc C.prog fn [] false) (s.post enc C.prog fn false true false false) := by
  refine returnsInHanded_of_change own started noInit hfn wit ?_
  intro W base args ds gs before hval hW _ _
  have hW' := hW
  obtain ⟨p, q, hA, hV, hb', hfz, hnd⟩ := hW
  rw [hvars] at hV
  obtain ⟨rfl, rfl⟩ := trodVars_none hV
  rw [List.append_nil] at hb'
  subst hb'
  obtain ⟨hlen, hlen2⟩ := trodAll_length hA
  simp only [Array.length_toList] at hlen hlen2
  refine (walk W base args ds before hval (hlen.trans hn) hA).mono fun e W' ⟨he, hg⟩ => ?_
  subst he
  have hsp := hs ds (hlen2.trans hn)
  have hlt : ∀ x ∈ before, x.block < W.heap.size := fun x hx => hW'.lt x hx
  have hr : ∀ (b : Nat) (sp : Nat → Bool) (hd : Bool), DataW.TrodAll enc C.prog W' b sp hd fn.resultTypes.toList ((Value.bool true).resultList fn.resultTypes.size) (s.fn H (ds ++ [])).results [] := by
    intro b sp hd
    rw [List.append_nil, hsp, hres]
    exact trodAll_cons_mk (shut_bool hb _) trodAll_mk0
  have ha : ∀ sp : Nat → Bool, (∀ x ∈ before, sp x.block = true) → DataW.TrodAll enc C.prog W' 0 sp true fn.params.toList args.toList (s.fn H (ds ++ [])).args before := by
    intro sp hsp'
    rw [List.append_nil, hsp]
    exact trodAll_stays hl hts hA (fun x hx => hg.same (hlt x hx)) hsp'
  have hv : ∀ sp : Nat → Bool, DataW.TrodVars enc C.prog W' sp s.vars (s.fn H (ds ++ [])).vars [] := by
    intro sp
    rw [List.append_nil, hsp, hvars]
    rfl
  refine ⟨_, rfl, ds, [], before, [], before, [], hW', hr _ _ _, ha _ (fun x hx => by simpa using hlt x hx), hv _, World.keptBut_mono (fun x hx => ⟨hx, .inr (by simpa using hx)⟩) (hg.frame (· ∈ before)), fun _ => ?_⟩
  have hT := trodAll_append (ha (fun _ => true) (fun _ _ => rfl)) (hr 0 (fun _ => true) true)
  refine ⟨ok_one hres rfl (okWide_bool_mk hb _), _, _, before, ⟨_, [], hT, hv _, by simp, ?_, fun h => by cases h⟩, fun x hx _ => by simpa using hx⟩
  intro b off hx
  rw [hg.frozen (hlt _ hx)]
  exact hfz b off (by simpa using hx)
end Go.LawFrame
/- Laws over package-level variables that hold errors of errors.New: what is told of them; the frame. No program. -/
namespace Go.Fl
open Go.RowKit Go.ChangeShapes Go.WideShapes Go.ChangeAt
variable {P : Program}

/-- Such a variable's reading. -/
def sentD (nm : String) (t : List UInt8) : DataW Unit := .iface nm (.ptr (.agg [.lit (.string t)]))

/-- What is told of five listed errors: each variable points to a cell of its own. -/
theorem laid_five {n0 n1 n2 n3 n4 nm : String} {x0 x1 x2 x3 x4 : List UInt8} {W : World} {g0 g1 g2 g3 g4 : Nat} {ti tp te ts : TypeId} {ms : Array (String × TypeId)} {f : Field}
    (h : laidMet P [(n0, sentD nm x0), (n1, sentD nm x1), (n2, sentD nm x2), (n3, sentD nm x3), (n4, sentD nm x4)] W)
    (hg0 : P.globalNamed n0 = some g0) (ht0 : (P.globals[g0]?).map (·.type) = some ti)
    (hg1 : P.globalNamed n1 = some g1) (ht1 : (P.globals[g1]?).map (·.type) = some ti)
    (hg2 : P.globalNamed n2 = some g2) (ht2 : (P.globals[g2]?).map (·.type) = some ti)
    (hg3 : P.globalNamed n3 = some g3) (ht3 : (P.globals[g3]?).map (·.type) = some ti)
    (hg4 : P.globalNamed n4 = some g4) (ht4 : (P.globals[g4]?).map (·.type) = some ti)
    (hi : P.underlying ti = some (.interface ms)) (hrow : ∀ u, P.typeName? 3 u = some nm → u = tp)
    (hp : P.underlying tp = some (.pointer te)) (he : P.underlying te = some (.struct #[f])) (hft : f.type = ts) (hfo : f.offset = 0) (hs : P.underlying ts = some .string) (hc : P.cellsOf te = 1) (hcs : P.cellsOf ts = 1) :
    ∃ a0 a1 a2 a3 a4 : Addr, (W.var? P n0 = some #[.iface tp (.pointer (some a0))] ∧ W.var? P n1 = some #[.iface tp (.pointer (some a1))] ∧ W.var? P n2 = some #[.iface tp (.pointer (some a2))] ∧ W.var? P n3 = some #[.iface tp (.pointer (some a3))] ∧ W.var? P n4 = some #[.iface tp (.pointer (some a4))]) ∧
      ((∃ c t, W.heap[a0.block]? = some (.cells c t (0, 0))) ∧ (∃ c t, W.heap[a1.block]? = some (.cells c t (0, 0))) ∧ (∃ c t, W.heap[a2.block]? = some (.cells c t (0, 0))) ∧ (∃ c t, W.heap[a3.block]? = some (.cells c t (0, 0))) ∧ (∃ c t, W.heap[a4.block]? = some (.cells c t (0, 0)))) ∧
      (a0 ≠ a1 ∧ a0 ≠ a2 ∧ a0 ≠ a3 ∧ a0 ≠ a4 ∧ a1 ≠ a2 ∧ a1 ≠ a3 ∧ a1 ≠ a4 ∧ a2 ≠ a3 ∧ a2 ≠ a4 ∧ a3 ≠ a4) := by
  obtain ⟨ps, ⟨h0g, t0g, cs0, f0, p0, q0, k0, l0, hv0, hd0, ⟨h1g, t1g, cs1, f1, p1, q1, k1, l1, hv1, hd1, ⟨h2g, t2g, cs2, f2, p2, q2, k2, l2, hv2, hd2, ⟨h3g, t3g, cs3, f3, p3, q3, k3, l3, hv3, hd3, ⟨h4g, t4g, cs4, f4, p4, q4, k4, l4, hv4, hd4, e5, e4⟩, e3⟩, e2⟩, e1⟩, e0⟩, hnd, hrows⟩ := h
  obtain rfl := Option.some.inj (hg0.symm.trans k0)
  obtain rfl := Option.some.inj (ht0.symm.trans l0)
  obtain rfl := Option.some.inj (hg1.symm.trans k1)
  obtain rfl := Option.some.inj (ht1.symm.trans l1)
  obtain rfl := Option.some.inj (hg2.symm.trans k2)
  obtain rfl := Option.some.inj (ht2.symm.trans l2)
  obtain rfl := Option.some.inj (hg3.symm.trans k3)
  obtain rfl := Option.some.inj (ht3.symm.trans l3)
  obtain rfl := Option.some.inj (hg4.symm.trans k4)
  obtain rfl := Option.some.inj (ht4.symm.trans l4)
  subst e5
  subst e4
  subst e3
  subst e2
  subst e1
  subst e0
  obtain ⟨l0c⟩ := cs0
  obtain ⟨l1c⟩ := cs1
  obtain ⟨l2c⟩ := cs2
  obtain ⟨l3c⟩ := cs3
  obtain ⟨l4c⟩ := cs4
  have ok0 : ∀ u v, l0c = [.iface u v] → Value.okWide P W .any 0 u v := fun u v e => by
    subst e
    exact (hrows g0 0 (by simp [MemPlace.row])).2 u v (by simpa using World.var?_cell hg0 hv0 0)
  have ok1 : ∀ u v, l1c = [.iface u v] → Value.okWide P W .any 0 u v := fun u v e => by
    subst e
    exact (hrows g1 0 (by simp [MemPlace.row])).2 u v (by simpa using World.var?_cell hg1 hv1 0)
  have ok2 : ∀ u v, l2c = [.iface u v] → Value.okWide P W .any 0 u v := fun u v e => by
    subst e
    exact (hrows g2 0 (by simp [MemPlace.row])).2 u v (by simpa using World.var?_cell hg2 hv2 0)
  have ok3 : ∀ u v, l3c = [.iface u v] → Value.okWide P W .any 0 u v := fun u v e => by
    subst e
    exact (hrows g3 0 (by simp [MemPlace.row])).2 u v (by simpa using World.var?_cell hg3 hv3 0)
  have ok4 : ∀ u v, l4c = [.iface u v] → Value.okWide P W .any 0 u v := fun u v e => by
    subst e
    exact (hrows g4 0 (by simp [MemPlace.row])).2 u v (by simpa using World.var?_cell hg4 hv4 0)
  obtain ⟨a0, s0, rfl, hc0, hs0, hz0, rfl⟩ := errorString_of_trod hi hrow hp he hft hfo hs hc hcs hd0 ok0
  obtain ⟨a1, s1, rfl, hc1, hs1, hz1, rfl⟩ := errorString_of_trod hi hrow hp he hft hfo hs hc hcs hd1 ok1
  obtain ⟨a2, s2, rfl, hc2, hs2, hz2, rfl⟩ := errorString_of_trod hi hrow hp he hft hfo hs hc hcs hd2 ok2
  obtain ⟨a3, s3, rfl, hc3, hs3, hz3, rfl⟩ := errorString_of_trod hi hrow hp he hft hfo hs hc hcs hd3 ok3
  obtain ⟨a4, s4, rfl, hc4, hs4, hz4, rfl⟩ := errorString_of_trod hi hrow hp he hft hfo hs hc hcs hd4 ok4
  have b0 := (hrows a0.block a0.off (by simp [MemPlace.row])).1
  have b1 := (hrows a1.block a1.off (by simp [MemPlace.row])).1
  have b2 := (hrows a2.block a2.off (by simp [MemPlace.row])).1
  have b3 := (hrows a3.block a3.off (by simp [MemPlace.row])).1
  have b4 := (hrows a4.block a4.off (by simp [MemPlace.row])).1
  refine ⟨a0, a1, a2, a3, a4, ⟨hv0, hv1, hv2, hv3, hv4⟩, ⟨b0, b1, b2, b3, b4⟩, ?_, ?_, ?_, ?_, ?_, ?_, ?_, ?_, ?_, ?_⟩ <;>
    (rintro rfl; simp [MemPlace.row] at hnd)

/-- Named variables that hold such values. -/
def VarsAre (P : Program) (W : World) : List String → List Value → Prop
  | [], [] => True
  | n :: ns, x :: xs => (∃ g ti ms, P.globalNamed n = some g ∧ (P.globals[g]?).map (·.type) = some ti ∧ P.underlying ti = some (.interface ms) ∧ W.var? P n = some #[x] ∧ IsIface x) ∧ VarsAre P W ns xs
  | _, _ => False
theorem VarsAre.length : ∀ {ns : List String} {xs : List Value} {W : World}, VarsAre P W ns xs → xs.length = ns.length
  | [], [], _, _ => rfl
  | _ :: _, _ :: _, _, h => by simp [VarsAre.length h.2]
theorem VarsAre.stay : ∀ {ns : List String} {xs : List Value} {W W' : World}, VarsAre P W ns xs → Below W.heap.size W W' → VarsAre P W' ns xs
  | [], [], _, _, _, _ => trivial
  | n :: ns, x :: xs, W, W', h, hb => by
    obtain ⟨⟨g, ti, ms, h1, h2, h3, h4, h5⟩, h6⟩ := h
    refine ⟨⟨g, ti, ms, h1, h2, h3, ?_, h5⟩, VarsAre.stay h6 hb⟩
    unfold World.var? at h4 ⊢
    simp only [h1, Option.bind_some] at h4 ⊢
    have hlt : g < W.heap.size := by
      rcases Nat.lt_or_ge g W.heap.size with h' | h'
      · exact h'
      · simp [Array.getElem?_eq_none h'] at h4
    rw [hb.block g hlt]
    exact h4
def varPlaces (P : Program) (ns : List String) : List MemPlace := ns.map fun n => .cell ((P.globalNamed n).getD 0) 0
theorem VarsAre.read {H : Type} {enc : TypeId × Value → H} : ∀ {ns : List String} {xs : List Value} {W : World} (sp : Nat → Bool), VarsAre P W ns xs → DataW.TrodVars enc P W sp ns (xs.map (tok enc)) (varPlaces P ns)
  | [], [], _, _, _ => rfl
  | n :: ns, x :: xs, W, sp, h => by
    obtain ⟨⟨g, ti, ms, h1, h2, h3, h4, h5⟩, h6⟩ := h
    exact ⟨g, ti, #[x], 1, [], varPlaces P ns, h1, h2, h4, trod_held h3 h5 0, VarsAre.read sp h6, by simp [varPlaces, h1, MemPlace.row]⟩
end Go.Fl
namespace Go.LawFrame
open Go.ChangeShapes Go.WideShapes Go.ChangeAt Go.RowKit Go.Fl
/-- THE ROW's STEP, where the law may look into listed variables. -/
theorem lifted_vars {C : Checked} {os : Os} (started : os.Started) {H : Type} {enc : TypeId × Value → H} {f : FuncId} {fn : Func} {s : ChangeSpec} {n : Nat} {tb : TypeId} {laidL : List (String × DataW Unit)}
    (own : ownKnob C.prog.godebug = none) (noInit : C.prog.inits.idxOf? f = none) (hfn : C.prog.funcs[f]? = some fn)
    (hl : laidOutB C.prog = true) (hts : ∀ t ∈ fn.params.toList, C.prog.readableRec t = true ∧ t < C.prog.types.size)
    (hn : fn.params.size = n) (hs : ∀ ds gs : List (DataW H), ds.length = n → gs.length = s.vars.length → s.fn H (ds ++ gs) = { results := [.lit (.bool true)], args := ds, vars := gs })
    (hres : fn.resultTypes = #[tb]) (hb : C.prog.underlying tb = some .bool)
    (hread : ∀ W, laidMetH C.prog laidL W → ∃ xs, VarsAre C.prog W s.vars xs)
    (wit : ∃ (w : World) (tape : Tape) (i : Input), w.os = os ∧ (w.forCall tape i).Shaped C.prog ∧ i.vars = [] ∧ Input.okWide C.prog (w.forCall tape i) .any w.heap.size f i ∧
      ((s.pre enc C.prog fn [] false (w.forCall tape i).memory i.args ∧ laidMetH C.prog laidL (w.forCall tape i).memory) ∧ sizedMet enc C.prog fn (OpenSpec.ofChange s) false (w.forCall tape i).memory i.args) ∧ ({} : Assume).holds C.prog (lone (Frame.enter C.prog f i.args .normal) [] (w.forCall tape i)))
    (walk : ∀ (W : World) (base : Nat) (args : Array Value) (ds : List (DataW H)) (ps : List MemPlace), (∀ (j : Nat) t v, fn.params[j]? = some t → args[j]? = some v → Value.okWide C.prog W .any base t v) → args.size = n →
      DataW.TrodAll enc C.prog W 0 (fun _ => true) true fn.params.toList args.toList ds ps → laidMetH C.prog laidL W →
      Calls C.prog f args W fun e W' => e = .returned (.bool true) ∧ Below W.heap.size W W') :
    ReturnsInHanded {} C os f .any (fun w args => (s.pre enc C.prog fn [] false w args ∧ laidMetH C.prog laidL w) ∧ sizedMet enc C.prog fn (OpenSpec.ofChange s) false w args) (s.post enc C.prog fn false true false false) := by
  refine returnsInHanded_of_change_and (C := C) (X := fun w _ => laidMetH C.prog laidL w) (fun _ _ _ hh h => laidMetH.of_heap hh h) own started noInit hfn wit ?_
  intro W base args ds gs before hval hW _ _ hL _
  have hW' := hW
  obtain ⟨p, q, hA, hV, hb', hfz, hnd⟩ := hW
  subst hb'
  obtain ⟨xs, hxs⟩ := hread W hL
  obtain ⟨rfl, rfl⟩ := hV.unique (hxs.read _)
  obtain ⟨hlen, hlen2⟩ := trodAll_length hA
  simp only [Array.length_toList] at hlen hlen2
  refine (walk W base args ds p hval (hlen.trans hn) hA hL).mono fun e W' ⟨he, hg⟩ => ?_
  subst he
  have hsp := hs ds (xs.map (tok enc)) (hlen2.trans hn) (by rw [List.length_map]; exact hxs.length)
  have hlt : ∀ x ∈ p ++ varPlaces C.prog s.vars, x.block < W.heap.size := fun x hx => hW'.lt x hx
  have hr : ∀ (b : Nat) (sp : Nat → Bool) (hd : Bool), DataW.TrodAll enc C.prog W' b sp hd fn.resultTypes.toList ((Value.bool true).resultList fn.resultTypes.size) (s.fn H (ds ++ xs.map (tok enc))).results [] := by
    intro b sp hd
    rw [hsp, hres]
    exact trodAll_cons_mk (shut_bool hb _) trodAll_mk0
  have ha : ∀ sp : Nat → Bool, (∀ x ∈ p, sp x.block = true) → DataW.TrodAll enc C.prog W' 0 sp true fn.params.toList args.toList (s.fn H (ds ++ xs.map (tok enc))).args p := by
    intro sp hsp'
    rw [hsp]
    exact trodAll_stays hl hts hA (fun x hx => hg.same (hlt x (List.mem_append_left _ hx))) hsp'
  have hv : ∀ sp : Nat → Bool, DataW.TrodVars enc C.prog W' sp s.vars (s.fn H (ds ++ xs.map (tok enc))).vars (varPlaces C.prog s.vars) := by
    intro sp
    rw [hsp]
    exact (hxs.stay hg).read sp
  refine ⟨_, rfl, ds, _, p ++ varPlaces C.prog s.vars, [], p, varPlaces C.prog s.vars, hW', hr _ _ _, ha _ (fun x hx => by simpa using hlt x (List.mem_append_left _ hx)), hv _, World.keptBut_mono (fun x hx => ⟨hx, .inr (by simpa using hx)⟩) (hg.frame (· ∈ p ++ varPlaces C.prog s.vars)), fun _ => ?_⟩
  have hT := trodAll_append (ha (fun _ => true) (fun _ _ => rfl)) (hr 0 (fun _ => true) true)
  refine ⟨ok_one hres rfl (okWide_bool_mk hb _), _, _, p ++ varPlaces C.prog s.vars, ⟨_, _, hT, hv _, by simp, ?_, fun h => by cases h⟩, fun x hx _ => by simpa using hx⟩
  intro b off hx
  rw [hg.frozen (hlt _ hx)]
  exact hfz b off (by simpa using hx)
end Go.LawFrame
/- How often twice a limit is in a step between two speeds, of words that may be infinite. No program. -/
namespace Go.Fl
open Ieee Go Go.RowKit
structure FoldG (d l w q Q K k : Nat) : Prop where
  hw : S.mul 1073741824 l = some w
  hq : S.div d w = some q
  cQ : floatToFloatBits .f32 q .f64 = some Q
  hK : D.write ((D.read Q).integral .even) = K
  rd : (∃ s m e, D.read Q = .number s m e) ∨ ∃ s, D.read Q = .infinity s
  ck : floatToFloatBits .f64 K .f32 = some k
  zk : (D.order K 0 == some .eq) = true → (S.order k 0 == some .eq) = true
  nz : (S.order k 0 == some .eq) = false → ∃ p, S.mul w k = some p ∧ NW p
theorem fold_g {d l : Nat} (hd : NW d) (hl : amtB l = true) (h0 : l ≠ 0) : (∃ w q Q K k, FoldG d l w q Q K k) ∨ ∃ w, S.mul 1073741824 l = some w ∧ S.div d w = none := by
  obtain ⟨w, hw, h1, h2⟩ := two_mul hl h0
  have hI := INF_val
  have nzf : ∀ k, FW w → sv w ≠ 0 → NW k → ∃ p, S.mul w k = some p ∧ NW p := fun k fw nw hk => ⟨_, mul_nw fw nw hk⟩
  rcases Nat.lt_or_eq_of_le hd.2 with hdf | hdi
  · have hx : FW d := ⟨hd.1, hdf⟩
    left
    rcases Nat.lt_or_eq_of_le h2 with h2 | rfl
    · obtain ⟨fw, nw⟩ := sv_pos h1 h2
      obtain ⟨hq, q1, q2⟩ := div_nw hx fw nw
      generalize fdiv d w = q at hq q1 q2
      rcases Nat.lt_or_eq_of_le q2 with q3 | q3
      · have hwd := wid_fin q1 q3
        have hm : wid (mg q) ≤ wid FM := wid_le (by unfold FM; omega) FM_lt
        have hmD : wid (mg q) < DINF := (wid_val q3).1
        obtain ⟨n, hn, he, hb⟩ := even_same (s := decide (2147483648 ≤ q)) hmD
        have hnF : n ≤ wid FM := by
          rcases hb with rfl | hb
          · exact hm
          · exact le_of_valD (Nat.le_of_lt (Nat.lt_of_lt_of_le hb FM_val))
        have hsg : wid q = sgD (decide (2147483648 ≤ q)) (wid (mg q)) := by
          rw [hwd]; unfold sgD; simp
        generalize decide (2147483648 ≤ q) = s at he hsg
        obtain ⟨c1, c2⟩ := narr_sgw (s := s) hnF
        obtain ⟨f1, f2⟩ := sgS_fin (s := s) c2
        refine ⟨w, q, wid q, sgD s n, sgS s (narr n), hw, hq, conv_wid q1 q3, by rw [hsg]; exact he, .inl ?_, c1, fun hz => ?_, fun _ => nzf _ fw nw ⟨f1, Nat.le_of_lt (finB_iff.1 f2)⟩⟩
        · rw [hsg]
          obtain ⟨M, e, _, r⟩ := read_sgD (s := s) hmD
          exact ⟨_, _, _, r⟩
        · rw [order_zeroD hn, decide_eq_true_eq] at hz
          subst hz
          rw [show narr 0 = 0 by decide]
          cases s <;> decide
      · have hq2 : q = 2139095040 ∨ q = 4286578688 := by unfold mg at q3; omega
        rcases hq2 with rfl | rfl
        · exact ⟨w, _, 9218868437227405312, 9218868437227405312, 2139095040, hw, hq, by decide, by decide, .inr ⟨false, by decide⟩, by decide, by decide, fun _ => nzf _ fw nw ⟨by decide, by decide⟩⟩
        · exact ⟨w, _, 18442240474082181120, 18442240474082181120, 4286578688, hw, hq, by decide, by decide, .inr ⟨true, by decide⟩, by decide, by decide, fun _ => nzf _ fw nw ⟨by decide, by decide⟩⟩
    · rcases div_inf hx with hq | hq
      · exact ⟨_, _, 0, 0, 0, hw, hq, by decide, by decide, .inl ⟨_, _, _, rfl⟩, by decide, by decide, fun h => absurd h (by decide)⟩
      · exact ⟨_, _, 9223372036854775808, 9223372036854775808, 2147483648, hw, hq, by decide, by decide, .inl ⟨_, _, _, rfl⟩, by decide, by decide, fun h => absurd h (by decide)⟩
  · have hd2 : d = 2139095040 ∨ d = 4286578688 := by have := hd.1; unfold mg at hdi; omega
    have hrd : ∃ s, S.read d = .infinity s := by
      rcases hd2 with rfl | rfl
      · exact ⟨false, by decide⟩
      · exact ⟨true, by decide⟩
    obtain ⟨s, hrd⟩ := hrd
    rcases Nat.lt_or_eq_of_le h2 with h2 | rfl
    · left
      obtain ⟨fw, nw⟩ := sv_pos h1 h2
      obtain ⟨t, m, e, hr, _⟩ := read_fw fw
      have hq : S.div d w = some (S.write (.infinity (s ^^ t))) := by
        unfold Format.div
        rw [hrd, hr]
        rfl
      cases hst : (s ^^ t) with
      | false =>
        rw [hst] at hq
        exact ⟨w, 2139095040, 9218868437227405312, 9218868437227405312, 2139095040, hw, hq.trans (by decide), by decide, by decide, .inr ⟨false, by decide⟩, by decide, by decide, fun _ => nzf _ fw nw ⟨by decide, by decide⟩⟩
      | true =>
        rw [hst] at hq
        exact ⟨w, 4286578688, 18442240474082181120, 18442240474082181120, 4286578688, hw, hq.trans (by decide), by decide, by decide, .inr ⟨true, by decide⟩, by decide, by decide, fun _ => nzf _ fw nw ⟨by decide, by decide⟩⟩
    · right
      refine ⟨_, hw, ?_⟩
      unfold Format.div
      rw [hrd, read_INF]
      rfl
/-- A speed that is unfolded to a finite one. -/
structure StepOk (l p c v : Nat) (d w q Q K k : Nat) : Prop where
  fv : FW v
  hd : S.sub p c = some d
  hg : FoldG d l w q Q K k
  hv : ((S.order k 0 == some .eq) = true ∧ v = c) ∨ ((S.order k 0 == some .eq) = false ∧ ∃ pp, S.mul w k = some pp ∧ S.add c pp = some v)
/-- A speed that comes to an infinite one. -/
structure StepInf (l p c v : Nat) (d w q Q K k : Nat) : Prop where
  hd : S.sub p c = some d
  hg : FoldG d l w q Q K k
  hz : (S.order k 0 == some .eq) = false
  hv : ∃ pp, S.mul w k = some pp ∧ S.add c pp = some v
  lv : v < 4294967296
  fv : finB v = false
/-- A speed that comes to no number. -/
structure StepNan (l p c : Nat) (d w : Nat) : Prop where
  hd : S.sub p c = some d
  hw : S.mul 1073741824 l = some w
  hq : S.div d w = none
def StO (l p c v : Nat) : Prop := ∃ d w q Q K k, StepOk l p c v d w q Q K k
def StB (l p c : Nat) : Prop := (∃ v d w q Q K k, StepInf l p c v d w q Q K k) ∨ ∃ d w, StepNan l p c d w
theorem step_any {l p c : Nat} (hp : FW p) (hc : FW c) (hl : amtB l = true) (h0 : l ≠ 0) : (∃ v, StO l p c v) ∨ StB l p c := by
  obtain ⟨hd, nd⟩ := sub_nw hp hc
  rcases fold_g nd hl h0 with ⟨w, q, Q, K, k, hg⟩ | ⟨w, hw, hq⟩
  · cases hz : (S.order k 0 == some .eq) with
    | true => exact .inl ⟨c, _, w, q, Q, K, k, hc, hd, hg, .inl ⟨hz, rfl⟩⟩
    | false =>
      obtain ⟨pp, h1, h2⟩ := hg.nz hz
      obtain ⟨a1, a2⟩ := add_nw hc h2
      cases hf : finB (fadd c pp) with
      | true => exact .inl ⟨_, _, w, q, Q, K, k, ⟨a2.1, finB_iff.1 hf⟩, hd, hg, .inr ⟨hz, pp, h1, a1⟩⟩
      | false => exact .inr (.inl ⟨_, _, w, q, Q, K, k, hd, hg, hz, ⟨pp, h1, a1⟩, a2.1, hf⟩)
  · exact .inr (.inr ⟨_, w, hd, hw, hq⟩)
/-- The unfolded speeds, as far as they are finite. -/
theorem seq_any {l : Nat} (hl : amtB l = true) (h0 : l ≠ 0) (x : Nat → Nat) {n : Nat} (hx : ∀ k, k < n → FW (x k)) : ∀ m, m + 1 ≤ n →
    ∃ y : Nat → Nat, y 0 = x 0 ∧ ∃ j, j ≤ m ∧ (∀ k, k < j → StO l (y k) (x (k + 1)) (y (k + 1))) ∧ (j = m ∨ StB l (y j) (x (j + 1))) := by
  intro m
  induction m with
  | zero => exact fun _ => ⟨x, rfl, 0, Nat.le_refl _, fun k h => absurd h (Nat.not_lt_zero _), .inl rfl⟩
  | succ m ih =>
    intro hm
    obtain ⟨y, y0, j, hj, hs, he⟩ := ih (by omega)
    rcases he with rfl | hb
    · have fy : FW (y j) := by
        cases j with
        | zero => rw [y0]; exact hx 0 (by omega)
        | succ j => obtain ⟨_, _, _, _, _, _, h⟩ := hs j (by omega); exact h.fv
      rcases step_any fy (hx (j + 1) (by omega)) hl h0 with ⟨v, hv⟩ | hb
      · refine ⟨fun k => if k = j + 1 then v else y k, ?_, j + 1, Nat.le_refl _, fun k hk => ?_, .inl rfl⟩
        · simp [y0]
        · simp only
          rw [if_neg (by omega)]
          by_cases h : k = j
          · subst h; rw [if_pos rfl]; exact hv
          · rw [if_neg (by omega)]; exact hs k (by omega)
      · exact ⟨y, y0, j, by omega, hs, .inr hb⟩
    · exact ⟨y, y0, j, by omega, hs, .inr hb⟩
/-! No numbers. -/
theorem mul_nan2 {v d : Nat} (h : INF < mg d) : S.mul v d = none := by
  obtain ⟨s, t, e⟩ := read_nan h
  unfold Format.mul
  rw [e]
  cases S.read v <;> rfl
theorem add_nan2 {v d : Nat} (h : INF < mg d) : S.add v d = none := by
  obtain ⟨s, t, e⟩ := read_nan h
  unfold Format.add
  rw [e]
  cases S.read v <;> rfl
theorem quiet_nan (s : Bool) (t : Nat) : DINF < D.write (.nan s (D.quiet t)) % 9223372036854775808 := by
  have hq : 0 < D.quiet t % 4503599627370496 := by
    have h1 : (D.quiet t % 2 ^ 52).testBit 51 = true := by
      rw [Nat.testBit_mod_two_pow]
      show (decide (51 < 52) && (t ||| 2 ^ 51).testBit 51) = true
      rw [Nat.testBit_or, Nat.testBit_two_pow_self]
      simp
    rcases Nat.eq_zero_or_pos (D.quiet t % 2 ^ 52) with h | h
    · rw [h] at h1; simp at h1
    · exact h
  have hl : D.quiet t % 4503599627370496 < 4503599627370496 := Nat.mod_lt _ (by decide)
  have e : D.write (.nan s (D.quiet t)) = D.word s (D.infRung + D.quiet t % D.binade) := rfl
  rw [e, DINF_val]
  unfold Format.word
  simp only [sw_D, bin_D, infRung_D]
  generalize D.quiet t % 4503599627370496 = z at *
  cases s
  · simp; omega
  · simp; omega
theorem write_lt (d : Datum) : S.write d < 4294967296 := by
  cases d with
  | number s m e => exact (write_nw s m e).1
  | infinity s => exact (write_inf s).1
  | nan s t =>
    have e : S.write (.nan s t) = S.word s (S.infRung + t % S.binade) := rfl
    rw [e]
    have h : t % S.binade < S.binade := Nat.mod_lt _ (by decide)
    generalize t % S.binade = z at *
    have hb : S.binade = 8388608 := by decide
    have hi : S.infRung = 2139095040 := by decide
    have hs : S.signWeight = 2147483648 := by decide
    unfold Format.word
    rw [hi, hs]
    rw [hb] at h
    cases s
    · simp; omega
    · simp; omega
theorem bits_lt {op : BinOp} (hop : op = .add ∨ op = .sub ∨ op = .mul ∨ op = .quo) {x y r : Nat} (h : floatBits op .f32 x y = some r) : r < 4294967296 := by
  rcases hop with rfl | rfl | rfl | rfl
  · have h' : S.add x y = some r := h
    unfold Format.add at h'
    obtain ⟨d, _, rfl⟩ := Option.map_eq_some_iff.1 h'
    exact write_lt d
  · have h' : S.sub x y = some r := h
    unfold Format.sub at h'
    obtain ⟨d, _, rfl⟩ := Option.map_eq_some_iff.1 h'
    exact write_lt d
  · have h' : S.mul x y = some r := h
    unfold Format.mul at h'
    obtain ⟨d, _, rfl⟩ := Option.map_eq_some_iff.1 h'
    exact write_lt d
  · have h' : S.div x y = some r := h
    unfold Format.div at h'
    obtain ⟨d, _, rfl⟩ := Option.map_eq_some_iff.1 h'
    exact write_lt d
section
variable {P : Program}
/-- An operation on any two singles, its place in a walk. -/
theorem arith_at (op : BinOp) (hop : op = .add ∨ op = .sub ∨ op = .mul ∨ op = .quo) (t : TypeId) (x y : Nat) (w : World) :
    ∃ z w1, (binOp op t (.float .f32 x) (.float .f32 y)).run P w = .ok (.float .f32 z) w1 ∧ (w1 = w ∨ w1 = w.drew) ∧ z < 4294967296 :=
  let ⟨z, w1, h1, h2, h3, _⟩ := arith_any (P := P) op hop t x y (fun _ h => bits_lt hop h) w
  ⟨z, w1, h1, h2, h3⟩
theorem narrow_any (src dst : TypeId) (x : Nat) (hs : P.underlying src = some (.float .f64)) (hd : P.underlying dst = some (.float .f32)) (w : World) :
    ∃ z w1, (convert src dst (.float .f64 x)).run P w = .ok (.float .f32 z) w1 ∧ (w1 = w ∨ w1 = w.drew) := by
  cases h : floatToFloatBits .f64 x .f32 with
  | some z => exact ⟨z, w, run_convert_float_float w src dst .f64 .f32 x z (by rw [hs]; rfl) hd h, .inl rfl⟩
  | none =>
    cases e' : FloatKind.f64.decode x with
    | nan s t =>
      refine ⟨(Question.nanConv .f32 x).cut (w.tape w.drawn (.nanConv .f32 x)), w.drew, ?_, .inr rfl⟩
      simp [convert, run_underlying hs, run_underlying hd, Conv.floatToFloat, e', Question.forced]
    | number s m e =>
      have hi : (FloatKind.f32.decode (FloatKind.f32.encode (.number s m e))).isInfinity = true := by
        unfold floatToFloatBits at h; rw [if_neg (by decide), e'] at h; simpa using h
      refine ⟨(Question.floatToFloat x).cut (w.tape w.drawn (.floatToFloat x)), w.drew, ?_, .inr rfl⟩
      simp [convert, run_underlying hs, run_underlying hd, Conv.floatToFloat, e', hi, Question.forced]
    | infinity s => exfalso; unfold floatToFloatBits at h; rw [if_neg (by decide), e'] at h; simp at h
theorem wpList_valW {ops : Array Oper} {rest : List Oper} {o : Oper} {a : Act} {w : World} {Q : Exit → Act → World → Prop} (hg : o.guard = none) (v : Value) (w1 : World) (hrun : (execOp a.eval o).run P w = .ok (.value v) w1)
    (h : wpList P ops Q rest (a.put o.dst v) w1) : wpList P ops Q (o :: rest) a w := by
  refine wpList_plain hg fun K hK => ?_
  unfold Oper.wp
  rw [hrun, Oper.upon_value]
  exact hK _ _ h
end
end Go.Fl
/- A slice of words appended to an empty one; six listed errors. No program. -/
namespace Go.Fl
open Go Go.RowKit Go.ChangeShapes Go.WideShapes Go.ChangeAt
variable {P : Program}
/-- What is told of six listed errors: each variable points to a cell of its own. -/
theorem laid_six {n0 n1 n2 n3 n4 n5 nm : String} {x0 x1 x2 x3 x4 x5 : List UInt8} {W : World} {g0 g1 g2 g3 g4 g5 : Nat} {ti tp te ts : TypeId} {ms : Array (String × TypeId)} {f : Field}
    (h : laidMet P [(n0, sentD nm x0), (n1, sentD nm x1), (n2, sentD nm x2), (n3, sentD nm x3), (n4, sentD nm x4), (n5, sentD nm x5)] W)
    (hg0 : P.globalNamed n0 = some g0) (ht0 : (P.globals[g0]?).map (·.type) = some ti)
    (hg1 : P.globalNamed n1 = some g1) (ht1 : (P.globals[g1]?).map (·.type) = some ti)
    (hg2 : P.globalNamed n2 = some g2) (ht2 : (P.globals[g2]?).map (·.type) = some ti)
    (hg3 : P.globalNamed n3 = some g3) (ht3 : (P.globals[g3]?).map (·.type) = some ti)
    (hg4 : P.globalNamed n4 = some g4) (ht4 : (P.globals[g4]?).map (·.type) = some ti)
    (hg5 : P.globalNamed n5 = some g5) (ht5 : (P.globals[g5]?).map (·.type) = some ti)
    (hi : P.underlying ti = some (.interface ms)) (hrow : ∀ u, P.typeName? 3 u = some nm → u = tp)
    (hp : P.underlying tp = some (.pointer te)) (he : P.underlying te = some (.struct #[f])) (hft : f.type = ts) (hfo : f.offset = 0) (hs : P.underlying ts = some .string) (hc : P.cellsOf te = 1) (hcs : P.cellsOf ts = 1) :
    ∃ a0 a1 a2 a3 a4 a5 : Addr, (W.var? P n0 = some #[.iface tp (.pointer (some a0))] ∧ W.var? P n1 = some #[.iface tp (.pointer (some a1))] ∧ W.var? P n2 = some #[.iface tp (.pointer (some a2))] ∧ W.var? P n3 = some #[.iface tp (.pointer (some a3))] ∧ W.var? P n4 = some #[.iface tp (.pointer (some a4))] ∧ W.var? P n5 = some #[.iface tp (.pointer (some a5))]) ∧
      ((∃ c t, W.heap[a0.block]? = some (.cells c t (0, 0))) ∧ (∃ c t, W.heap[a1.block]? = some (.cells c t (0, 0))) ∧ (∃ c t, W.heap[a2.block]? = some (.cells c t (0, 0))) ∧ (∃ c t, W.heap[a3.block]? = some (.cells c t (0, 0))) ∧ (∃ c t, W.heap[a4.block]? = some (.cells c t (0, 0))) ∧ (∃ c t, W.heap[a5.block]? = some (.cells c t (0, 0)))) ∧
      (a0 ≠ a1 ∧ a0 ≠ a2 ∧ a0 ≠ a3 ∧ a0 ≠ a4 ∧ a0 ≠ a5 ∧ a1 ≠ a2 ∧ a1 ≠ a3 ∧ a1 ≠ a4 ∧ a1 ≠ a5 ∧ a2 ≠ a3 ∧ a2 ≠ a4 ∧ a2 ≠ a5 ∧ a3 ≠ a4 ∧ a3 ≠ a5 ∧ a4 ≠ a5) := by
  obtain ⟨ps, ⟨h0g, t0g, cs0, f0, p0, q0, k0, l0, hv0, hd0, ⟨h1g, t1g, cs1, f1, p1, q1, k1, l1, hv1, hd1, ⟨h2g, t2g, cs2, f2, p2, q2, k2, l2, hv2, hd2, ⟨h3g, t3g, cs3, f3, p3, q3, k3, l3, hv3, hd3, ⟨h4g, t4g, cs4, f4, p4, q4, k4, l4, hv4, hd4, ⟨h5g, t5g, cs5, f5, p5, q5, k5, l5, hv5, hd5, e6, e5⟩, e4⟩, e3⟩, e2⟩, e1⟩, e0⟩, hnd, hrows⟩ := h
  obtain rfl := Option.some.inj (hg0.symm.trans k0)
  obtain rfl := Option.some.inj (ht0.symm.trans l0)
  obtain rfl := Option.some.inj (hg1.symm.trans k1)
  obtain rfl := Option.some.inj (ht1.symm.trans l1)
  obtain rfl := Option.some.inj (hg2.symm.trans k2)
  obtain rfl := Option.some.inj (ht2.symm.trans l2)
  obtain rfl := Option.some.inj (hg3.symm.trans k3)
  obtain rfl := Option.some.inj (ht3.symm.trans l3)
  obtain rfl := Option.some.inj (hg4.symm.trans k4)
  obtain rfl := Option.some.inj (ht4.symm.trans l4)
  obtain rfl := Option.some.inj (hg5.symm.trans k5)
  obtain rfl := Option.some.inj (ht5.symm.trans l5)
  subst e6
  subst e5
  subst e4
  subst e3
  subst e2
  subst e1
  subst e0
  obtain ⟨l0c⟩ := cs0
  obtain ⟨l1c⟩ := cs1
  obtain ⟨l2c⟩ := cs2
  obtain ⟨l3c⟩ := cs3
  obtain ⟨l4c⟩ := cs4
  obtain ⟨l5c⟩ := cs5
  have ok0 : ∀ u v, l0c = [.iface u v] → Value.okWide P W .any 0 u v := fun u v e => by
    subst e
    exact (hrows g0 0 (by simp [MemPlace.row])).2 u v (by simpa using World.var?_cell hg0 hv0 0)
  have ok1 : ∀ u v, l1c = [.iface u v] → Value.okWide P W .any 0 u v := fun u v e => by
    subst e
    exact (hrows g1 0 (by simp [MemPlace.row])).2 u v (by simpa using World.var?_cell hg1 hv1 0)
  have ok2 : ∀ u v, l2c = [.iface u v] → Value.okWide P W .any 0 u v := fun u v e => by
    subst e
    exact (hrows g2 0 (by simp [MemPlace.row])).2 u v (by simpa using World.var?_cell hg2 hv2 0)
  have ok3 : ∀ u v, l3c = [.iface u v] → Value.okWide P W .any 0 u v := fun u v e => by
    subst e
    exact (hrows g3 0 (by simp [MemPlace.row])).2 u v (by simpa using World.var?_cell hg3 hv3 0)
  have ok4 : ∀ u v, l4c = [.iface u v] → Value.okWide P W .any 0 u v := fun u v e => by
    subst e
    exact (hrows g4 0 (by simp [MemPlace.row])).2 u v (by simpa using World.var?_cell hg4 hv4 0)
  have ok5 : ∀ u v, l5c = [.iface u v] → Value.okWide P W .any 0 u v := fun u v e => by
    subst e
    exact (hrows g5 0 (by simp [MemPlace.row])).2 u v (by simpa using World.var?_cell hg5 hv5 0)
  obtain ⟨a0, s0, rfl, hc0, hs0, hz0, rfl⟩ := errorString_of_trod hi hrow hp he hft hfo hs hc hcs hd0 ok0
  obtain ⟨a1, s1, rfl, hc1, hs1, hz1, rfl⟩ := errorString_of_trod hi hrow hp he hft hfo hs hc hcs hd1 ok1
  obtain ⟨a2, s2, rfl, hc2, hs2, hz2, rfl⟩ := errorString_of_trod hi hrow hp he hft hfo hs hc hcs hd2 ok2
  obtain ⟨a3, s3, rfl, hc3, hs3, hz3, rfl⟩ := errorString_of_trod hi hrow hp he hft hfo hs hc hcs hd3 ok3
  obtain ⟨a4, s4, rfl, hc4, hs4, hz4, rfl⟩ := errorString_of_trod hi hrow hp he hft hfo hs hc hcs hd4 ok4
  obtain ⟨a5, s5, rfl, hc5, hs5, hz5, rfl⟩ := errorString_of_trod hi hrow hp he hft hfo hs hc hcs hd5 ok5
  have b0 := (hrows a0.block a0.off (by simp [MemPlace.row])).1
  have b1 := (hrows a1.block a1.off (by simp [MemPlace.row])).1
  have b2 := (hrows a2.block a2.off (by simp [MemPlace.row])).1
  have b3 := (hrows a3.block a3.off (by simp [MemPlace.row])).1
  have b4 := (hrows a4.block a4.off (by simp [MemPlace.row])).1
  have b5 := (hrows a5.block a5.off (by simp [MemPlace.row])).1
  refine ⟨a0, a1, a2, a3, a4, a5, ⟨hv0, hv1, hv2, hv3, hv4, hv5⟩, ⟨b0, b1, b2, b3, b4, b5⟩, ?_, ?_, ?_, ?_, ?_, ?_, ?_, ?_, ?_, ?_, ?_, ?_, ?_, ?_, ?_⟩ <;>
    (rintro rfl; simp [MemPlace.row] at hnd)
theorem run_append_allV {w : World} {t ty e : TypeId} {i : TypeInfo} {z : Value} (ht : P.underlying t = some (.slice e)) (hi : P.info? e = some i) (hz : i.zero = some z) (hsize : i.size = 1) (by8 : Nat) (hby : i.bytes = by8) (h8 : 0 < by8 ∧ by8 ≤ 8)
    (b a : Addr) {n c : Nat} {x : Nat → Nat} (hn0 : 0 < n) (hn : n ≤ 1048576) (hx : ∀ k, k < n → w.cell? (a.add k) = some (flV x k)) :
    ∃ cs cap, LvV cs n (flV x) ∧ (Builtin.append_ #[t, t] ty #[.slice (some b) 0 0, .slice (some a) n c]).run P w = .ok (.slice (some ⟨w.heap.size, 0, none⟩) n cap) (w.drew.alloc (.cells cs e)) := by
  have hr := run_append_grow (P := P) w t ty e i z ht hi hz b 0 0 [] (by simp) (by simp) a n c ((List.range n).map (flV x)) (by simp [hsize]) (fun j v hj => by
    rw [List.getElem?_map] at hj
    by_cases hk : j < n
    · rw [List.getElem?_range hk] at hj
      simp only [Option.map_some, Option.some.injEq] at hj
      subst hj
      exact hx j hk
    · rw [List.getElem?_eq_none (by simp; omega)] at hj; cases hj) (by omega) (by omega) (growslice_fits (by omega) (by rw [hby, Nat.zero_add]; have := Nat.mul_le_mul hn h8.2; omega))
  simp only [Nat.zero_add] at hr
  refine ⟨_, _, ?_, hr⟩
  refine ⟨by simp, fun k hk => ?_⟩
  rw [Array.getElem?_append_left (by simp; omega), Array.getElem?_append_right (by simp)]
  simp [hk]
theorem wpList_append_allV {w : World} {ops : Array Oper} {rest : List Oper} {o : Oper} {a : Act} {Q : Exit → Act → World → Prop} (hg : o.guard = none) (s y : Operand) (t : TypeId) (hop : o.op = Op.call { callee := Callee.builtin Builtin.append, args := #[s, y], argTypes := #[t, t] })
    (e : TypeId) (ht : P.underlying t = some (.slice e)) (z : Value) (by8 : Nat) (h8 : 0 < by8 ∧ by8 ≤ 8) (hi : (P.info? e).map (fun i => (i.zero, i.size, i.bytes)) = some (some z, 1, by8))
    (b ad : Addr) {n c : Nat} {x : Nat → Nat} (hs : a.eval s = .slice (some b) 0 0) (hx : a.eval y = .slice (some ad) n c) (hn0 : 0 < n) (hn : n ≤ 1048576) (hc : ∀ k, k < n → w.cell? (ad.add k) = some (flV x k))
    (hk : ∀ B cs cap w', w.heap.size ≤ B → LvV cs n (flV x) → Kept w [(B, cs, e)] w' → wpList P ops Q rest (a.put o.dst (.slice (some ⟨B, 0, none⟩) n cap)) w') : wpList P ops Q (o :: rest) a w := by
  obtain ⟨i, hi1, hi2⟩ := Option.map_eq_some_iff.1 hi
  injection hi2 with hz hi3
  injection hi3 with hsize hby
  obtain ⟨cs, cap, h1, hrun⟩ := run_append_allV (ty := o.type) ht hi1 hz hsize by8 hby h8 b ad (c := c) hn0 hn hc
  refine wpList_plain hg fun K hK' => ?_
  unfold Oper.wp
  simp [execOp, hop, resolve, invoke, builtin, hs, hx, hrun, Result.andThen]
  exact hK' _ _ (hk _ cs cap _ (Nat.le_refl _) h1 (by have := (Kept.nil w).drew.push cs e; exact this))
theorem first_bad {p : Nat → Bool} {n : Nat} (h : ¬ ∀ k, k < n → p k = true) : ∃ j, j < n ∧ p j = false ∧ ∀ k, k < j → p k = true := by
  induction n with
  | zero => exact absurd (fun k hk => absurd hk (Nat.not_lt_zero k)) h
  | succ n ih =>
    by_cases hn : ∀ k, k < n → p k = true
    · refine ⟨n, Nat.lt_succ_self n, ?_, hn⟩
      cases hp : p n with
      | false => rfl
      | true => exact absurd (fun k hk => by rcases Nat.lt_or_eq_of_le (Nat.le_of_lt_succ hk) with h1 | rfl; exact hn k h1; exact hp) h
    · obtain ⟨j, h1, h2⟩ := ih hn
      exact ⟨j, Nat.lt_succ_of_lt h1, h2⟩
end Go.Fl
/- What a step between two speeds comes to, whoever counts the folds. No program. -/
namespace Go.Fl
open Ieee Go Go.RowKit
section
variable {P : Program}
theorem arith_is (op : BinOp) (hop : op = .add ∨ op = .sub ∨ op = .mul ∨ op = .quo) (t : TypeId) (x y : Nat) (w : World) :
    ∃ z w1, (binOp op t (.float .f32 x) (.float .f32 y)).run P w = .ok (.float .f32 z) w1 ∧ (w1 = w ∨ w1 = w.drew) ∧ z < 4294967296 ∧ (∀ r, floatBits op .f32 x y = some r → z = r) ∧ (floatBits op .f32 x y = none → INF < mg z) := by
  cases h : floatBits op .f32 x y with
  | some r => exact ⟨r, w, run_float_arith (P := P) w op t .f32 x y r h, .inl rfl, bits_lt hop h, fun _ e => Option.some.inj e, (fun e => nomatch e)⟩
  | none =>
    obtain ⟨z, h1, h2, h3⟩ := run_arith_nan (P := P) w op hop t x y h
    exact ⟨z, _, h1, .inr rfl, h3, (fun _ e => nomatch e), fun _ => h2⟩
end
/-- What a number and its sum with w times f may come to. -/
structure Vf (w c f p2 v : Nat) : Prop where
  m1 : ∀ r, S.mul w f = some r → p2 = r
  m2 : S.mul w f = none → INF < mg p2
  a1 : ∀ r, S.add c p2 = some r → v = r
  a2 : S.add c p2 = none → INF < mg v
  lv : v < 4294967296
/-- The count of folds is k, or both are zeros. -/
def Pf (k f : Nat) : Prop := (S.order f 0 == some .eq) = (S.order k 0 == some .eq) ∧ ((S.order k 0 == some .eq) = false → f = k)
theorem nan_nfin {z : Nat} (h : INF < mg z) : finB z = false := by rw [finB_iff']; omega
theorem ok_z {l p c y d w q Q K k f : Nat} (h : StepOk l p c y d w q Q K k) (hf : Pf k f) (hz : (S.order f 0 == some .eq) = true) : y = c := by
  rw [hf.1] at hz
  rcases h.hv with ⟨_, e⟩ | ⟨e, _⟩
  · exact e
  · rw [e] at hz; cases hz
theorem ok_n {l p c y d w q Q K k f p2 v : Nat} (h : StepOk l p c y d w q Q K k) (hf : Pf k f) (hz : (S.order f 0 == some .eq) = false) (hv : Vf w c f p2 v) : v = y := by
  rw [hf.1] at hz
  rcases h.hv with ⟨e, _⟩ | ⟨e, pp, e1, e2⟩
  · rw [e] at hz; cases hz
  · obtain rfl := hf.2 e
    obtain rfl := hv.m1 _ e1
    exact hv.a1 _ e2
theorem inf_z {l p c y d w q Q K k f : Nat} (h : StepInf l p c y d w q Q K k) (hf : Pf k f) : (S.order f 0 == some .eq) = false := by
  rw [hf.1]; exact h.hz
theorem inf_n {l p c y d w q Q K k f p2 v : Nat} (h : StepInf l p c y d w q Q K k) (hf : Pf k f) (hv : Vf w c f p2 v) : finB v = false := by
  obtain ⟨pp, e1, e2⟩ := h.hv
  obtain rfl := hf.2 h.hz
  obtain rfl := hv.m1 _ e1
  obtain rfl := hv.a1 _ e2
  exact h.fv
theorem nan_z {f : Nat} (h : INF < mg f) : (S.order f 0 == some .eq) = false := by rw [order_nan32 h]; rfl
theorem nan_n {w c f p2 v : Nat} (h : INF < mg f) (hv : Vf w c f p2 v) : finB v = false :=
  nan_nfin (hv.a2 (add_nan2 (hv.m2 (mul_nan2 h))))
/-- The words of a list, one of them replaced. -/
def upN (z : Nat → Nat) (k v : Nat) : Nat → Nat := fun i => if i = k then v else z i
theorem upN_fl (z : Nat → Nat) (k v : Nat) : upV (flV z) k (.float .f32 v) = flV (upN z k v) := by
  funext i
  unfold upV flV upN
  by_cases h : i = k
  · rw [if_pos h, if_pos h]
  · rw [if_neg h, if_neg h]
theorem own_stayB {w w' : World} {base size n : Nat} {T : TypeId} {v : Value} {xs : List Value} (h : w.ownsRow base T size v n xs) (hb : Below w.heap.size w w') : w'.ownsRow base T size v n xs := by
  obtain ⟨h1, h2⟩ := h
  refine ⟨h1, ?_⟩
  rcases h2 with h2 | ⟨g, cap, cur, e, hB, hg, hr⟩
  · exact .inl h2
  · exact .inr ⟨g, cap, cur, e, hB, (hb.block g (lt_of_block hg)).trans hg, hr⟩
end Go.Fl
/- A slice of singles that came in. No program. -/
namespace Go.Fl
open Ieee Go Go.RowKit Go.ChangeShapes Go.WideShapes
section
variable {H : Type} {enc : TypeId × Value → H} {P : Program} {w : World} {base : Nat} {spare : Nat → Bool} {held : Bool}
theorem open_f32s {t f : TypeId} {v : Value} {d : DataW H} {p : List MemPlace} (ht : P.underlying t = some (.slice f)) (hf : P.underlying f = some (.float .f32)) (hF : P.cellsOf f = 1)
    (h : DataW.Trod enc P w base spare held t v d p) (hv : v.cells.toList = [v]) : ∃ n x, RdV w v n (flV x) ∧ n ≤ maxLen ∧ ∀ k, k < n → x k < 4294967296 := by
  obtain ⟨fuel, h⟩ := h
  rw [hv] at h
  rcases Go.Deep.open_slice ht h with ⟨h0, _⟩ | ⟨ad, len, cap, m, n, D, Pl, hcs, _, hlc, hcm, hm, _, hel⟩
  · injection h0 with h0 _
    subst h0
    exact ⟨0, fun _ => 0, ⟨none, 0, rfl, fun h => by omega⟩, Nat.zero_le _, fun _ _ => Nat.zero_lt_succ _⟩
  · injection hcs with hcs _
    subst hcs
    have hlm : len ≤ m := by rw [hm]; split <;> omega
    have one : ∀ i, i < len → ∃ q : Nat, w.cell? (ad.add i) = some (.float .f32 q) ∧ q < 4294967296 := by
      intro i hi
      obtain ⟨cs', hc, ht'⟩ := hel i (by omega)
      rw [hF, Nat.mul_one] at hc
      obtain ⟨_, hlen, hat⟩ := World.cells?_some hc
      obtain ⟨q, r, s⟩ := trod_f32 hf ht'
      subst r
      have a0 := hat 0 (by omega)
      simp only [Addr.add_add, Nat.add_zero] at a0
      exact ⟨q, by simpa using a0, s⟩
    obtain ⟨Q, hQ⟩ : ∃ Q : Nat → Nat, ∀ i, i < len → w.cell? (ad.add i) = some (.float .f32 (Q i)) ∧ Q i < 4294967296 :=
      ⟨fun i => if hi : i < len then Classical.choose (one i hi) else 0, fun i hi => by simp only [dif_pos hi]; exact Classical.choose_spec (one i hi)⟩
    refine ⟨len, Q, ⟨some ad, cap, rfl, fun hn => ?_⟩, Nat.le_trans hlc hcm, fun k hk => (hQ k hk).2⟩
    have hsp : ad.spot = none := by
      have := (hQ 0 hn).1
      unfold World.cell? at this
      split at this
      · split at this
        · cases this
        · rename_i hs; simpa [Addr.add] using hs
      · cases this
    obtain ⟨b, o, sp⟩ := ad
    obtain rfl : sp = none := hsp
    refine ⟨b, o, rfl, fun k hk => ?_⟩
    have hq := (hQ k hk).1
    rw [Addr.add_mid] at hq
    exact hq
end
end Go.Fl
