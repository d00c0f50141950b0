import Derived.Test.YtjcdfgcnnnaooaaDoorCReadNumber
import Derived.Laws.FloatArith
import Derived.ProofKit
import Derived.WalkKit
import Derived.WalkLawsBesides
import Derived.WalkSpells
import Derived.Deep.RegionHeld3
import Derived.ChangeKeysEq
import Derived.Laws.BitsAllLaws
import Derived.Deep.MidRow
import Derived.Deep.WholeRow
import Derived.StillTailTactics
import Derived.Deep.Slices
import Derived.ChangeSame
import Derived.OrdersIn
import Derived.ControlIn
import Derived.RangeFuncSeq
import Derived.RangeFuncNested
import Derived.ArgAppend
import Derived.OwnWalkIn
import Derived.TacticsInMore
import Derived.Below
import Derived.Laws.AppendOwn
import Derived.Laws.ComplexArith
import Derived.Deep.Strs
import Derived.Laws.IdiomStrings
import Derived.Laws.Bits64b
import Derived.Deep.QuietTactic
import Derived.BigQuiet
import Derived.OpenShut
import Derived.Stop.LaidErr
import Derived.LaidMore
import Derived.Handed
import Derived.LaidHandle
import Derived.Stop.Joined
import Derived.MakeChecks
import Derived.Lib.LaidTab
import Derived.StillTail
import Derived.Shelf.Strings.OnBuilder
import Derived.Lib.Join
import Derived.Shelf.Strings.BuilderK
import Derived.RangeFuncLeaves
import Derived.RangeFuncBox
import Derived.LoopNIn
import Derived.LoopIn
import Derived.Shelf.Abstract
import Derived.Lib.ConvBytes
import Derived.Shelf.Strconv.SyntaxError
import Derived.Lib.IfaceEq
import Derived.ChangeMaps5
import Derived.SevenTiedAt
/- What the law ReadNumber leans on, of no program: words of singles and doubles, blocks of memory, regions. -/
/- Cells of a map of echoes: two small numbers, a single, a number; slices of them that came in. No program. -/
namespace Go.Fl
open Ieee Go Go.RowKit Go.ChangeShapes
structure E4 where
  a : Int
  b : Int
  q : Nat
  s : Int
def e4 (c : E4) : List Value := [.int .i16 c.a, .int .i16 c.b, .float .f32 c.q, .int .i64 c.s]
def i16B (n : Int) : Prop := -32768 ≤ n ∧ n ≤ 32767
def E4.ok (c : E4) : Prop := c.q < 4294967296 ∧ i16B c.a ∧ i16B c.b
theorem E4.zero_ok : (⟨0, 0, 0, 0⟩ : E4).ok := ⟨Nat.zero_lt_succ _, by constructor <;> decide, by constructor <;> decide⟩
def Bef (c d : E4) : Prop := c.a < d.a ∨ (c.a = d.a ∧ c.b < d.b)
instance (c d : E4) : Decidable (Bef c d) := inferInstanceAs (Decidable (_ ∨ _))
/-- Reads as n cells. -/
def RdE (w : World) (v : Value) (n : Nat) (x : Nat → E4) : Prop := ∃ p cap, v = .slice p n cap ∧ (0 < n → ∃ b o, p = some ⟨b, o, none⟩ ∧ ∀ i, i < n → w.rangeAt b (o + i * 4) (e4 (x i)))
theorem range_cells {w : World} {b o : Nat} {c : E4} (h : w.rangeAt b o (e4 c)) :
    w.cell? ⟨b, o, none⟩ = some (.int .i16 c.a) ∧ w.cell? ⟨b, o + 1, none⟩ = some (.int .i16 c.b) ∧ w.cell? ⟨b, o + 2, none⟩ = some (.float .f32 c.q) ∧ w.cell? ⟨b, o + 3, none⟩ = some (.int .i64 c.s) :=
  ⟨h 0 _ rfl, h 1 _ rfl, h 2 _ rfl, h 3 _ rfl⟩
theorem range_of_cells {w : World} {b o : Nat} {c : E4} (h : w.cell? ⟨b, o, none⟩ = some (.int .i16 c.a) ∧ w.cell? ⟨b, o + 1, none⟩ = some (.int .i16 c.b) ∧ w.cell? ⟨b, o + 2, none⟩ = some (.float .f32 c.q) ∧ w.cell? ⟨b, o + 3, none⟩ = some (.int .i64 c.s)) :
    w.rangeAt b o (e4 c) := by
  obtain ⟨h0, h1, h2, h3⟩ := h
  intro j v hv
  match j, hv with
  | 0, hv => simp only [e4, List.getElem?_cons_zero, Option.some.injEq] at hv; subst hv; exact h0
  | 1, hv => simp only [e4, List.getElem?_cons_succ, List.getElem?_cons_zero, Option.some.injEq] at hv; subst hv; exact h1
  | 2, hv => simp only [e4, List.getElem?_cons_succ, List.getElem?_cons_zero, Option.some.injEq] at hv; subst hv; exact h2
  | 3, hv => simp only [e4, List.getElem?_cons_succ, List.getElem?_cons_zero, Option.some.injEq] at hv; subst hv; exact h3
  | j + 4, hv => simp [e4] at hv
theorem range_stay {w w' : World} {m b o : Nat} {c : E4} (h : w.rangeAt b o (e4 c)) (hm : m = w.heap.size) (hb : Below m w w') : w'.rangeAt b o (e4 c) := by
  subst hm
  refine range_of_cells ?_
  obtain ⟨h0, h1, h2, h3⟩ := range_cells h
  exact ⟨by rw [hb.cell (block_lt_of_cell h0)]; exact h0, by rw [hb.cell (block_lt_of_cell h1)]; exact h1, by rw [hb.cell (block_lt_of_cell h2)]; exact h2, by rw [hb.cell (block_lt_of_cell h3)]; exact h3⟩
theorem range_two {w : World} {b o : Nat} {c : E4} (h : w.rangeAt b o (e4 c)) : w.rangeAt b o [.int .i16 c.a, .int .i16 c.b] := by
  obtain ⟨h0, h1, _, _⟩ := range_cells h
  intro j v hv
  match j, hv with
  | 0, hv => simp only [List.getElem?_cons_zero, Option.some.injEq] at hv; subst hv; exact h0
  | 1, hv => simp only [List.getElem?_cons_succ, List.getElem?_cons_zero, Option.some.injEq] at hv; subst hv; exact h1
  | j + 2, hv => simp at hv
section
variable {H : Type} {enc : TypeId × Value → H} {P : Program} {w : World} {base : Nat} {spare : Nat → Bool} {held : Bool}
theorem trod_intK {t : TypeId} {k : IntKind} {fuel : Nat} {cs : List Value} {x : DataW H × List MemPlace} (ht : P.underlying t = some (.int k)) (h : DataW.trod enc P w base spare held fuel t cs = some x) : ∃ n, cs = [.int k n] ∧ (Lit.int k n).wf = true := by
  cases fuel with
  | zero => simp [DataW.trod] at h
  | succ n =>
    unfold DataW.trod at h
    rw [ht] at h
    split at h <;> simp_all
theorem wf_i16 {n : Int} (h : (Lit.int .i16 n).wf = true) : i16B n := by
  simpa [Lit.wf, IntKind.has, IntKind.min, IntKind.max, IntKind.signed, IntKind.bits, i16B] using h
theorem trod_array2 {t e : TypeId} {fuel : Nat} {c0 c1 : Value} {x : DataW H × List MemPlace} (ht : P.underlying t = some (.array 2 e)) (hce : P.cellsOf e = 1)
    (h : DataW.trod enc P w base spare held fuel t [c0, c1] = some x) :
    ∃ y0 y1 n, DataW.trod enc P w base spare held n e [c0] = some y0 ∧ DataW.trod enc P w base spare held n e [c1] = some y1 := by
  cases fuel with
  | zero => simp [DataW.trod] at h
  | succ n =>
    unfold DataW.trod at h
    rw [ht] at h
    have r2 : List.range 2 = [0, 1] := rfl
    simp [r2, hce] at h
    obtain ⟨_, h⟩ := h
    cases h0 : DataW.trod enc P w base spare held n e [c0] with
    | none => simp [h0] at h
    | some y0 =>
      cases h1 : DataW.trod enc P w base spare held n e [c1] with
      | none => simp [h0, h1] at h
      | some y1 => exact ⟨y0, y1, n, h0, h1⟩
theorem open_echo {t e f i16 i64 sp : TypeId} {f0 f1 f2 : Field} {v : Value} {d : DataW H} {p : List MemPlace} (ht : P.underlying t = some (.slice e)) (he : P.underlying e = some (.struct #[f0, f1, f2])) (hs : P.underlying sp = some (.array 2 i16)) (h16 : P.underlying i16 = some (.int .i16))
    (hf : P.underlying f = some (.float .f32)) (h64 : P.underlying i64 = some (.int .i64)) (e0 : f0.type = sp ∧ f0.offset = 0) (e1 : f1.type = f ∧ f1.offset = 2) (e2 : f2.type = i64 ∧ f2.offset = 3) (hC : P.cellsOf e = 4) (hS : P.cellsOf sp = 2) (h1 : P.cellsOf i16 = 1) (hF : P.cellsOf f = 1) (hI : P.cellsOf i64 = 1)
    (h : DataW.Trod enc P w base spare held t v d p) (hv : v.cells.toList = [v]) : ∃ n x, RdE w v n x ∧ n ≤ maxLen ∧ ∀ k, (x k).ok := by
  obtain ⟨fuel, h⟩ := h
  rw [hv] at h
  rcases Go.Deep.open_slice ht h with ⟨h0, _⟩ | ⟨ad, len, cap, m, n, D, Pl, hcs, _, hlc, hcm, hm, _, hel⟩
  · injection h0 with h0 _
    subst h0
    exact ⟨0, fun _ => ⟨0, 0, 0, 0⟩, ⟨none, 0, rfl, fun h => by omega⟩, Nat.zero_le _, fun _ => E4.zero_ok⟩
  · injection hcs with hcs _
    subst hcs
    have hlm : len ≤ m := by rw [hm]; split <;> omega
    have one : ∀ i, i < len → ∃ c : E4, (w.cell? (ad.add (i * 4)) = some (.int .i16 c.a) ∧ w.cell? (ad.add (i * 4 + 1)) = some (.int .i16 c.b) ∧ w.cell? (ad.add (i * 4 + 2)) = some (.float .f32 c.q) ∧ w.cell? (ad.add (i * 4 + 3)) = some (.int .i64 c.s)) ∧ c.ok := by
      intro i hi
      obtain ⟨cs', hc, ht'⟩ := hel i (by omega)
      rw [hC] at hc
      obtain ⟨_, hlen, hat⟩ := World.cells?_some hc
      obtain ⟨y0, y1, y2, n1, _, _, k0, k1, k2⟩ := Go.Deep.trod_struct3 he ht'
      rw [e0.1, e0.2, hS] at k0
      rw [e1.1, e1.2, hF] at k1
      rw [e2.1, e2.2, hI] at k2
      match cs', hlen with
      | [c0, c1, c2, c3], _ =>
        simp only [List.drop_zero, List.take_succ_cons, List.take_zero, List.drop_succ_cons] at k0 k1 k2
        obtain ⟨z0, z1, n2, l0, l1⟩ := trod_array2 hs h1 k0
        obtain ⟨q0, r0, s0⟩ := trod_intK h16 l0
        obtain ⟨q1, r1, s1⟩ := trod_intK h16 l1
        obtain ⟨q2, r2, s2⟩ := trod_f32 hf k1
        obtain ⟨q3, r3, _⟩ := trod_intK h64 k2
        simp only [List.cons.injEq, and_true] at r0 r1 r2 r3
        subst r0 r1 r2 r3
        have a0 := hat 0 (by omega)
        have a1 := hat 1 (by omega)
        have a2 := hat 2 (by omega)
        have a3 := hat 3 (by omega)
        simp only [Addr.add_add] at a0 a1 a2 a3
        exact ⟨⟨q0, q1, q2, q3⟩, ⟨by simpa using a0, by simpa using a1, by simpa using a2, by simpa using a3⟩, s2, wf_i16 s0, wf_i16 s1⟩
    obtain ⟨Q, hQ⟩ : ∃ Q : Nat → E4, ∀ i, i < len → (w.cell? (ad.add (i * 4)) = some (.int .i16 (Q i).a) ∧ w.cell? (ad.add (i * 4 + 1)) = some (.int .i16 (Q i).b) ∧ w.cell? (ad.add (i * 4 + 2)) = some (.float .f32 (Q i).q) ∧ w.cell? (ad.add (i * 4 + 3)) = some (.int .i64 (Q i).s)) ∧ (Q i).ok :=
      ⟨fun i => if hi : i < len then Classical.choose (one i hi) else ⟨0, 0, 0, 0⟩, fun i hi => by simp only [dif_pos hi]; exact Classical.choose_spec (one i hi)⟩
    refine ⟨len, fun k => if k < len then Q k else ⟨0, 0, 0, 0⟩, ⟨some ad, cap, rfl, fun hn => ?_⟩, Nat.le_trans hlc hcm, fun k => ?_⟩
    · have hsp : ad.spot = none := by
        have := (hQ 0 hn).1.1
        unfold World.cell? at this
        split at this
        · split at this
          · cases this
          · rename_i hs; simpa [Addr.add] using hs
        · cases this
      obtain ⟨b, o, sp⟩ := ad
      obtain rfl : sp = none := hsp
      refine ⟨b, o, rfl, fun i hi => ?_⟩
      have hq := (hQ i hi).1
      simp only [Addr.add_mid] at hq
      show w.rangeAt b (o + i * 4) (e4 (if i < len then Q i else ⟨0, 0, 0, 0⟩))
      rw [if_pos hi]
      simp only [← Nat.add_assoc] at hq
      exact range_of_cells hq
    · show (if k < len then Q k else ⟨0, 0, 0, 0⟩ : E4).ok
      split
      · rename_i hk; exact (hQ k hk).2
      · exact E4.zero_ok
end

/-- The first k cells of a block of n are those of x. -/
def LvE (cs : Array Value) (n k : Nat) (x : Nat → E4) : Prop := cs.size = 4 * n ∧ ∀ i, i < k → cs[i * 4]? = some (.int .i16 (x i).a) ∧ cs[i * 4 + 1]? = some (.int .i16 (x i).b) ∧ cs[i * 4 + 2]? = some (.float .f32 (x i).q) ∧ cs[i * 4 + 3]? = some (.int .i64 (x i).s)
theorem LvE.step {cs : Array Value} {n k : Nat} {x : Nat → E4} (h : LvE cs n k x) (hk : k < n) : LvE (putCells cs (k * 4) (e4 (x k))) n (k + 1) x := by
  have hs := h.1
  show LvE ((((cs.setIfInBounds (k * 4) _).setIfInBounds (k * 4 + 1) _).setIfInBounds (k * 4 + 1 + 1) _).setIfInBounds (k * 4 + 1 + 1 + 1) _) n (k + 1) x
  refine ⟨by simpa using hs, fun i hi => ?_⟩
  simp only [Array.getElem?_setIfInBounds, Array.size_setIfInBounds]
  by_cases he : i = k
  · subst he
    refine ⟨?_, ?_, ?_, ?_⟩
    · rw [if_neg (by omega), if_neg (by omega), if_neg (by omega), if_pos rfl, if_pos (by omega)]
    · rw [if_neg (by omega), if_neg (by omega), if_pos rfl, if_pos (by omega)]
    · rw [if_neg (by omega), if_pos (by omega), if_pos (by omega)]
    · rw [if_pos (by omega), if_pos (by omega)]
  · have := h.2 i (by omega)
    refine ⟨?_, ?_, ?_, ?_⟩
    · rw [if_neg (by omega), if_neg (by omega), if_neg (by omega), if_neg (by omega)]; exact this.1
    · rw [if_neg (by omega), if_neg (by omega), if_neg (by omega), if_neg (by omega)]; exact this.2.1
    · rw [if_neg (by omega), if_neg (by omega), if_neg (by omega), if_neg (by omega)]; exact this.2.2.1
    · rw [if_neg (by omega), if_neg (by omega), if_neg (by omega), if_neg (by omega)]; exact this.2.2.2
theorem LvE.rd {w w0 : World} {cs : Array Value} {n B : Nat} {T : TypeId} {x : Nat → E4} {l : List (Nat × Array Value × TypeId)} (h : LvE cs n n x) (k : Kept w0 l w) (hm : (B, cs, T) ∈ l) (cap : Nat) : RdE w (.slice (some ⟨B, 0, none⟩) n cap) n x := by
  have hb := k.at hm
  refine ⟨_, cap, rfl, fun _ => ⟨B, 0, rfl, fun i hi => range_of_cells ?_⟩⟩
  obtain ⟨h0, h1, h2, h3⟩ := h.2 i hi
  rw [Nat.zero_add]
  exact ⟨(cell_of_row w B _ _ _ _ hb).trans h0, (cell_of_row w B _ _ _ _ hb).trans h1, (cell_of_row w B _ _ _ _ hb).trans h2, (cell_of_row w B _ _ _ _ hb).trans h3⟩
theorem run_makeE {P : Program} {t e : TypeId} (ht : P.underlying t = some (.slice e)) (hi : (P.info? e).map (fun i => (i.zero, i.size, i.bytes)) = some (some (.agg #[.int .i16 0, .int .i16 0, .float .f32 0, .int .i64 0]), 4, 16)) {n : Nat} (hn : n ≤ 1048576) (w : World) :
    ∃ cs, LvE cs n 0 (fun _ => ⟨0, 0, 0, 0⟩) ∧ (Instr.makeSlice t (.int .i64 (n : Int)) (.int .i64 (n : Int))).run P w = .ok (.slice (some ⟨w.heap.size, 0, none⟩) n n) (w.alloc (.cells cs e)) := by
  obtain ⟨i, hi1, hi2⟩ := Option.map_eq_some_iff.1 hi
  injection hi2 with h2 hi3
  injection hi3 with h3 h4
  have h := run_make (P := P) w t e i _ ht hi1 h2 .i64 .i64 n n (by omega) (Int.le_refl _) (by rw [h4]; omega) (by omega)
  refine ⟨_, ⟨?_, fun i hi => absurd hi (Nat.not_lt_zero _)⟩, by rw [h, h3]; simp only [Int.toNat_natCast]; rfl⟩
  simp [madeCells]
  omega
section
variable {P : Program} {md : Region.Mode} {ops : Array Oper} {Q : Exit → Act → World → Prop} {S : World → Prop} {fuel : Nat} {listed : Array Bool} {a : Act} {w : World} {d : Option Tmp} {op : Op} {ty0 : TypeId} {ps : String} {af : Array Edge} {gd : Option (Nat × Bool)}
/-- An operation whose guard does not hold is passed. -/
theorem take_skip (i : Nat) (a' : Act) (listed' : Array Bool) (ho : ops[i]? = some ⟨d, op, ty0, ps, af, gd⟩) (hw : Region.wanted ⟨d, op, ty0, ps, af, gd⟩ (yielded ops a.tmps) = false)
    (hs : Region.noSelect ops = true) (hf : Region.free md ops listed i = true) (hr : (Region.ready md ops listed).contains i = true)
    (ha : a.put d undef = a') (hl : listed.setIfInBounds i true = listed') (hS : S w)
    (h : wpAnyH P md ops (NoPanic Q) S fuel listed' a' w) : wpAnyH P md ops (NoPanic Q) S (fuel + 1) listed a w := by
  subst ha hl
  exact wpAnyH_take ho hs hf hr (fun _ _ _ h => h) (.inr ⟨hw, rfl⟩) hS h
end
end Go.Fl
/- Slices whose elements have one cell; the words of noise. No program. -/
namespace Go.Fl
open Ieee Go Go.RowKit
/-- The first m cells are y. -/
def LvV (cs : Array Value) (m : Nat) (y : Nat → Value) : Prop := m ≤ cs.size ∧ ∀ k, k < m → cs[k]? = some (y k)
def upV (y : Nat → Value) (i : Nat) (a : Value) : Nat → Value := fun k => if k = i then a else y k
theorem LvV.set {cs : Array Value} {m : Nat} {y : Nat → Value} (h : LvV cs m y) (i : Nat) (a : Value) : LvV (cs.setIfInBounds i a) m (upV y i a) := by
  refine ⟨by simp [h.1], fun k hk => ?_⟩
  unfold upV
  by_cases e : k = i
  · subst e
    rw [if_pos rfl, Array.getElem?_setIfInBounds_self_of_lt (by have := h.1; omega)]
  · rw [if_neg e, Array.getElem?_setIfInBounds_ne (by omega)]
    exact h.2 k hk
theorem LvV.ext {cs : Array Value} {m : Nat} {y z : Nat → Value} (h : LvV cs m y) (e : ∀ k, k < m → y k = z k) : LvV cs m z := ⟨h.1, fun k hk => by rw [h.2 k hk, e k hk]⟩
def RdV (w : World) (v : Value) (n : Nat) (y : Nat → Value) : Prop := ∃ p cap, v = .slice p n cap ∧ (0 < n → ∃ b o, p = some ⟨b, o, none⟩ ∧ ∀ k, k < n → w.cell? ⟨b, o + k, none⟩ = some (y k))
section
variable {w0 w w' : World} {l : List (Nat × Array Value × TypeId)} {B : Nat} {cs : Array Value} {T : TypeId} {y : Nat → Value} {n m : Nat}
theorem LvV.cell (h : LvV cs m y) (hb : w.heap[B]? = some (.cells cs T (0, 0))) {k : Nat} (hk : k < m) : w.cell? ⟨B, k, none⟩ = some (y k) :=
  (cell_of_row w B k _ _ _ hb).trans (h.2 k hk)
theorem LvV.rd (h : LvV cs n y) (hb : w.heap[B]? = some (.cells cs T (0, 0))) (cap : Nat) : RdV w (.slice (some ⟨B, 0, none⟩) n cap) n y :=
  ⟨some ⟨B, 0, none⟩, cap, rfl, fun _ => ⟨B, 0, rfl, fun k hk => by rw [Nat.zero_add]; exact h.cell hb hk⟩⟩
theorem Kept.rdV (k : Kept w0 l w) (h : LvV cs n y) (hm : (B, cs, T) ∈ l) (cap : Nat) : RdV w (.slice (some ⟨B, 0, none⟩) n cap) n y := h.rd (k.at hm) cap
theorem RdV.zero (w : World) (p : Option Addr) (cap : Nat) (y : Nat → Value) : RdV w (.slice p 0 cap) 0 y := ⟨p, cap, rfl, fun h => absurd h (Nat.lt_irrefl _)⟩
theorem RdV.stay {v : Value} (h : RdV w v n y) (hb : Below w.heap.size w w') : RdV w' v n y := by
  obtain ⟨p, cap, rfl, hc⟩ := h
  refine ⟨p, cap, rfl, fun hn => ?_⟩
  obtain ⟨b, o, rfl, hr⟩ := hc hn
  exact ⟨b, o, rfl, fun k hk => by have h1 := hr k hk; rw [hb.cell (block_lt_of_cell h1)]; exact h1⟩
end
/-- Marks in place up to m, as before from there on. -/
def mrV (y f : Nat → Value) (m : Nat) : Nat → Value := fun j => if j < m then f j else y j
theorem mrV_zero (y f : Nat → Value) : mrV y f 0 = y := by funext j; simp [mrV]
theorem mrV_step (y f : Nat → Value) (m : Nat) : upV (mrV y f m) m (f m) = mrV y f (m + 1) := by
  funext j
  unfold mrV upV
  by_cases h : j = m
  · subst h; rw [if_pos rfl, if_pos (by omega)]
  · rw [if_neg h]
    by_cases h1 : j < m
    · show (if j < m then f j else y j) = _
      rw [if_pos h1, if_pos (by omega)]
    · show (if j < m then f j else y j) = _
      rw [if_neg h1, if_neg (by omega)]
section
variable {P : Program} {ops : Array Oper} {rest : List Oper} {o : Oper} {a : Act} {w w0 : World} {Q : Exit → Act → World → Prop} {l : List (Nat × Array Value × TypeId)} {T : TypeId} {cs : Array Value} {m : Nat} {y : Nat → Value}
/-- One element of a kept block, stored. -/
theorem store_lv1 (hgd : o.guard = none) (ty : TypeId) (x z : Operand) (ho : o.op = .store ty x z) (hi : (P.info? ty).map (·.size) = some 1) (B i : Nat) (v : Value) (hx : a.eval x = .pointer (some ⟨B, i, none⟩)) (hz : a.eval z = v) (h1 : v.oneCell' = true) (hs1 : v.cells = #[v])
    (k : Kept w0 ((B, cs, T) :: l) w) (h : LvV cs m y) (hm : i < m) (hB : w0.heap.size ≤ B) (hne : ∀ x ∈ l, x.1 ≠ B)
    (hn : ∀ w', Kept w0 ((B, cs.setIfInBounds i v, T) :: l) w' → LvV (cs.setIfInBounds i v) m (upV y i v) → wpList P ops Q rest (a.put o.dst undef) w') : wpList P ops Q (o :: rest) a w := by
  have hb := k.at (x := (B, cs, T)) (by simp)
  have hr := run_store_any (P := P) hi h1 hs1 (h.cell hb hm) (frozen_of_row w B i _ _ hb)
  refine wpList_plain hgd fun K hK' => ?_
  unfold Oper.wp
  simp [execOp, ho, Instr.storeAt, Instr.sureAddr, hx, hz, hr, Result.andThen]
  exact hK' _ _ (hn _ (k.lcell hB hne i _) (h.set i v))
def wdv (x : Nat → Value) (m : Nat) : List Value := (List.range m).map x
theorem wdv_get {x : Nat → Value} {m i : Nat} (h : i < m) : (wdv x m)[i]? = some (x i) := by simp [wdv, h]
theorem wdv_one (x : Nat → Value) (k : Nat) : wdv x k ++ [x k] = wdv x (k + 1) := by
  unfold wdv
  rw [List.range_succ]
  simp
theorem own_keptV {v : Value} {n : Nat} {x : Nat → Value} (hn : 0 < n) (h : w.ownsRow w0.heap.size T 1 v n (wdv x n)) (hb : Below w0.heap.size w0 w) :
    ∃ B cs cap, v = .slice (some ⟨B, 0, none⟩) n cap ∧ w0.heap.size ≤ B ∧ LvV cs n x ∧ Kept w0 [(B, cs, T)] w := by
  rcases h.2 with ⟨_, h0⟩ | ⟨g, cap, cur, e, hB, hg, hnc, hcm, hcs, ht⟩
  · omega
  · refine ⟨g, cur, cap, e, hB, ⟨?_, fun k hk => ?_⟩, ⟨hb, fun y hy => ?_⟩⟩
    · rw [hcs]; omega
    · have h1 : (cur.toList.take (n * 1))[k]? = some (x k) := by rw [ht]; exact wdv_get (by omega)
      rw [List.getElem?_take, if_pos (by omega), Array.getElem?_toList] at h1
      exact h1
    · simp only [List.mem_cons, List.not_mem_nil, or_false] at hy
      subst hy
      exact hg
/-- One element appended to a slice of one's own. -/
theorem append_one (hg : o.guard = none) (s y : Operand) (t : TypeId) (hop : o.op = Op.call { callee := Callee.builtin Builtin.append, args := #[s, y], argTypes := #[t, t] })
    (e : TypeId) (ht : P.underlying t = some (.slice e)) (z : Value) (by8 : Nat) (hzc : z.cells = #[z]) (h8 : 0 < by8 ∧ by8 ≤ 8) (hi : (P.info? e).map (fun i => (i.zero, i.size, i.bytes)) = some (some z, 1, by8))
    (v : Value) (k : Nat) (x : Nat → Value) (hs : a.eval s = v) (hown : w.ownsRow w0.heap.size e 1 v k (wdv x k)) (hb : Below w0.heap.size w0 w)
    (ad : Nat) (A : Value) (hA : x k = A) (h1c : A.oneCell' = true) (hx : a.eval y = .slice (some ⟨ad, 0, none⟩) 1 1) (hrow : w.heap[ad]? = some (.cells #[A] e (0, 0))) (hk : k ≤ 1048576)
    (h : ∀ v' w', w'.ownsRow w0.heap.size e 1 v' (k + 1) (wdv x (k + 1)) → Below w0.heap.size w0 w' → wpList P ops Q rest (a.put o.dst v') w') : wpList P ops Q (o :: rest) a w := by
  obtain ⟨i, hi1, hi2⟩ := Option.map_eq_some_iff.1 hi
  injection hi2 with hz hi3
  injection hi3 with hsize hby
  refine wpList_append_own w hg s y t hop w0.heap.size e i _ 1 by8 ht hi1 hz hsize hby (by rw [hzc]; rfl) (by omega) v k (wdv x k) hs hown ⟨ad, 0, none⟩ 1 1 [A] hx rfl (fun j u hj => ?_) (by simp [h1c]) (Nat.le_trans (show k + 1 ≤ 2097152 by omega) (by decide)) (by have := Nat.mul_le_mul (show k + 1 ≤ 1048577 by omega) h8.2; omega) hb.size (fun v' w' h1 h2 _ => h v' w' ?_ ?_)
  · rw [Addr.add_mid, cell_of_row w ad (0 + j) _ _ _ hrow, Nat.zero_add]
    rw [← hj, ← Array.getElem?_toList]
  · subst hA
    rw [wdv_one] at h1
    exact h1
  · exact hb.grown h2 hb.size fun g hgv => (hown.lt g hgv).1
theorem run_makeV {t e : TypeId} (ht : P.underlying t = some (.slice e)) (z : Value) (by8 : Nat) (hz : z.cells = #[z]) (h8 : by8 ≤ 8) (hi : (P.info? e).map (fun i => (i.zero, i.size, i.bytes)) = some (some z, 1, by8)) {n : Nat} (hn : n ≤ 1048576) (w : World) :
    ∃ cs, LvV cs n (fun _ => z) ∧ (Instr.makeSlice t (.int .i64 (n : Int)) (.int .i64 (n : Int))).run P w = .ok (.slice (some ⟨w.heap.size, 0, none⟩) n n) (w.alloc (.cells cs e)) := by
  obtain ⟨i, hi1, hi2⟩ := Option.map_eq_some_iff.1 hi
  injection hi2 with h2 hi3
  injection hi3 with h3 h4
  have h := run_make (P := P) w t e i _ ht hi1 h2 .i64 .i64 n n (by omega) (Int.le_refl _) (by rw [h4]; have := Nat.mul_le_mul h8 hn; omega) (by omega)
  refine ⟨_, ⟨?_, fun k hk => ?_⟩, by rw [h, h3]; simp only [Int.toNat_natCast]; rfl⟩
  · simp [madeCells]
  · simp [madeCells, hz, hk, Nat.mod_one]
end
/-! The words of noise. -/
def nzF (s : Int) : Nat := floatOfInt .f32 (s / 65536 - 32768)
def nzQ (s : Int) : Nat := sgnW (nzF s) (fdiv (mg (nzF s)) 1191182336)
def nzW (st : Nat) (s : Int) : Nat := sgnW (nzQ s) (fmul st (mg (nzQ s)))
theorem int_low {i : Int} (h : -32768 ≤ i ∧ i ≤ 32768) : floatOfInt .f32 i < 4294967296 ∧ mg (floatOfInt .f32 i) ≤ 1191182336 := by
  have e : floatOfInt .f32 i = sgS (decide (i < 0)) (iS i.natAbs) := by
    show S.write (.number (decide (i < 0)) i.natAbs 0) = _
    rw [write_signS]
    unfold sgS iS
    simp
  have hle : iS i.natAbs ≤ 1191182336 := by
    show S.nearest false i.natAbs (-149 + ((149 : Int))) ≤ 1191182336
    refine nearest_le_word (by decide) 149 0 (by omega) ?_
    have hv : val 1191182336 = 32768 * 2 ^ 149 := by decide +kernel
    rw [hv, Nat.pow_zero, Nat.mul_one]
    exact Nat.mul_le_mul_right _ (by omega)
  have hI : iS i.natAbs < INF := Nat.lt_of_le_of_lt hle (by decide)
  rw [e, mg_sgS hI]
  exact ⟨(sgS_fin hI).1, hle⟩
theorem noise_f {st : Nat} {s : Int} (hst : amtB st = true) (hs : 0 ≤ s ∧ s < 4294967296) : S.div (nzF s) 1191182336 = some (nzQ s) ∧ S.mul st (nzQ s) = some (nzW st s) ∧ nzW st s < 4294967296 ∧ finB (nzW st s) = true := by
  obtain ⟨l1, l2⟩ := int_low (i := s / 65536 - 32768) (by omega)
  have hm : mg (nzF s) < INF := Nat.lt_of_le_of_lt l2 (by decide)
  have hd := div_sgn (x := nzF s) (y := 1191182336) l1 hm (by decide) (by decide)
  have hq : fdiv (mg (nzF s)) 1191182336 ≤ 1065353216 := quo_le_one (by decide) (by decide) l2
  have hqi : fdiv (mg (nzF s)) 1191182336 < INF := Nat.lt_of_le_of_lt hq (by decide)
  obtain ⟨g1, g2⟩ := sgnW_mg (x := nzF s) (inf_small hqi)
  have hq2 : mg (nzQ s) ≤ 1065353216 := by show mg (sgnW _ _) ≤ _; rw [g1]; exact hq
  have hmul := mul_sgr (t := st) (y := nzQ s) g2 (Nat.lt_of_le_of_lt hq2 (by decide)) (amtB_iff.1 hst)
  have hle : fmul st (mg (nzQ s)) ≤ st := by
    rw [fmul_comm (amtB_iff.1 hst) (Nat.lt_of_le_of_lt hq2 (by decide))]
    exact fmul_le hq2 (amtB_iff.1 hst)
  have hli : fmul st (mg (nzQ s)) < INF := Nat.lt_of_le_of_lt hle (amtB_iff.1 hst)
  obtain ⟨k1, k2⟩ := sgnW_mg (x := nzQ s) (inf_small hli)
  exact ⟨hd, hmul, k2, finB_iff.2 (by show mg (sgnW _ _) < INF; rw [k1]; exact hli)⟩
/-- The next seed; the seed after k draws. -/
def nxN (s : Int) : Int := (1664525 * s % 4294967296 + 1013904223) % 4294967296
def sdN (s : Int) : Nat → Int
  | 0 => s
  | k + 1 => nxN (sdN s k)
theorem nxN_bnd (s : Int) : 0 ≤ nxN s ∧ nxN s < 4294967296 := by unfold nxN; omega
theorem nxN_alt (s : Int) : (1664525 * s + 1013904223) % 4294967296 = nxN s := by unfold nxN; omega
theorem sdN_bnd {s : Int} (h : 0 ≤ s ∧ s < 4294967296) : ∀ k, 0 ≤ sdN s k ∧ sdN s k < 4294967296
  | 0 => h
  | _ + 1 => nxN_bnd _
/-- The pulses of noise. -/
def nzV (st : Nat) (s : Int) (k : Nat) : Value := .complex .f32 (nzW st (sdN s (2 * k + 1))) (nzW st (sdN s (2 * k + 2)))
/-- A mark. -/
def ckV (k : Nat) : Value := .complex .f32 (wS k) 1065353216
theorem ck_all : ((List.range 130).all fun k => (cConvBits .f64 (floatOfInt .f64 (k : Int)) 4607182418800017408 .f32 == some (wS k, 1065353216)) && (FloatKind.f32.format.order (wS k) (wS k) == some .eq)) = true := by decide +kernel
theorem ck_one {k : Nat} (h : k < 130) : cConvBits .f64 (floatOfInt .f64 (k : Int)) 4607182418800017408 .f32 = some (wS k, 1065353216) ∧ (FloatKind.f32.format.order (wS k) (wS k) == some .eq) = true := by
  have := List.all_eq_true.1 ck_all k (List.mem_range.2 h)
  simp only [Bool.and_eq_true, beq_iff_eq] at this
  exact ⟨this.1, by rw [this.2]; rfl⟩
end Go.Fl
/- The text of a number: hexadecimal digits. No program. -/
namespace Go.Fl
open Ieee Go Go.RowKit
def hexN (d : Nat) : Nat := if d < 10 then 48 + d else 87 + d
def hexD (d : Nat) : UInt8 := UInt8.ofNat (hexN d)
theorem hexN_lt {d : Nat} (h : d < 16) : hexN d < 256 := by unfold hexN; split <;> omega
theorem hexD_nat {d : Nat} (h : d < 16) : (hexD d).toNat = hexN d := by
  unfold hexD
  rw [UInt8.toNat_ofNat']
  exact Nat.mod_eq_of_lt (hexN_lt h)
/-- The last k digits of n. -/
def hexL (n : Nat) : Nat → List UInt8
  | 0 => []
  | k + 1 => hexL (n / 16) k ++ [hexD (n % 16)]
theorem hexL_length : ∀ (k n : Nat), (hexL n k).length = k
  | 0, _ => rfl
  | k + 1, n => by simp [hexL, hexL_length k]
theorem hexL_nil : ∀ j, hexL 0 j = List.replicate j 48
  | 0 => rfl
  | j + 1 => by
    show hexL (0 / 16) j ++ [hexD (0 % 16)] = _
    rw [Nat.zero_div, hexL_nil j, List.replicate_succ']; rfl
theorem hexL_zeros : ∀ (k n j : Nat), n < 16 ^ k → hexL n (k + j) = List.replicate j 48 ++ hexL n k
  | 0, n, j, h => by
    have : n = 0 := by simpa using h
    subst this
    rw [Nat.zero_add, hexL_nil]; simp [hexL]
  | k + 1, n, j, h => by
    rw [show k + 1 + j = k + j + 1 by omega]
    show hexL (n / 16) (k + j) ++ [hexD (n % 16)] = List.replicate j 48 ++ (hexL (n / 16) k ++ [hexD (n % 16)])
    rw [hexL_zeros k (n / 16) j (by rw [Nat.pow_succ] at h; omega), List.append_assoc]
theorem hexL_get : ∀ (k n i : Nat), i < k → (hexL n k)[i]? = some (hexD (n / 16 ^ (k - 1 - i) % 16))
  | 0, _, _, h => by omega
  | k + 1, n, i, h => by
    show (hexL (n / 16) k ++ [hexD (n % 16)])[i]? = _
    by_cases e : i = k
    · subst e
      rw [List.getElem?_append_right (by rw [hexL_length]; omega), hexL_length, Nat.sub_self]
      rw [show i + 1 - 1 - i = 0 by omega]; simp
    · rw [List.getElem?_append_left (by rw [hexL_length]; omega), hexL_get k (n / 16) i (by omega), Nat.div_div_eq_div_mul, show k + 1 - 1 - i = (k - 1 - i) + 1 by omega, Nat.pow_succ, Nat.mul_comm]
/-- Digits that are written from the last one on, t of them, in m cells. -/
def hxW (n m t : Nat) : Nat → Value := fun j => if m ≤ j + t then .int .u8 (hexN (n / 16 ^ (m - 1 - j) % 16) : Int) else .int .u8 0
theorem hxW_zero (n m : Nat) {j : Nat} (h : j < m) : hxW n m 0 j = .int .u8 0 := by unfold hxW; rw [if_neg (by omega)]
theorem hxW_step (n m : Nat) {t : Nat} (h : t < m) (j : Nat) (_ : j < m) : updV (hxW n m t) (m - 1 - t) (.int .u8 (hexN (n / 16 ^ t % 16) : Int)) j = hxW n m (t + 1) j := by
  unfold updV hxW
  by_cases e : j = m - 1 - t
  · rw [if_pos e, if_pos (by omega), show m - 1 - j = t by omega]
  · rw [if_neg e]
    by_cases e2 : m ≤ j + t
    · rw [if_pos e2, if_pos (by omega)]
    · rw [if_neg e2, if_neg (by omega)]
theorem hxW_read (n m : Nat) {k i : Nat} (hk : k ≤ m) (hi : i < k) : hxW n m k (m - k + i) = .int .u8 (((hexL n k)[i]'(by rw [hexL_length]; exact hi)).toNat : Int) := by
  have h := hexL_get k n i hi
  rw [List.getElem?_eq_getElem (by rw [hexL_length]; exact hi)] at h
  rw [Option.some.inj h, hexD_nat (Nat.mod_lt _ (by decide))]
  unfold hxW
  rw [if_pos (by omega), show m - 1 - (m - k + i) = k - 1 - i by omega]
theorem hx_more {n t : Nat} (hn : n < 4294967296) (h : 16 ≤ n / 16 ^ t) : t < 7 := by
  rcases Nat.lt_or_ge t 7 with h1 | h1
  · exact h1
  · exfalso
    have h2 : n / 16 ^ t ≤ n / 16 ^ 7 := Nat.div_le_div_left (Nat.pow_le_pow_right (by decide) h1) (by decide)
    have h3 : n / 16 ^ 7 < 16 := by
      rw [Nat.div_lt_iff_lt_mul (by decide)]; exact hn
    omega
theorem hx_next (n t : Nat) : n / 16 ^ t / 16 = n / 16 ^ (t + 1) := by rw [Nat.div_div_eq_div_mul, Nat.pow_succ]
theorem hx_last {n t : Nat} (h : n / 16 ^ t < 16) : n < 16 ^ (t + 1) := by
  rw [Nat.pow_succ, Nat.mul_comm]; exact (Nat.div_lt_iff_lt_mul (Nat.pow_pos (by decide))).1 h
theorem hx_st {n t u j : Nat} (hu : u = n / 16 ^ t) (hj : j + t = 64) (i : Nat) (hi : i < 65) : updV (hxW n 65 t) j (.int .u8 (hexN (u % 16) : Int)) i = hxW n 65 (t + 1) i := by
  have := hxW_step n 65 (t := t) (by omega) i hi
  rwa [← hu, show 65 - 1 - t = j by omega] at this
theorem index_hex {P : Program} {s : ByteArray} {T : TypeId} (k : IntKind) (hT : P.underlying T = some .string) (hs : 16 ≤ s.size) (hd : ∀ d (h : d < 16), (s[d]'(by omega)).toNat = hexN d) (d : Nat) (h : d < 16) (w : World) :
    (Instr.index T (.string s) (.int k (d : Int))).run P w = .ok (.int .u8 (hexN d : Int)) w := by
  rw [run_index_string w T s k (d : Int) hT, dif_pos ⟨by omega, by omega⟩]
  have := hd d h
  simp only [Int.toNat_natCast]
  rw [this]
theorem hx_st' {n t u j : Nat} (hu : u = n / 16 ^ t) (h : u < 16) (hj : j + t = 64) (i : Nat) (hi : i < 65) : updV (hxW n 65 t) j (.int .u8 (hexN u : Int)) i = hxW n 65 (t + 1) i := by
  have := hx_st hu hj i hi
  rwa [Nat.mod_eq_of_lt h] at this
theorem hx_up {n t u j : Nat} (hu : u = n / 16 ^ t) (hj : j + t = 7) (i : Nat) (hi : i < 8) : upV (hxW n 8 t) j (.int .u8 (hexN (u % 16) : Int)) i = hxW n 8 (t + 1) i := by
  have := hxW_step n 8 (t := t) (by omega) i hi
  rwa [← hu, show 8 - 1 - t = j by omega] at this
theorem keptG {w : World} {g : Nat} {cs : Array Value} {T : TypeId} (h : w.heap[g]? = some (.cells cs T (0, 0))) : Kept w [(g, cs, T)] w :=
  ⟨Below.refl _ _, fun x hx => by rw [List.mem_singleton.1 hx]; exact h⟩
end Go.Fl
/- The frame of a law over any list of parameters: out of the walk's contract the row's step. No program. -/
namespace Go.LawFrame
open Go.ChangeShapes Go.WideShapes Go.ChangeAt Go.RowKit

section
variable {H : Type} {enc : TypeId × Value → H} {P : Program}

theorem trodAll_stays (hl : laidOutB P = true) : ∀ {ts : List TypeId} {vs : List Value} {ds : List (DataW H)} {ps : List MemPlace} {W W' : World} {sp : Nat → Bool},
    (∀ t ∈ ts, P.readableRec t = true ∧ t < P.types.size) → DataW.TrodAll enc P W 0 (fun _ => true) true ts vs ds ps → (∀ p ∈ ps, W.sameAt W' p) → (∀ p ∈ ps, sp p.block = true) →
    DataW.TrodAll enc P W' 0 sp true ts vs ds ps
  | [], [], [], _, _, _, _, _, h, _, _ => h
  | t :: ts, v :: vs, d :: ds, ps, W, W', sp, hts, h, hs, hp => by
    obtain ⟨p, q, h1, h2, rfl⟩ := h
    refine ⟨p, q, ?_, ?_, rfl⟩
    · exact WideElems.Trod_stays hl (hts t (by simp)).1 (hts t (by simp)).2 h1 (fun x hx => hs x (by simp [hx])) (fun x hx => hp x (by simp [hx]))
    · exact trodAll_stays hl (fun t' ht' => hts t' (by simp [ht'])) h2 (fun x hx => hs x (by simp [hx])) (fun x hx => hp x (by simp [hx]))

theorem trodAll_length : ∀ {ts : List TypeId} {vs : List Value} {ds : List (DataW H)} {ps : List MemPlace} {W : World} {b : Nat} {sp : Nat → Bool} {held : Bool},
    DataW.TrodAll enc P W b sp held ts vs ds ps → vs.length = ts.length ∧ ds.length = ts.length
  | [], [], [], _, _, _, _, _, _ => ⟨rfl, rfl⟩
  | _ :: ts, _ :: vs, _ :: ds, _, _, _, _, _, h => by
    obtain ⟨p, q, h1, h2, rfl⟩ := h
    obtain ⟨a, b⟩ := trodAll_length h2
    exact ⟨by simp [a], by simp [b]⟩
end

/-- THE ROW's STEP: where every call returns true and what was there before it is as it was. -/
theorem lifted {C : Checked} {os : Os} (started : os.Started) {H : Type} {enc : TypeId × Value → H} {f : FuncId} {fn : Func} {s : ChangeSpec} {n : Nat} {tb : TypeId}
    (own : ownKnob C.prog.godebug = none) (noInit : C.prog.inits.idxOf? f = none) (hfn : C.prog.funcs[f]? = some fn)
    (hl : laidOutB C.prog = true) (hts : ∀ t ∈ fn.params.toList, C.prog.readableRec t = true ∧ t < C.prog.types.size)
    (hn : fn.params.size = n) (hvars : s.vars = []) (hs : ∀ ds : List (DataW H), ds.length = n → s.fn H ds = { results := [.lit (.bool true)], args := ds })
    (hres : fn.resultTypes = #[tb]) (hb : C.prog.underlying tb = some .bool)
    (wit : ∃ (w : World) (tape : Tape) (i : Input), w.os = os ∧ (w.forCall tape i).Shaped C.prog ∧ i.vars = [] ∧ Input.okWide C.prog (w.forCall tape i) .any w.heap.size f i ∧
      s.pre6 enc C.prog fn [] false (w.forCall tape i).memory i.args ∧ ({} : Assume).holds C.prog (lone (Frame.enter C.prog f i.args .normal) [] (w.forCall tape i)))
    (walk : ∀ (W : World) (base : Nat) (args : Array Value) (ds : List (DataW H)) (ps : List MemPlace), (∀ (j : Nat) t v, fn.params[j]? = some t → args[j]? = some v → Value.okWide C.prog W .any base t v) → args.size = n →
      DataW.TrodAll enc C.prog W 0 (fun _ => true) true fn.params.toList args.toList ds ps →
      Calls C.prog f args W fun e W' => e = .returned (.bool true) ∧ Below W.heap.size W W') :
    ReturnsInHanded {} C os f .any (s.pre6 enc C.prog fn [] false) (s.post enc C.prog fn false true false false) := by
  refine returnsInHanded_of_change own started noInit hfn wit ?_
  intro W base args ds gs before hval hW _ _
  have hW' := hW
  obtain ⟨p, q, hA, hV, hb', hfz, hnd⟩ := hW
  rw [hvars] at hV
  obtain ⟨rfl, rfl⟩ := trodVars_none hV
  rw [List.append_nil] at hb'
  subst hb'
  obtain ⟨hlen, hlen2⟩ := trodAll_length hA
  simp only [Array.length_toList] at hlen hlen2
  refine (walk W base args ds before hval (hlen.trans hn) hA).mono fun e W' ⟨he, hg⟩ => ?_
  subst he
  have hsp := hs ds (hlen2.trans hn)
  have hlt : ∀ x ∈ before, x.block < W.heap.size := fun x hx => hW'.lt x hx
  have hr : ∀ (b : Nat) (sp : Nat → Bool) (hd : Bool), DataW.TrodAll enc C.prog W' b sp hd fn.resultTypes.toList ((Value.bool true).resultList fn.resultTypes.size) (s.fn H (ds ++ [])).results [] := by
    intro b sp hd
    rw [List.append_nil, hsp, hres]
    exact trodAll_cons_mk (shut_bool hb _) trodAll_mk0
  have ha : ∀ sp : Nat → Bool, (∀ x ∈ before, sp x.block = true) → DataW.TrodAll enc C.prog W' 0 sp true fn.params.toList args.toList (s.fn H (ds ++ [])).args before := by
    intro sp hsp'
    rw [List.append_nil, hsp]
    exact trodAll_stays hl hts hA (fun x hx => hg.same (hlt x hx)) hsp'
  have hv : ∀ sp : Nat → Bool, DataW.TrodVars enc C.prog W' sp s.vars (s.fn H (ds ++ [])).vars [] := by
    intro sp
    rw [List.append_nil, hsp, hvars]
    rfl
  refine ⟨_, rfl, ds, [], before, [], before, [], hW', hr _ _ _, ha _ (fun x hx => by simpa using hlt x hx), hv _, World.keptBut_mono (fun x hx => ⟨hx, .inr (by simpa using hx)⟩) (hg.frame (· ∈ before)), fun _ => ?_⟩
  have hT := trodAll_append (ha (fun _ => true) (fun _ _ => rfl)) (hr 0 (fun _ => true) true)
  refine ⟨ok_one hres rfl (okWide_bool_mk hb _), _, _, before, ⟨_, [], hT, hv _, by simp, ?_, fun h => by cases h⟩, fun x hx _ => by simpa using hx⟩
  intro b off hx
  rw [hg.frozen (hlt _ hx)]
  exact hfz b off (by simpa using hx)
end Go.LawFrame
/- Laws over package-level variables that hold errors of errors.New: what is told of them; the frame. No program. -/
namespace Go.Fl
open Go.RowKit Go.ChangeShapes Go.WideShapes Go.ChangeAt
variable {P : Program}

/-- Such a variable's reading. -/
def sentD (nm : String) (t : List UInt8) : DataW Unit := .iface nm (.ptr (.agg [.lit (.string t)]))

/-- What is told of five listed errors: each variable points to a cell of its own. -/
theorem laid_five {n0 n1 n2 n3 n4 nm : String} {x0 x1 x2 x3 x4 : List UInt8} {W : World} {g0 g1 g2 g3 g4 : Nat} {ti tp te ts : TypeId} {ms : Array (String × TypeId)} {f : Field}
    (h : laidMet P [(n0, sentD nm x0), (n1, sentD nm x1), (n2, sentD nm x2), (n3, sentD nm x3), (n4, sentD nm x4)] W)
    (hg0 : P.globalNamed n0 = some g0) (ht0 : (P.globals[g0]?).map (·.type) = some ti)
    (hg1 : P.globalNamed n1 = some g1) (ht1 : (P.globals[g1]?).map (·.type) = some ti)
    (hg2 : P.globalNamed n2 = some g2) (ht2 : (P.globals[g2]?).map (·.type) = some ti)
    (hg3 : P.globalNamed n3 = some g3) (ht3 : (P.globals[g3]?).map (·.type) = some ti)
    (hg4 : P.globalNamed n4 = some g4) (ht4 : (P.globals[g4]?).map (·.type) = some ti)
    (hi : P.underlying ti = some (.interface ms)) (hrow : ∀ u, P.typeName? 3 u = some nm → u = tp)
    (hp : P.underlying tp = some (.pointer te)) (he : P.underlying te = some (.struct #[f])) (hft : f.type = ts) (hfo : f.offset = 0) (hs : P.underlying ts = some .string) (hc : P.cellsOf te = 1) (hcs : P.cellsOf ts = 1) :
    ∃ a0 a1 a2 a3 a4 : Addr, (W.var? P n0 = some #[.iface tp (.pointer (some a0))] ∧ W.var? P n1 = some #[.iface tp (.pointer (some a1))] ∧ W.var? P n2 = some #[.iface tp (.pointer (some a2))] ∧ W.var? P n3 = some #[.iface tp (.pointer (some a3))] ∧ W.var? P n4 = some #[.iface tp (.pointer (some a4))]) ∧
      ((∃ c t, W.heap[a0.block]? = some (.cells c t (0, 0))) ∧ (∃ c t, W.heap[a1.block]? = some (.cells c t (0, 0))) ∧ (∃ c t, W.heap[a2.block]? = some (.cells c t (0, 0))) ∧ (∃ c t, W.heap[a3.block]? = some (.cells c t (0, 0))) ∧ (∃ c t, W.heap[a4.block]? = some (.cells c t (0, 0)))) ∧
      (a0 ≠ a1 ∧ a0 ≠ a2 ∧ a0 ≠ a3 ∧ a0 ≠ a4 ∧ a1 ≠ a2 ∧ a1 ≠ a3 ∧ a1 ≠ a4 ∧ a2 ≠ a3 ∧ a2 ≠ a4 ∧ a3 ≠ a4) := by
  obtain ⟨ps, ⟨h0g, t0g, cs0, f0, p0, q0, k0, l0, hv0, hd0, ⟨h1g, t1g, cs1, f1, p1, q1, k1, l1, hv1, hd1, ⟨h2g, t2g, cs2, f2, p2, q2, k2, l2, hv2, hd2, ⟨h3g, t3g, cs3, f3, p3, q3, k3, l3, hv3, hd3, ⟨h4g, t4g, cs4, f4, p4, q4, k4, l4, hv4, hd4, e5, e4⟩, e3⟩, e2⟩, e1⟩, e0⟩, hnd, hrows⟩ := h
  obtain rfl := Option.some.inj (hg0.symm.trans k0)
  obtain rfl := Option.some.inj (ht0.symm.trans l0)
  obtain rfl := Option.some.inj (hg1.symm.trans k1)
  obtain rfl := Option.some.inj (ht1.symm.trans l1)
  obtain rfl := Option.some.inj (hg2.symm.trans k2)
  obtain rfl := Option.some.inj (ht2.symm.trans l2)
  obtain rfl := Option.some.inj (hg3.symm.trans k3)
  obtain rfl := Option.some.inj (ht3.symm.trans l3)
  obtain rfl := Option.some.inj (hg4.symm.trans k4)
  obtain rfl := Option.some.inj (ht4.symm.trans l4)
  subst e5
  subst e4
  subst e3
  subst e2
  subst e1
  subst e0
  obtain ⟨l0c⟩ := cs0
  obtain ⟨l1c⟩ := cs1
  obtain ⟨l2c⟩ := cs2
  obtain ⟨l3c⟩ := cs3
  obtain ⟨l4c⟩ := cs4
  have ok0 : ∀ u v, l0c = [.iface u v] → Value.okWide P W .any 0 u v := fun u v e => by
    subst e
    exact (hrows g0 0 (by simp [MemPlace.row])).2 u v (by simpa using World.var?_cell hg0 hv0 0)
  have ok1 : ∀ u v, l1c = [.iface u v] → Value.okWide P W .any 0 u v := fun u v e => by
    subst e
    exact (hrows g1 0 (by simp [MemPlace.row])).2 u v (by simpa using World.var?_cell hg1 hv1 0)
  have ok2 : ∀ u v, l2c = [.iface u v] → Value.okWide P W .any 0 u v := fun u v e => by
    subst e
    exact (hrows g2 0 (by simp [MemPlace.row])).2 u v (by simpa using World.var?_cell hg2 hv2 0)
  have ok3 : ∀ u v, l3c = [.iface u v] → Value.okWide P W .any 0 u v := fun u v e => by
    subst e
    exact (hrows g3 0 (by simp [MemPlace.row])).2 u v (by simpa using World.var?_cell hg3 hv3 0)
  have ok4 : ∀ u v, l4c = [.iface u v] → Value.okWide P W .any 0 u v := fun u v e => by
    subst e
    exact (hrows g4 0 (by simp [MemPlace.row])).2 u v (by simpa using World.var?_cell hg4 hv4 0)
  obtain ⟨a0, s0, rfl, hc0, hs0, hz0, rfl⟩ := errorString_of_trod hi hrow hp he hft hfo hs hc hcs hd0 ok0
  obtain ⟨a1, s1, rfl, hc1, hs1, hz1, rfl⟩ := errorString_of_trod hi hrow hp he hft hfo hs hc hcs hd1 ok1
  obtain ⟨a2, s2, rfl, hc2, hs2, hz2, rfl⟩ := errorString_of_trod hi hrow hp he hft hfo hs hc hcs hd2 ok2
  obtain ⟨a3, s3, rfl, hc3, hs3, hz3, rfl⟩ := errorString_of_trod hi hrow hp he hft hfo hs hc hcs hd3 ok3
  obtain ⟨a4, s4, rfl, hc4, hs4, hz4, rfl⟩ := errorString_of_trod hi hrow hp he hft hfo hs hc hcs hd4 ok4
  have b0 := (hrows a0.block a0.off (by simp [MemPlace.row])).1
  have b1 := (hrows a1.block a1.off (by simp [MemPlace.row])).1
  have b2 := (hrows a2.block a2.off (by simp [MemPlace.row])).1
  have b3 := (hrows a3.block a3.off (by simp [MemPlace.row])).1
  have b4 := (hrows a4.block a4.off (by simp [MemPlace.row])).1
  refine ⟨a0, a1, a2, a3, a4, ⟨hv0, hv1, hv2, hv3, hv4⟩, ⟨b0, b1, b2, b3, b4⟩, ?_, ?_, ?_, ?_, ?_, ?_, ?_, ?_, ?_, ?_⟩ <;>
    (rintro rfl; simp [MemPlace.row] at hnd)

/-- Named variables that hold such values. -/
def VarsAre (P : Program) (W : World) : List String → List Value → Prop
  | [], [] => True
  | n :: ns, x :: xs => (∃ g ti ms, P.globalNamed n = some g ∧ (P.globals[g]?).map (·.type) = some ti ∧ P.underlying ti = some (.interface ms) ∧ W.var? P n = some #[x] ∧ IsIface x) ∧ VarsAre P W ns xs
  | _, _ => False
theorem VarsAre.length : ∀ {ns : List String} {xs : List Value} {W : World}, VarsAre P W ns xs → xs.length = ns.length
  | [], [], _, _ => rfl
  | _ :: _, _ :: _, _, h => by simp [VarsAre.length h.2]
theorem VarsAre.stay : ∀ {ns : List String} {xs : List Value} {W W' : World}, VarsAre P W ns xs → Below W.heap.size W W' → VarsAre P W' ns xs
  | [], [], _, _, _, _ => trivial
  | n :: ns, x :: xs, W, W', h, hb => by
    obtain ⟨⟨g, ti, ms, h1, h2, h3, h4, h5⟩, h6⟩ := h
    refine ⟨⟨g, ti, ms, h1, h2, h3, ?_, h5⟩, VarsAre.stay h6 hb⟩
    unfold World.var? at h4 ⊢
    simp only [h1, Option.bind_some] at h4 ⊢
    have hlt : g < W.heap.size := by
      rcases Nat.lt_or_ge g W.heap.size with h' | h'
      · exact h'
      · simp [Array.getElem?_eq_none h'] at h4
    rw [hb.block g hlt]
    exact h4
def varPlaces (P : Program) (ns : List String) : List MemPlace := ns.map fun n => .cell ((P.globalNamed n).getD 0) 0
theorem VarsAre.read {H : Type} {enc : TypeId × Value → H} : ∀ {ns : List String} {xs : List Value} {W : World} (sp : Nat → Bool), VarsAre P W ns xs → DataW.TrodVars enc P W sp ns (xs.map (tok enc)) (varPlaces P ns)
  | [], [], _, _, _ => rfl
  | n :: ns, x :: xs, W, sp, h => by
    obtain ⟨⟨g, ti, ms, h1, h2, h3, h4, h5⟩, h6⟩ := h
    exact ⟨g, ti, #[x], 1, [], varPlaces P ns, h1, h2, h4, trod_held h3 h5 0, VarsAre.read sp h6, by simp [varPlaces, h1, MemPlace.row]⟩
end Go.Fl
namespace Go.LawFrame
open Go.ChangeShapes Go.WideShapes Go.ChangeAt Go.RowKit Go.Fl
/-- THE ROW's STEP, where the law may look into listed variables. -/
theorem lifted_vars {C : Checked} {os : Os} (started : os.Started) {H : Type} {enc : TypeId × Value → H} {f : FuncId} {fn : Func} {s : ChangeSpec} {n : Nat} {tb : TypeId} {laidL : List (String × DataW Unit)}
    (own : ownKnob C.prog.godebug = none) (noInit : C.prog.inits.idxOf? f = none) (hfn : C.prog.funcs[f]? = some fn)
    (hl : laidOutB C.prog = true) (hts : ∀ t ∈ fn.params.toList, C.prog.readableRec t = true ∧ t < C.prog.types.size)
    (hn : fn.params.size = n) (hs : ∀ ds gs : List (DataW H), ds.length = n → gs.length = s.vars.length → s.fn H (ds ++ gs) = { results := [.lit (.bool true)], args := ds, vars := gs })
    (hres : fn.resultTypes = #[tb]) (hb : C.prog.underlying tb = some .bool)
    (hread : ∀ W, laidMetH C.prog laidL W → ∃ xs, VarsAre C.prog W s.vars xs)
    (wit : ∃ (w : World) (tape : Tape) (i : Input), w.os = os ∧ (w.forCall tape i).Shaped C.prog ∧ i.vars = [] ∧ Input.okWide C.prog (w.forCall tape i) .any w.heap.size f i ∧
      ((s.pre enc C.prog fn [] false (w.forCall tape i).memory i.args ∧ laidMetH C.prog laidL (w.forCall tape i).memory) ∧ sizedMet enc C.prog fn (OpenSpec.ofChange s) false (w.forCall tape i).memory i.args) ∧ ({} : Assume).holds C.prog (lone (Frame.enter C.prog f i.args .normal) [] (w.forCall tape i)))
    (walk : ∀ (W : World) (base : Nat) (args : Array Value) (ds : List (DataW H)) (ps : List MemPlace), (∀ (j : Nat) t v, fn.params[j]? = some t → args[j]? = some v → Value.okWide C.prog W .any base t v) → args.size = n →
      DataW.TrodAll enc C.prog W 0 (fun _ => true) true fn.params.toList args.toList ds ps → laidMetH C.prog laidL W →
      Calls C.prog f args W fun e W' => e = .returned (.bool true) ∧ Below W.heap.size W W') :
    ReturnsInHanded {} C os f .any (fun w args => (s.pre enc C.prog fn [] false w args ∧ laidMetH C.prog laidL w) ∧ sizedMet enc C.prog fn (OpenSpec.ofChange s) false w args) (s.post enc C.prog fn false true false false) := by
  refine returnsInHanded_of_change_and (C := C) (X := fun w _ => laidMetH C.prog laidL w) (fun _ _ _ hh h => laidMetH.of_heap hh h) own started noInit hfn wit ?_
  intro W base args ds gs before hval hW _ _ hL _
  have hW' := hW
  obtain ⟨p, q, hA, hV, hb', hfz, hnd⟩ := hW
  subst hb'
  obtain ⟨xs, hxs⟩ := hread W hL
  obtain ⟨rfl, rfl⟩ := hV.unique (hxs.read _)
  obtain ⟨hlen, hlen2⟩ := trodAll_length hA
  simp only [Array.length_toList] at hlen hlen2
  refine (walk W base args ds p hval (hlen.trans hn) hA hL).mono fun e W' ⟨he, hg⟩ => ?_
  subst he
  have hsp := hs ds (xs.map (tok enc)) (hlen2.trans hn) (by rw [List.length_map]; exact hxs.length)
  have hlt : ∀ x ∈ p ++ varPlaces C.prog s.vars, x.block < W.heap.size := fun x hx => hW'.lt x hx
  have hr : ∀ (b : Nat) (sp : Nat → Bool) (hd : Bool), DataW.TrodAll enc C.prog W' b sp hd fn.resultTypes.toList ((Value.bool true).resultList fn.resultTypes.size) (s.fn H (ds ++ xs.map (tok enc))).results [] := by
    intro b sp hd
    rw [hsp, hres]
    exact trodAll_cons_mk (shut_bool hb _) trodAll_mk0
  have ha : ∀ sp : Nat → Bool, (∀ x ∈ p, sp x.block = true) → DataW.TrodAll enc C.prog W' 0 sp true fn.params.toList args.toList (s.fn H (ds ++ xs.map (tok enc))).args p := by
    intro sp hsp'
    rw [hsp]
    exact trodAll_stays hl hts hA (fun x hx => hg.same (hlt x (List.mem_append_left _ hx))) hsp'
  have hv : ∀ sp : Nat → Bool, DataW.TrodVars enc C.prog W' sp s.vars (s.fn H (ds ++ xs.map (tok enc))).vars (varPlaces C.prog s.vars) := by
    intro sp
    rw [hsp]
    exact (hxs.stay hg).read sp
  refine ⟨_, rfl, ds, _, p ++ varPlaces C.prog s.vars, [], p, varPlaces C.prog s.vars, hW', hr _ _ _, ha _ (fun x hx => by simpa using hlt x (List.mem_append_left _ hx)), hv _, World.keptBut_mono (fun x hx => ⟨hx, .inr (by simpa using hx)⟩) (hg.frame (· ∈ p ++ varPlaces C.prog s.vars)), fun _ => ?_⟩
  have hT := trodAll_append (ha (fun _ => true) (fun _ _ => rfl)) (hr 0 (fun _ => true) true)
  refine ⟨ok_one hres rfl (okWide_bool_mk hb _), _, _, p ++ varPlaces C.prog s.vars, ⟨_, _, hT, hv _, by simp, ?_, fun h => by cases h⟩, fun x hx _ => by simpa using hx⟩
  intro b off hx
  rw [hg.frozen (hlt _ hx)]
  exact hfz b off (by simpa using hx)
end Go.LawFrame
/- Texts in a row, a blank between two. No program. -/
namespace Go.Fl
open Ieee Go Go.RowKit
def rowB (t : Nat → ByteArray) : Nat → ByteArray
  | 0 => ⟨#[]⟩
  | n + 1 => if n = 0 then rowB t n ++ t n else (rowB t n ++ ⟨#[32]⟩) ++ t n
theorem inter_snoc (s : List UInt8) : ∀ (l : List (List UInt8)) (x : List UInt8), List.intercalate s (l ++ [x]) = if l = [] then x else (List.intercalate s l ++ s) ++ x
  | [], x => by simp [List.intercalate]
  | [a], x => by simp [List.intercalate]
  | a :: b :: l, x => by
    have ih := inter_snoc s (b :: l) x
    rw [if_neg (by simp)] at ih ⊢
    have e1 : ∀ (y : List UInt8) (m : List (List UInt8)) (_ : m ≠ []), List.intercalate s (y :: m) = y ++ (s ++ List.intercalate s m) := by
      intro y m hm
      cases m with
      | nil => exact absurd rfl hm
      | cons z m => simp [List.intercalate]
    show List.intercalate s (a :: ((b :: l) ++ [x])) = _
    rw [e1 a _ (by simp), ih, e1 a _ (by simp)]
    simp [List.append_assoc]
theorem rowB_list (t : Nat → ByteArray) : ∀ n, (rowB t n).data.toList = Go.Lib.join (((List.range n).map t).map (·.data.toList)) [32]
  | 0 => by simp [rowB, Go.Lib.join, List.intercalate]
  | n + 1 => by
    have ih := rowB_list t n
    unfold Go.Lib.join at ih ⊢
    rw [List.range_succ, List.map_append, List.map_append, List.map_singleton, List.map_singleton, inter_snoc]
    show (if n = 0 then rowB t n ++ t n else (rowB t n ++ ⟨#[32]⟩) ++ t n).data.toList = _
    by_cases h : n = 0
    · subst h
      rw [if_pos rfl, if_pos (by simp)]
      simp [rowB]
    · rw [if_neg h, if_neg (by simp; exact h), ← ih]
      simp
theorem rowB_is (t : Nat → ByteArray) (n : Nat) : (⟨(Go.Lib.join (((List.range n).map t).map (·.data.toList)) [32]).toArray⟩ : ByteArray) = rowB t n := by
  rw [← rowB_list]
theorem rowB_size {t : Nat → ByteArray} {m : Nat} (h : ∀ i, (t i).size = m) : ∀ n, (rowB t n).size ≤ (m + 1) * n
  | 0 => by simp [rowB]; rfl
  | n + 1 => by
    have ih := rowB_size h n
    rw [Nat.mul_succ]
    show (if n = 0 then rowB t n ++ t n else (rowB t n ++ ⟨#[32]⟩) ++ t n).size ≤ _
    by_cases e : n = 0
    · rw [if_pos e, ByteArray.size_append, h]; omega
    · rw [if_neg e, ByteArray.size_append, ByteArray.size_append, h]
      have : (⟨#[32]⟩ : ByteArray).size = 1 := rfl
      omega
theorem rowB_len {t : Nat → ByteArray} (n : Nat) : (Go.Lib.join (((List.range n).map t).map (·.data.toList)) [32]).length = (rowB t n).size := by
  rw [← rowB_list]; rfl
theorem wr_k1 {k n : Nat} (h : k < n) (hn : n ≤ 1000) : wrap64 ((k : Int) + 1) = (k : Int) + 1 := by unfold wrap64; omega
theorem le_9k {x k n : Nat} (h : x ≤ 9 * k) (hk : k ≤ n) (hn : n ≤ 1000) : x ≤ 9000 := by omega
theorem ms_io {k n : Nat} (h : k < n) : n - (intOf (.int .i64 ((k : Int) + 1))).toNat < n - (intOf (.int .i64 (k : Int))).toNat := by simp [intOf]; omega
theorem run_makeW {P : Program} {t e : TypeId} (ht : P.underlying t = some (.slice e)) (z : Value) (by8 : Nat) (hz : z.cells = #[z]) (h8 : by8 ≤ 16) (hi : (P.info? e).map (fun i => (i.zero, i.size, i.bytes)) = some (some z, 1, by8)) {n : Nat} (hn : n ≤ 1048576) (w : World) :
    ∃ cs, LvV cs n (fun _ => z) ∧ (Instr.makeSlice t (.int .i64 (n : Int)) (.int .i64 (n : Int))).run P w = .ok (.slice (some ⟨w.heap.size, 0, none⟩) n n) (w.alloc (.cells cs e)) := by
  obtain ⟨i, hi1, hi2⟩ := Option.map_eq_some_iff.1 hi
  injection hi2 with h2 hi3
  injection hi3 with h3 h4
  have h := run_make (P := P) w t e i _ ht hi1 h2 .i64 .i64 n n (by omega) (Int.le_refl _) (by rw [h4]; have := Nat.mul_le_mul h8 hn; omega) (by omega)
  refine ⟨_, ⟨?_, fun k hk => ?_⟩, by rw [h, h3]; simp only [Int.toNat_natCast]; rfl⟩
  · simp [madeCells]
  · simp [madeCells, hz, hk, Nat.mod_one]
/-- Texts one behind the other, each with the end of a line. -/
def linB (t : Nat → ByteArray) : Nat → ByteArray
  | 0 => ⟨#[]⟩
  | n + 1 => linB t n ++ (t n ++ ⟨#[10]⟩)
theorem linB_size {t : Nat → ByteArray} {m : Nat} (h : ∀ i, (t i).size ≤ m) : ∀ n, (linB t n).size ≤ (m + 1) * n
  | 0 => by simp [linB]; rfl
  | n + 1 => by
    have ih := linB_size h n
    have hi := h n
    rw [Nat.mul_succ]
    show (linB t n ++ (t n ++ ⟨#[10]⟩)).size ≤ _
    rw [ByteArray.size_append, ByteArray.size_append]
    have : (⟨#[10]⟩ : ByteArray).size = 1 := rfl
    omega
theorem linB_list (t : Nat → ByteArray) (n : Nat) : (linB t (n + 1)).data.toList = ((linB t n).data.toList ++ (t n).data.toList) ++ [10] := by
  show (linB t n ++ (t n ++ ⟨#[10]⟩)).data.toList = _
  simp
theorem mk_list (b : ByteArray) : (⟨b.data.toList.toArray⟩ : ByteArray) = b := by cases b; simp
end Go.Fl
/- Hexadecimal digits that are read. No program. -/
namespace Go.Fl
open Ieee Go Go.RowKit
/-- Byte i of a text, as a number. -/
def byT (s : ByteArray) (i : Nat) : Nat := (s.data.toList.getD i 0).toNat
theorem byT_lt (s : ByteArray) (i : Nat) : byT s i < 256 := (s.data.toList.getD i 0).toNat_lt
def isHexB (b : Nat) : Bool := decide (48 ≤ b ∧ b ≤ 57) || decide (97 ≤ b ∧ b ≤ 102)
def digB (b : Nat) : Nat := if b ≤ 57 then b - 48 else b - 87
def valT (s : ByteArray) : Nat → Nat
  | 0 => 0
  | k + 1 => valT s k * 16 + digB (byT s k)
def HexTo (s : ByteArray) (k : Nat) : Prop := ∀ i, i < k → isHexB (byT s i) = true
theorem digB_lt {b : Nat} (h : isHexB b = true) : digB b < 16 := by
  unfold isHexB at h
  simp only [Bool.or_eq_true, decide_eq_true_eq] at h
  unfold digB
  split <;> omega
theorem valT_lt {s : ByteArray} : ∀ k, HexTo s k → valT s k < 16 ^ k
  | 0, _ => Nat.zero_lt_one
  | k + 1, h => by
    have ih := valT_lt (s := s) k (fun i hi => h i (by omega))
    have hd := digB_lt (h k (by omega))
    show valT s k * 16 + digB (byT s k) < 16 ^ (k + 1)
    rw [Nat.pow_succ]
    omega
theorem pow16_8 {k : Nat} (h : k ≤ 7) : 16 ^ k ≤ 268435456 := Nat.pow_le_pow_right (by decide) h
theorem valT_28 {s : ByteArray} {k : Nat} (h : HexTo s k) (hk : k ≤ 7) : valT s k < 268435456 := Nat.lt_of_lt_of_le (valT_lt k h) (pow16_8 hk)
theorem HexTo.next {s : ByteArray} {k : Nat} (h : HexTo s k) (hb : isHexB (byT s k) = true) : HexTo s (k + 1) := fun i hi => by
  by_cases e : i = k
  · subst e; exact hb
  · exact h i (by omega)
theorem hexB_digit {b : Nat} (h1 : 48 ≤ b) (h2 : b ≤ 57) : isHexB b = true ∧ digB b = b - 48 := by
  refine ⟨?_, if_pos h2⟩
  unfold isHexB; rw [decide_eq_true ⟨h1, h2⟩]; rfl
theorem hexB_letter {b : Nat} (h1 : 97 ≤ b) (h2 : b ≤ 102) : isHexB b = true ∧ digB b = b - 87 := by
  refine ⟨?_, if_neg (by omega)⟩
  unfold isHexB; rw [decide_eq_true (p := 97 ≤ b ∧ b ≤ 102) ⟨h1, h2⟩, Bool.or_true]
theorem hexB_not {b : Nat} (h1 : ¬ (48 ≤ b ∧ b ≤ 57)) (h2 : ¬ (97 ≤ b ∧ b ≤ 102)) : isHexB b = false := by
  unfold isHexB; rw [decide_eq_false h1, decide_eq_false h2]; rfl
theorem index_byte {P : Program} {s : ByteArray} {T : TypeId} (hT : P.underlying T = some .string) (k : Nat) (h : k < s.size) (w : World) :
    (Instr.index T (.string s) (.int .i64 (k : Int))).run P w = .ok (.int .u8 (byT s k : Int)) w := by
  rw [run_index_string w T s .i64 (k : Int) hT, dif_pos ⟨by omega, by omega⟩]
  have hl : k < s.data.toList.length := by simpa using h
  have : byT s k = (s[k]'h).toNat := by
    unfold byT
    rw [List.getD_eq_getElem?_getD, List.getElem?_eq_getElem hl]
    simp
    rfl
  simp only [Int.toNat_natCast]
  rw [this]
end Go.Fl
