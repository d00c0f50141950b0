import Derived.Test.YtbniidfojllflaaFlZ
import Derived.Test.YtbniidfojllflaaRun
/- A block that holds an array of twenty singles; how it fares. No program. -/
namespace Go.Fl
open Go.RowKit

/-- The block g is an array of twenty singles. -/
def arrAt (w : World) (g : Nat) (c : Nat → Nat) (T : TypeId) : Prop := w.heap[g]? = some (.cells (fls c) T (0, 0))

variable {w w' : World} {g B : Nat} {c d : Nat → Nat} {T : TypeId}
theorem arrAt.cell (h : arrAt w g c T) {k : Nat} (hk : k < 20) : w.cell? ⟨g, k, none⟩ = some (.float .f32 (c k)) := by
  rw [cell_of_row w g k _ _ _ h, fls_get c hk]
theorem arrAt.frozen (h : arrAt w g c T) (k : Nat) : w.frozen? ⟨g, k, none⟩ = false := frozen_of_row w g k _ _ h
theorem arrAt.set (h : arrAt w g c T) (k x : Nat) : arrAt (w.setCell ⟨g, k, none⟩ (.float .f32 x)) g (upd c k x) T := by
  unfold arrAt
  rw [heap_setCell_same w g k _ _ _ h, fls_set]
theorem arrAt.setOther (h : arrAt w g c T) {a : Addr} (ha : g ≠ a.block) (v : Value) : arrAt (w.setCell a v) g c T := by
  unfold arrAt
  rw [heap_setCell_other w a g v ha]
  exact h
theorem arrAt.setRow (h : arrAt w g c T) (d : Nat → Nat) : arrAt (w.setRow g (fls d)) g d T := setRow_heap w g _ _ _ _ h
theorem arrAt.setRowOther (h : arrAt w g c T) {k : Nat} (hk : g ≠ k) (cs : Array Value) : arrAt (w.setRow k cs) g c T := by
  unfold arrAt
  rw [setRow_other w k g cs hk]
  exact h
theorem arrAt.lt (h : arrAt w g c T) : g < w.heap.size := by
  unfold arrAt at h
  by_cases hlt : g < w.heap.size
  · exact hlt
  · rw [Array.getElem?_eq_none (by omega)] at h
    cases h
theorem arrAt.alloc (h : arrAt w g c T) (o : Obj) : arrAt (w.alloc o) g c T := by
  have := h.lt
  unfold arrAt
  rw [Below.heap_alloc w o g this]
  exact h
theorem arrAt.new (w : World) (c : Nat → Nat) (T : TypeId) : arrAt (w.alloc (.cells (fls c) T)) w.heap.size c T := heap_alloc_new _ _
theorem arrAt.below (h : arrAt w g c T) (hb : Below B w w') (hg : g < B) : arrAt w' g c T := by
  unfold arrAt
  rw [hb.block g hg]
  exact h
theorem arrAt.ext (h : arrAt w g c T) (he : ∀ i, i < 20 → c i = d i) : arrAt w g d T := by
  unfold arrAt
  rw [← fls_ext he]
  exact h
theorem arrAt.drew (h : arrAt w g c T) : arrAt w.drew g c T := h

@[go_sem] theorem run_store_float {P : Program} {w : World} {a : Addr} {m : Mode} (k : FloatKind) (b : Nat) : (store a (.float k b) m).run P w = stored P w a (.float k b) m := run_store P w a _ m rfl

@[go_sem] theorem zeros20 : (#[Value.float .f32 0, Value.float .f32 0, Value.float .f32 0, Value.float .f32 0, Value.float .f32 0, Value.float .f32 0, Value.float .f32 0, Value.float .f32 0, Value.float .f32 0, Value.float .f32 0,
    Value.float .f32 0, Value.float .f32 0, Value.float .f32 0, Value.float .f32 0, Value.float .f32 0, Value.float .f32 0, Value.float .f32 0, Value.float .f32 0, Value.float .f32 0, Value.float .f32 0] : Array Value) = fls (fun _ => 0) := by
  apply Array.ext_getElem?
  intro i
  by_cases hi : i < 20
  · rw [fls_get _ hi]
    rcases i with _ | _ | _ | _ | _ | _ | _ | _ | _ | _ | _ | _ | _ | _ | _ | _ | _ | _ | _ | _ | i <;> first | rfl | omega
  · rw [fls_none _ (by omega), Array.getElem?_eq_none]
    simp; omega

theorem below_row {w0 : World} (hb : Below B w0 w) (hg : B ≤ g) (cs : Array Value) : Below B w0 (w.setRow g cs) :=
  hb.trans ⟨rfl, rfl, rfl, by simp, fun k hk => setRow_other w g k cs (by omega)⟩

theorem fls_one (c : Nat → Nat) : (fls c).all (·.oneCell') = true := by
  rw [Array.all_eq_true]
  intro i hi
  simp [fls, Value.oneCell']

def cut (c : Nat → Nat) (k : Nat) : Nat → Nat := fun i => if i < k then c i else 0
theorem cut_zero' (c : Nat → Nat) (i : Nat) : cut c 0 i = 0 := by simp [cut]
theorem cut_succ (c : Nat → Nat) (k i : Nat) : upd (cut c k) k (c k) i = cut c (k + 1) i := by
  unfold upd cut
  by_cases h : i = k
  · subst h; simp
  · rw [if_neg h]
    by_cases h2 : i < k
    · rw [if_pos h2, if_pos (by omega)]
    · rw [if_neg h2, if_neg (by omega)]
theorem cut_all (c : Nat → Nat) (i : Nat) (h : i < 20) : cut c 20 i = c i := if_pos h
end Go.Fl
namespace Go.Fl
open Go.RowKit
theorem arrAt.stay {w w' : World} {g : Nat} {c : Nat → Nat} {T : TypeId} (h : arrAt w g c T) (hb : Below w.heap.size w w') : arrAt w' g c T := h.below hb h.lt
theorem stp {B : Nat} {w a b : World} (h : Below B w a) (hB : B ≤ w.heap.size) (k : Below a.heap.size a b) : Below B w b := h.trans (k.mono (Nat.le_trans hB h.size))
theorem boxed (w : World) (o : Obj) : Below w.heap.size w (w.alloc o) := (Below.refl _ _).alloc (Nat.le_refl _) _
end Go.Fl
namespace Go.Fl
open Go.RowKit
section
variable {c : Nat → Nat} {T : TypeId}
theorem new1 (w : World) (o : Obj) (c : Nat → Nat) (T : TypeId) : arrAt ((w.alloc o).alloc (.cells (fls c) T)) (w.heap.size + 1) c T := by
  have := arrAt.new (w.alloc o) c T
  have e : (w.alloc o).heap.size = w.heap.size + 1 := by simp
  rwa [e] at this
theorem new2 (w : World) (o o' : Obj) (c : Nat → Nat) (T : TypeId) : arrAt (((w.alloc o).alloc o').alloc (.cells (fls c) T)) (w.heap.size + 1 + 1) c T := by
  have := arrAt.new ((w.alloc o).alloc o') c T
  have e : ((w.alloc o).alloc o').heap.size = w.heap.size + 1 + 1 := by simp
  rwa [e] at this
theorem boxed2 (w : World) (o o' : Obj) : Below w.heap.size w ((w.alloc o).alloc o') := (boxed w o).alloc (by simp) _
theorem boxed3 (w : World) (o o' o'' : Obj) : Below w.heap.size w (((w.alloc o).alloc o').alloc o'') := (boxed2 w o o').alloc (by simp; omega) _
end

section
variable {P : Program}
theorem results_row_tmp {fn : Func} {p u : Tmp} {ty : TypeId} (h : fn.results = #[.cell p ty, .tmp u]) (tmps : Array Value) (w : World) (g : Nat) (t : TypeId) (cs : Array Value) (fr : Nat × Nat) (d : TypeDesc)
    (hp : tmps.getD p undef = .pointer (some ⟨g, 0, none⟩)) (hg : w.heap[g]? = some (.cells cs t fr))
    (hu : P.underlying ty = some d) (hd : (match d with | .struct _ | .array _ _ => true | _ => false) = true) (hi : (P.info? ty).map (·.size) = some cs.size) :
    (results fn tmps).run P w = .ok (.tuple #[.agg cs, tmps.getD u undef]) w := by
  have hp' : tmps[p]?.getD undef = .pointer (some ⟨g, 0, none⟩) := by simpa using hp
  simp [results, h, hp', asAddr, run_loadVar_row w g t ty cs fr d hg hu hd hi]
theorem results_row_tmp2 {fn : Func} {p u v : Tmp} {ty : TypeId} (h : fn.results = #[.cell p ty, .tmp u, .tmp v]) (tmps : Array Value) (w : World) (g : Nat) (t : TypeId) (cs : Array Value) (fr : Nat × Nat) (d : TypeDesc)
    (hp : tmps.getD p undef = .pointer (some ⟨g, 0, none⟩)) (hg : w.heap[g]? = some (.cells cs t fr))
    (hu : P.underlying ty = some d) (hd : (match d with | .struct _ | .array _ _ => true | _ => false) = true) (hi : (P.info? ty).map (·.size) = some cs.size) :
    (results fn tmps).run P w = .ok (.tuple #[.agg cs, tmps.getD u undef, tmps.getD v undef]) w := by
  have hp' : tmps[p]?.getD undef = .pointer (some ⟨g, 0, none⟩) := by simpa using hp
  simp [results, h, hp', asAddr, run_loadVar_row w g t ty cs fr d hg hu hd hi]
end
end Go.Fl
namespace Go.Fl
/-- The first k places as f has them, the others as c has them. -/
def prt (f c : Nat → Nat) (k : Nat) : Nat → Nat := fun i => if i < k then f i else c i
theorem part_zero (f c : Nat → Nat) (i : Nat) : prt f c 0 i = c i := by simp [prt]
theorem part_here (f c : Nat → Nat) (k : Nat) : prt f c k k = c k := by simp [prt]
theorem part_succ (f c : Nat → Nat) (k i : Nat) : upd (prt f c k) k (f k) i = prt f c (k + 1) i := by
  unfold upd prt
  by_cases h : i = k
  · subst h; simp
  · rw [if_neg h]
    by_cases h2 : i < k
    · rw [if_pos h2, if_pos (by omega)]
    · rw [if_neg h2, if_neg (by omega)]
theorem part_all (f c : Nat → Nat) (i : Nat) (h : i < 20) : prt f c 20 i = f i := if_pos h
end Go.Fl
