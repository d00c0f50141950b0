import Derived.Test.YtbniidfojllflaaLibB
/- How words that are no NaN stand to themselves; one pattern for each NaN. No program. -/
namespace Go.Fl
open Ieee
def nanB (x : Nat) : Bool := decide (INF < mg x)
theorem order_self32 {x : Nat} (hx : x < 4294967296) (h : nanB x = false) : S.order x x = some .eq := by
  have h' : mg x ≤ INF := by simpa [nanB] using h
  rcases Nat.lt_or_eq_of_le h' with h1 | h1
  · obtain ⟨m, e, _, h2⟩ := read_fin hx h1
    unfold Format.order; rw [h2]; simp [Datum.order]
  · have e : S.read x = .infinity (decide (2147483648 ≤ x)) := by rw [read_sign hx, h1, read_INF]
    unfold Format.order; rw [e]; simp [Datum.order]
theorem neq_self (x : Nat) (hx : x < 4294967296) : (FloatKind.f32.format.order x x != some .eq) = nanB x := by
  show (S.order x x != some .eq) = _
  rcases h : nanB x with _ | _
  · rw [order_self32 hx h]; rfl
  · rw [order_nan32 (by simpa [nanB] using h)]; rfl
def nb (x : Nat) : Nat := if nanB x = true then 2143289344 else x
def sameB (a b : Nat) : Bool := if (nanB a || nanB b) = true then nanB a && nanB b else decide (a = b)
theorem sameB_nb (a b : Nat) : ((nb a : Int) == (nb b : Int)) = sameB a b := by
  have hc : nanB 2143289344 = true := by decide
  unfold nb sameB
  rcases ha : nanB a with _ | _ <;> rcases hb : nanB b with _ | _ <;> simp
  · by_cases e : a = b
    · subst e; simp
    · simp [e]; omega
  · intro e
    have : a = 2143289344 := by omega
    rw [this, hc] at ha; cases ha
  · intro e
    have : b = 2143289344 := by omega
    rw [this, hc] at hb; cases hb
end Go.Fl
