/-
  Both SameWheels, and slices.Equal, slices.EqualFunc at rows of timers. No statement is proved here.
-/
import Derived.Test.YtomkgohhfllpgaaWheelLaws
namespace Go.Proofs.Ytomkgohhfllpgaa
open Go.RowKit
set_option linter.unusedVariables false

theorem Tmr.ext' {a b : Tmr} (h1 : a.typ = b.typ) (h2 : a.id = b.id) (h3 : a.adv = b.adv) (h4 : a.due = b.due) : a = b := by cases a; cases b; simp_all
/-- Do two timers tell the same. -/
def tmrB (a b : Tmr) : Bool := decide (a.typ = b.typ) && (decide (a.id = b.id) && (decide (a.adv = b.adv) && decide (a.due = b.due)))
theorem tmrB_iff (a b : Tmr) : tmrB a b = true ↔ a = b := by
  unfold tmrB
  simp only [Bool.and_eq_true, decide_eq_true_eq]
  exact ⟨fun ⟨h1, h2, h3, h4⟩ => Tmr.ext' h1 h2 h3 h4, fun h => by subst h; exact ⟨rfl, rfl, rfl, rfl⟩⟩
theorem ne_at {α : Type} {ys zs : List α} {k : Nat} {a b : α} (ha : ys[k]? = some a) (hb : zs[k]? = some b) (h : a ≠ b) : ys ≠ zs := by
  intro e; subst e; rw [ha] at hb; injection hb with hb; exact h hb
theorem eq_upto {α : Type} {ys zs : List α} (hl : ys.length = zs.length) (h : ∀ j, j < ys.length → ys[j]? = zs[j]?) : ys = zs := by
  apply List.ext_getElem? 
  intro i
  by_cases hi : i < ys.length
  · exact h i hi
  · rw [List.getElem?_eq_none (by omega), List.getElem?_eq_none (by omega)]
theorem bool_of {r : Bool} {p : Prop} (h : r = true ↔ p) (hn : ¬ p) : r = false := by cases r; rfl; exact absurd (h.1 rfl) hn
theorem is_of (p : Prop) : ∃ r : Bool, (r = true ↔ p) := by
  by_cases h : p
  · exact ⟨true, by simp [h]⟩
  · exact ⟨false, by simp [h]⟩

end Go.Proofs.Ytomkgohhfllpgaa
