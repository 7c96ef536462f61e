/-
  Slices of slices of timers in the laws: how many there are, like ones, marks and how they are found again. No statement is proved here.
-/
import Derived.Test.YtiffhjofabaflaaTimerMark
namespace Go.Proofs.Ytiffhjofabaflaa
open Go.RowKit
set_option linter.unusedVariables false

/-- How many items there are in all. -/
def tot {α : Type} (ys : List (List α)) : Nat := (ys.map List.length).sum
theorem tot_take {α : Type} (ys : List (List α)) (k : Nat) (y : List α) (h : ys[k]? = some y) : tot (ys.take (k + 1)) = tot (ys.take k) + y.length := by
  have hk := (List.getElem?_eq_some_iff.1 h).1
  have hy := (List.getElem?_eq_some_iff.1 h).2
  rw [List.take_succ_eq_append_getElem hk, hy]
  simp [tot]
theorem tot_le {α : Type} (ys : List (List α)) (k : Nat) : tot (ys.take k) ≤ tot ys := by
  have : tot ys = tot (ys.take k) + tot (ys.drop k) := by
    unfold tot
    rw [← List.sum_append, ← List.map_append, List.take_append_drop]
  omega
theorem tot_at {α : Type} (ys : List (List α)) (k : Nat) (y : List α) (h : ys[k]? = some y) : tot (ys.take k) + y.length ≤ tot ys := by
  rw [← tot_take ys k y h]; exact tot_le _ _
theorem tot_all {α : Type} (ys : List (List α)) (k : Nat) (h : ys.length ≤ k) : tot (ys.take k) = tot ys := by rw [List.take_of_length_le h]

/-- What szTimerSS answers. -/
def szRows {α : Type} : Int → List (List α) → Int
  | left, [] => left
  | left, y :: t => if left - y.length < 0 then -1 else szRows (left - y.length) t
def szSS {α : Type} (left : Int) (ys : List (List α)) : Int := if left - ys.length < 0 then -1 else szRows (left - ys.length) ys
theorem szRows_nonneg {α : Type} : ∀ (ys : List (List α)) (left : Int), 0 ≤ left → 0 ≤ szRows left ys → szRows left ys = left - tot ys
  | [], left, _, _ => by simp [szRows, tot]
  | y :: t, left, h0, h => by
    unfold szRows at h ⊢
    split at h
    · omega
    · rename_i h1
      rw [if_neg h1, szRows_nonneg t _ (by omega) h]
      simp only [tot, List.map_cons, List.sum_cons]
      omega
theorem szSS_nonneg {α : Type} {ys : List (List α)} {left : Int} (h0 : 0 ≤ left) (h : 0 ≤ szSS left ys) : szSS left ys = left - ys.length - tot ys := by
  unfold szSS at h ⊢
  split at h
  · omega
  · rename_i h1
    rw [if_neg h1, szRows_nonneg _ _ (by omega) h]
theorem szRows_drop {α : Type} (left : Int) (ys : List (List α)) (k : Nat) (y : List α) (h : ys[k]? = some y) : szRows left (ys.drop k) = if left - y.length < 0 then -1 else szRows (left - y.length) (ys.drop (k + 1)) := by
  have hk := (List.getElem?_eq_some_iff.1 h).1
  rw [List.drop_eq_getElem_cons hk, (List.getElem?_eq_some_iff.1 h).2]
  rfl

/-- The rows bear marks. -/
def Marked (k0 : Int) (ys zs : List (List Tmr)) : Prop := zs.length = ys.length ∧ ∀ j y, ys[j]? = some y → zs[j]? = some (mTimers (k0 + 4 * (tot (ys.take j) : Int)) y.length)
theorem Marked.lens {k0 : Int} {ys zs : List (List Tmr)} (h : Marked k0 ys zs) {k : Nat} {z : List Tmr} (hz : zs[k]? = some z) : ∃ y, ys[k]? = some y ∧ z = mTimers (k0 + 4 * (tot (ys.take k) : Int)) y.length ∧ z.length = y.length := by
  have hk := (List.getElem?_eq_some_iff.1 hz).1
  have hk' : k < ys.length := by rw [← h.1]; exact hk
  have := h.2 k ys[k] (List.getElem?_eq_getElem hk')
  rw [hz] at this
  injection this with this
  exact ⟨ys[k], List.getElem?_eq_getElem hk', this, by rw [this, mTimers_len]⟩

end Go.Proofs.Ytiffhjofabaflaa
