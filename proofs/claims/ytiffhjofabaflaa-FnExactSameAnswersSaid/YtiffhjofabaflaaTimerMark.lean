/-
  Marks in rows of timers and how they are found again: markTimerS, heldTimerS. No statement is proved here.
-/
import Derived.Test.YtiffhjofabaflaaTimerRows
import Derived.Test.YtiffhjofabaflaaHeldLsa
namespace Go.Proofs.Ytiffhjofabaflaa
open Go.RowKit
set_option linter.unusedVariables false

theorem Rep.timer_room {lo hi : Nat} {w : World} {A : Option Addr} {n : Nat} {ys : List Tmr} (h : Rep.timer.Sl true lo hi w A n ys) (hn : 0 < n) : ∃ b o, A = some ⟨b, o, none⟩ ∧ lo ≤ b ∧ b < hi ∧ Room w b o (4 * n) := by
  obtain ⟨b, o, e, h1, h2, hf, _⟩ := h.2 hn
  refine ⟨b, o, e, h1, h2, fun j hj => ?_, hf rfl⟩
  obtain ⟨b', o', a, e', _, c0, c1, c2, c3⟩ := Rep.timer_at h (k := j / 4) (by omega)
  rw [e] at e'; injection e' with e'; injection e' with e1 e2 _
  subst e1 e2
  rcases (show j % 4 = 0 ∨ j % 4 = 1 ∨ j % 4 = 2 ∨ j % 4 = 3 by omega) with hm | hm | hm | hm
  · exact ⟨_, by rw [show o + j = o + j / 4 * 4 by omega]; exact c0⟩
  · exact ⟨_, by rw [show o + j = o + j / 4 * 4 + 1 by omega]; exact c1⟩
  · exact ⟨_, by rw [show o + j = o + j / 4 * 4 + 2 by omega]; exact c2⟩
  · exact ⟨_, by rw [show o + j = o + j / 4 * 4 + 3 by omega]; exact c3⟩

def mTimers (k0 : Int) (n : Nat) : List Tmr := (List.range n).map fun (i : Nat) => ⟨k0 + 4 * (i : Int), k0 + 4 * (i : Int) + 1, k0 + 4 * (i : Int) + 2, k0 + 4 * (i : Int) + 3⟩

theorem mTimers_len (k0 : Int) (n : Nat) : (mTimers k0 n).length = n := by simp [mTimers]

theorem timers_of_counts {q : Bool} {lo hi : Nat} {w : World} {b o : Nat} {k0 : Int} {n : Nat} (h : Counts w b o k0 (4 * n)) (hR : Room w b o (4 * n)) (h1 : lo ≤ b) (h2 : b < hi) : Rep.timer.Sl q lo hi w (some ⟨b, o, none⟩) n (mTimers k0 n) :=
  ⟨mTimers_len _ _, fun _ => ⟨b, o, rfl, h1, h2, fun _ => hR.2, fun i a ha => by
    have hi' : i < n := by
      rcases Nat.lt_or_ge i (mTimers k0 n).length with h' | h'
      · rwa [mTimers_len] at h'
      · rw [List.getElem?_eq_none h'] at ha; cases ha
    have e : a = ⟨k0 + 4 * (i : Int), k0 + 4 * (i : Int) + 1, k0 + 4 * (i : Int) + 2, k0 + 4 * (i : Int) + 3⟩ := by simp [mTimers, hi'] at ha; exact ha.symm
    subst e
    refine ⟨_, rfl, fun j u hj => ?_⟩
    have hj4 : j < 4 := by
      rcases Nat.lt_or_ge j 4 with h' | h'
      · exact h'
      · rw [List.getElem?_eq_none (by simpa using h')] at hj; cases hj
    have := h (i * 4 + j) (by omega)
    show w.cell? ⟨b, o + i * 4 + j, none⟩ = some u
    rw [Nat.add_assoc, this, ← hj]
    rcases (show j = 0 ∨ j = 1 ∨ j = 2 ∨ j = 3 by omega) with rfl | rfl | rfl | rfl
    · simp; omega
    · simp; omega
    · simp; omega
    · simp; omega⟩⟩

theorem mTimers_at (k0 : Int) (n k : Nat) (h : k < n) : (mTimers k0 n)[k]? = some ⟨k0 + 4 * (k : Int), k0 + 4 * (k : Int) + 1, k0 + 4 * (k : Int) + 2, k0 + 4 * (k : Int) + 3⟩ := by simp [mTimers, h]

end Go.Proofs.Ytiffhjofabaflaa
