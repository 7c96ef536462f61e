/-
  Several values stored one behind the other, as one step. No statement is proved here.
-/
import Derived.Test.YtiffhjofabaflaaFrep
namespace Go.Proofs.Ytiffhjofabaflaa
open Go.RowKit
set_option linter.unusedVariables false

def puts (w : World) (b o : Nat) : List Value → World
  | [] => w
  | u :: us => puts (w.setCell ⟨b, o, none⟩ u) b (o + 1) us
def setL (xs : List Value) (o : Nat) : List Value → List Value
  | [] => xs
  | u :: us => setL (xs.set o u) (o + 1) us

theorem setL_len : ∀ (us xs : List Value) (o : Nat), (setL xs o us).length = xs.length
  | [], xs, o => rfl
  | u :: us, xs, o => by rw [setL, setL_len us]; simp
theorem setL_get : ∀ (us xs : List Value) (o j : Nat), o + us.length ≤ xs.length → (setL xs o us)[j]? = if o ≤ j ∧ j < o + us.length then us[j - o]? else xs[j]?
  | [], xs, o, j, h => by rw [if_neg (by simp only [List.length_nil]; omega)]; rfl
  | u :: us, xs, o, j, h => by
    simp only [List.length_cons] at h
    rw [setL, setL_get us (xs.set o u) (o + 1) j (by rw [List.length_set]; omega)]
    by_cases h1 : o + 1 ≤ j ∧ j < o + 1 + us.length
    · rw [if_pos h1, if_pos (by simp only [List.length_cons]; omega), show j - o = (j - (o + 1)) + 1 by omega]
      simp
    · rw [if_neg h1, List.getElem?_set]
      by_cases h2 : o = j
      · subst h2
        rw [if_pos rfl, if_pos (by omega), if_pos (by simp only [List.length_cons]; omega)]
        simp
      · rw [if_neg h2, if_neg (by simp only [List.length_cons]; omega)]
theorem puts_own {B g n c size : Nat} {e : TypeId} : ∀ (us : List Value) {w : World} {xs : List Value} (o : Nat), w.ownsRow B e size (.slice (some ⟨g, 0, none⟩) n c) n xs → (puts w g o us).ownsRow B e size (.slice (some ⟨g, 0, none⟩) n c) n (setL xs o us)
  | [], _, _, _, h => h
  | u :: us, w, xs, o, h => puts_own us (o + 1) (World.ownsRow.stored h o u).1
theorem puts_only {g : Nat} : ∀ (us : List Value) (w : World) (o : Nat), Only g (g + 1) w (puts w g o us)
  | [], w, o => Only.refl _ _ _
  | u :: us, w, o => (Only.set1 (p := ⟨g, o, none⟩) w (Nat.le_refl _) (Nat.lt_succ_self _) u).trans (puts_only us _ (o + 1))
theorem puts_size {g : Nat} : ∀ (us : List Value) (w : World) (o : Nat), (puts w g o us).heap.size = w.heap.size
  | [], w, o => rfl
  | u :: us, w, o => by rw [puts, puts_size us]; simp [World.setCell]
theorem puts_frozen {g : Nat} (a : Addr) : ∀ (us : List Value) (w : World) (o : Nat), (puts w g o us).frozen? a = w.frozen? a
  | [], w, o => rfl
  | u :: us, w, o => by rw [puts, puts_frozen a us]; exact World.frozen?_setCell _ _ _ _
theorem puts_out {g : Nat} (i : Nat) : ∀ (us : List Value) (w : World) (o : Nat), (i < o ∨ o + us.length ≤ i) → (puts w g o us).cell? ⟨g, i, none⟩ = w.cell? ⟨g, i, none⟩
  | [], w, o, h => rfl
  | u :: us, w, o, h => by
    simp only [List.length_cons] at h
    rw [puts, puts_out i us _ (o + 1) (by omega)]
    exact World.cell?_setCell_other _ _ _ _ (fun h' => by injection h' with _ h' _; omega)
theorem puts_at {g : Nat} (j : Nat) : ∀ (us : List Value) (w : World) (o : Nat), j < us.length → (∃ v, w.cell? ⟨g, o + j, none⟩ = some v) → (puts w g o us).cell? ⟨g, o + j, none⟩ = us[j]?
  | [], w, o, h, hv => absurd h (by simp)
  | u :: us, w, o, h, hv => by
    obtain ⟨v, hv⟩ := hv
    rcases j with _ | j
    · rw [puts, puts_out (o + 0) us _ (o + 1) (by omega)]
      simp only [Nat.add_zero] at hv ⊢
      rw [World.cell?_setCell_same _ _ _ hv]
      rfl
    · have := puts_at (g := g) j us (w.setCell ⟨g, o, none⟩ u) (o + 1) (by simpa using h) ⟨v, by
        rw [World.cell?_setCell_other _ _ _ _ (fun h' => by injection h' with _ h' _; omega), show o + 1 + j = o + (j + 1) by omega]; exact hv⟩
      rw [puts, show o + (j + 1) = o + 1 + j by omega, this]
      simp

end Go.Proofs.Ytiffhjofabaflaa
