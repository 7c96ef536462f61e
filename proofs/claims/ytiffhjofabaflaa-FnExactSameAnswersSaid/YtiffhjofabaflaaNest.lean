/-
  Rows of rows: slices of slices, told by Rep. No statement is proved here.
-/
import Derived.Test.YtiffhjofabaflaaLinks
namespace Go.Proofs.Ytiffhjofabaflaa
open Go.RowKit
set_option linter.unusedVariables false

/-- A slice value whose items r tells, as an item. -/
def Rep.rows {α : Type} (r : Rep α) : Rep (List α) where
  size := 1
  rel q lo hi w cs ys := ∃ A n c, cs = [.slice A n c] ∧ r.Sl q lo hi w A n ys
  len h := by obtain ⟨A, n, c, rfl, _⟩ := h; rfl
  keep h k := by obtain ⟨A, n, c, e, h1⟩ := h; exact ⟨A, n, c, e, h1.keep k⟩
  mono h l u := by obtain ⟨A, n, c, e, h1⟩ := h; exact ⟨A, n, c, e, h1.mono l u⟩

theorem Rep.rows_at {α : Type} {r : Rep α} {q : Bool} {lo hi : Nat} {w : World} {A : Option Addr} {n : Nat} {ys : List (List α)} (h : r.rows.Sl q lo hi w A n ys) {k : Nat} (hk : k < n) :
    ∃ b o x E m c, A = some ⟨b, o, none⟩ ∧ ys[k]? = some x ∧ w.cell? ⟨b, o + k, none⟩ = some (.slice E m c) ∧ r.Sl q lo hi w E m x := by
  obtain ⟨b, o, a, cs, e, ha, hr, hc⟩ := h.at_ hk
  obtain ⟨E, m, c, rfl, h1⟩ := hr
  refine ⟨b, o, a, E, m, c, e, ha, ?_, h1⟩
  have := hc 0 _ rfl
  simpa [Rep.rows] using this

end Go.Proofs.Ytiffhjofabaflaa
