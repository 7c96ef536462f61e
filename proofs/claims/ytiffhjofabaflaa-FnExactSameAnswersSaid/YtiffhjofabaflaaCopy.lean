/-
  Walks of l1Copy and bytes.Clone: a copy in new memory. No statement is proved here.
-/
import Derived.Test.YtiffhjofabaflaaHelp
namespace Go.Proofs.Ytiffhjofabaflaa
open Go.RowKit

theorem bytes_oneCell (zs : List Int) : ∀ u ∈ zs.map (Value.int .u8), u.oneCell' = true := ints_oneCell _ _

theorem BIn.news {w : World} {ad : Addr} {n : Nat} {zs : List Int} (h : BIn w (some ad) n zs) : ∀ j u, (zs.map (Value.int .u8))[j]? = some u → w.cell? (ad.add j) = some u := by
  intro j u hj
  have hl := h.1
  rw [List.getElem?_map] at hj
  have hjl : j < zs.length := by
    rcases Nat.lt_or_ge j zs.length with h' | h'
    · exact h'
    · rw [List.getElem?_eq_none h'] at hj; cases hj
  rw [List.getElem?_eq_getElem hjl] at hj
  simp only [Option.map_some, Option.some.injEq] at hj
  obtain ⟨b', o', e, hc⟩ := h.at_ (k := j) (by omega)
  injection e with e
  subst e
  have ea : Addr.add ⟨b', o', none⟩ j = ⟨b', o' + j, none⟩ := by unfold Addr.add; split <;> simp_all
  rw [ea, hc, ← hj]
  simp [List.getD, hjl]

theorem empty_own (w : World) : (w.alloc (.cells #[] 5)).ownsRow w.heap.size 5 1 (.slice (some ⟨w.heap.size, 0, none⟩) 0 0) 0 [] :=
  World.ownsRow_lit w #[] 0 (Nat.le_refl _) (Nat.zero_le _) rfl

end Go.Proofs.Ytiffhjofabaflaa
