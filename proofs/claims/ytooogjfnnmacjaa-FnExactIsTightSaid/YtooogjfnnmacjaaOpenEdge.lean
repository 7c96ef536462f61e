/-
  Edges that the row hands over. No statement is proved here.
-/
import Derived.Test.YtooogjfnnmacjaaOpenNode
import Derived.Test.YtooogjfnnmacjaaEdgeRow
namespace Go.Proofs.Ytooogjfnnmacjaa
open Go.RowKit Go.ChangeShapes Go.WideShapes Go.ChangeAt Go.Deep
set_option linter.unusedVariables false

theorem cells_eg : Try.prog.cellsOf 206 = 5 := by kernel_rfl

set_option maxRecDepth 20000 in
theorem opens_edge : Opens Try.prog 206 Rep.edge := fun H enc w fuel cs x h => by
  obtain ⟨xs, n, _, _, hl, hx, hf⟩ := DataW.trod_struct Try.underlying206 h
  rw [cells_eg] at hl
  have hx3 : xs.length = 3 := hx
  clear h hx
  match cs, hl with
  | [c0, c1, c2, c3, c4], _ =>
    have f0 : DataW.trod enc Try.prog w 0 (fun _ => true) true n 98 [c0, c1] = xs[0]? := by simpa [cells_i64, cells_nd] using hf 0 _ rfl
    have f1 : DataW.trod enc Try.prog w 0 (fun _ => true) true n 98 [c2, c3] = xs[1]? := by simpa [cells_i64, cells_nd] using hf 1 _ rfl
    have f2 : DataW.trod enc Try.prog w 0 (fun _ => true) true n 2 [c4] = xs[2]? := by simpa [cells_i64, cells_nd] using hf 2 _ rfl
    obtain ⟨z, rfl⟩ := cell_int (by simp [hx3]) f2
    rw [List.getElem?_eq_getElem (by omega : 0 < xs.length)] at f0
    rw [List.getElem?_eq_getElem (by omega : 1 < xs.length)] at f1
    obtain ⟨a, e1⟩ := open_node f0
    obtain ⟨b, e2⟩ := open_node f1
    simp only [List.cons.injEq, and_true] at e1 e2
    obtain ⟨rfl, rfl⟩ := e1
    obtain ⟨rfl, rfl⟩ := e2
    exact ⟨⟨a, b, z⟩, rfl⟩
set_option maxRecDepth 20000 in
/-- A list of edges that came in. -/
theorem open_edges {H : Type} {enc : TypeId × Value → H} {w : World} {fuel : Nat} {A : Option Addr} {n c : Nat} {x : DataW H × List MemPlace} (h : DataW.trod enc Try.prog w 0 (fun _ => true) true fuel 95 [.slice A n c] = some x) :
    ∃ ys : List Eg, Rep.edge.Sl false 0 w.heap.size w A n ys ∧ n ≤ maxLen := by
  obtain ⟨ys, A', n', c', e1, hnc, hcm, hL⟩ := opens_slice Try.underlying95 cells_eg (by decide) opens_edge H enc w _ _ _ h
  simp only [List.cons.injEq, Value.slice.injEq, and_true] at e1
  obtain ⟨rfl, rfl, rfl⟩ := e1
  exact ⟨ys, hL, Nat.le_trans hnc hcm⟩

end Go.Proofs.Ytooogjfnnmacjaa
