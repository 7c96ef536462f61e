/-
  Nodes that the row hands over. No statement is proved here.
-/
import Derived.Test.YtooogjfnnmacjaaOpenWheel
import Derived.Test.YtooogjfnnmacjaaNodeRow
namespace Go.Proofs.Ytooogjfnnmacjaa
open Go.RowKit Go.ChangeShapes Go.WideShapes Go.ChangeAt Go.Deep
set_option linter.unusedVariables false

theorem cells_nd : Try.prog.cellsOf 98 = 2 := by kernel_rfl
theorem cells_nodeB : Try.prog.cellsOf 4 = 1 := by kernel_rfl

set_option maxRecDepth 20000 in
theorem opens_node : Opens Try.prog 98 Rep.node := fun H enc w fuel cs x h => by
  obtain ⟨xs, n, _, _, hl, hx, hf⟩ := DataW.trod_struct Try.underlying98 h
  rw [cells_nd] at hl
  have hx2 : xs.length = 2 := hx
  clear h hx
  match cs, hl with
  | [c0, c1], _ =>
    have f0 : DataW.trod enc Try.prog w 0 (fun _ => true) true n 4 [c0] = xs[0]? := by simpa [cells_i64, cells_nodeB] using hf 0 _ rfl
    have f1 : DataW.trod enc Try.prog w 0 (fun _ => true) true n 2 [c1] = xs[1]? := by simpa [cells_i64, cells_nodeB] using hf 1 _ rfl
    obtain ⟨z1, rfl⟩ := cell_int (by simp [hx2]) f1
    rw [List.getElem?_eq_getElem (by omega : 0 < xs.length)] at f0
    obtain ⟨b, e1, _⟩ := DataW.trod_bool Try.underlying4 f0
    injection e1 with e1
    subst e1
    exact ⟨⟨b, z1⟩, rfl⟩
/-- A node that came in. -/
theorem open_node {H : Type} {enc : TypeId × Value → H} {w : World} {fuel : Nat} {cs : List Value} {x : DataW H × List MemPlace} (h : DataW.trod enc Try.prog w 0 (fun _ => true) true fuel 98 cs = some x) :
    ∃ a : Nd, cs = [.bool a.net, .int .i64 a.id] := opens_node H enc w fuel cs x h

end Go.Proofs.Ytooogjfnnmacjaa
