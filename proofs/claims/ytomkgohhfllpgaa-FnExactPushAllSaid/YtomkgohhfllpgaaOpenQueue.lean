/-
  Queues and items that the row hands over. No statement is proved here.
-/
import Derived.Test.YtomkgohhfllpgaaOpen
import Derived.Test.YtomkgohhfllpgaaTimer
namespace Go.Proofs.Ytomkgohhfllpgaa
open Go.RowKit Go.ChangeShapes Go.WideShapes Go.ChangeAt Go.Deep
set_option linter.unusedVariables false

theorem cells_ikey : Try.prog.cellsOf 57 = 3 := by kernel_rfl
theorem cells_itm : Try.prog.cellsOf 59 = 4 := by kernel_rfl
theorem cells_itmS : Try.prog.cellsOf 48 = 1 := by kernel_rfl
theorem cells_queue : Try.prog.cellsOf 50 = 3 := by kernel_rfl
theorem cells_boo : Try.prog.cellsOf 4 = 1 := by kernel_rfl

set_option maxRecDepth 20000 in
theorem open_ikey {H : Type} {enc : TypeId × Value → H} {w : World} {fuel : Nat} {cs : List Value} {x : DataW H × List MemPlace} (h : DataW.trod enc Try.prog w 0 (fun _ => true) true fuel 57 cs = some x) :
    ∃ z0 z1 z2 : Int, cs = [.int .i64 z0, .int .i64 z1, .int .i64 z2] := by
  obtain ⟨ys, k2, _, _, hl, hy, hg⟩ := DataW.trod_struct Try.underlying57 h
  rw [cells_ikey] at hl
  have hy3 : ys.length = 3 := hy
  clear h hy
  match cs, hl with
  | [c2, c3, c4], _ =>
    have g0 : DataW.trod enc Try.prog w 0 (fun _ => true) true k2 2 [c2] = ys[0]? := by simpa [cells_i64] using hg 0 _ rfl
    have g1 : DataW.trod enc Try.prog w 0 (fun _ => true) true k2 2 [c3] = ys[1]? := by simpa [cells_i64] using hg 1 _ rfl
    have g2 : DataW.trod enc Try.prog w 0 (fun _ => true) true k2 2 [c4] = ys[2]? := by simpa [cells_i64] using hg 2 _ rfl
    obtain ⟨z2, rfl⟩ := cell_int (by simp [hy3]) g0
    obtain ⟨z3, rfl⟩ := cell_int (by simp [hy3]) g1
    obtain ⟨z4, rfl⟩ := cell_int (by simp [hy3]) g2
    exact ⟨z2, z3, z4, rfl⟩

set_option maxRecDepth 20000 in
theorem opens_item : Opens Try.prog 59 Rep.timer := fun H enc w fuel cs x h => by
  obtain ⟨xs, n, _, _, hl, hx, hf⟩ := DataW.trod_struct Try.underlying59 h
  rw [cells_itm] at hl
  have hx2 : xs.length = 2 := hx
  clear h hx
  match cs, hl with
  | [c0, c1, c2, c3], _ =>
    have f0 : DataW.trod enc Try.prog w 0 (fun _ => true) true n 57 [c0, c1, c2] = xs[0]? := by simpa [cells_i64, cells_ikey] using hf 0 _ rfl
    have f1 : DataW.trod enc Try.prog w 0 (fun _ => true) true n 2 [c3] = xs[1]? := by simpa [cells_i64, cells_ikey] using hf 1 _ rfl
    obtain ⟨z3, rfl⟩ := cell_int (by simp [hx2]) f1
    rw [List.getElem?_eq_getElem (by omega : 0 < xs.length)] at f0
    obtain ⟨z0, z1, z2, e⟩ := open_ikey f0
    simp only [List.cons.injEq, and_true] at e
    obtain ⟨rfl, rfl, rfl⟩ := e
    exact ⟨⟨z0, z1, z2, z3⟩, rfl⟩

theorem open_item {H : Type} {enc : TypeId × Value → H} {w : World} {fuel : Nat} {cs : List Value} {x : DataW H × List MemPlace} (h : DataW.trod enc Try.prog w 0 (fun _ => true) true fuel 59 cs = some x) :
    ∃ z0 z1 z2 z3 : Int, cs = [.int .i64 z0, .int .i64 z1, .int .i64 z2, .int .i64 z3] := by
  obtain ⟨a, e⟩ := opens_item H enc w fuel cs x h
  exact ⟨_, _, _, _, e⟩

set_option maxRecDepth 20000 in
/-- A list of items that came in. -/
theorem open_items {H : Type} {enc : TypeId × Value → H} {w : World} {fuel : Nat} {A : Option Addr} {n c : Nat} {x : DataW H × List MemPlace} (h : DataW.trod enc Try.prog w 0 (fun _ => true) true fuel 48 [.slice A n c] = some x) :
    ∃ ys : List Tmr, Rep.timer.Sl false 0 w.heap.size w A n ys ∧ n ≤ maxLen := by
  obtain ⟨ys, A', n', c', e1, hnc, hcm, hL⟩ := opens_slice Try.underlying48 cells_itm (by decide) opens_item H enc w _ _ _ h
  simp only [List.cons.injEq, Value.slice.injEq, and_true] at e1
  obtain ⟨rfl, rfl, rfl⟩ := e1
  exact ⟨ys, hL, Nat.le_trans hnc hcm⟩

set_option maxRecDepth 20000 in
/-- A queue that came in. -/
theorem open_queue {H : Type} {enc : TypeId × Value → H} {w : World} {fuel : Nat} {cs : List Value} {x : DataW H × List MemPlace} (h : DataW.trod enc Try.prog w 0 (fun _ => true) true fuel 50 cs = some x) :
    ∃ (v : Int) (b : Bool) (A : Option Addr) (n c : Nat) (ys : List Tmr), cs = [.int .i64 v, .bool b, .slice A n c] ∧ Rep.timer.Sl false 0 w.heap.size w A n ys ∧ n ≤ maxLen := by
  obtain ⟨xs, k, _, _, hl, hx, hf⟩ := DataW.trod_struct Try.underlying50 h
  rw [cells_queue] at hl
  have hx3 : xs.length = 3 := hx
  clear h hx
  match cs, hl with
  | [c0, c1, c2], _ =>
    have f0 : DataW.trod enc Try.prog w 0 (fun _ => true) true k 2 [c0] = xs[0]? := by simpa [cells_i64, cells_boo, cells_itmS] using hf 0 _ rfl
    have f1 : DataW.trod enc Try.prog w 0 (fun _ => true) true k 4 [c1] = xs[1]? := by simpa [cells_i64, cells_boo, cells_itmS] using hf 1 _ rfl
    have f2 : DataW.trod enc Try.prog w 0 (fun _ => true) true k 48 [c2] = xs[2]? := by simpa [cells_i64, cells_boo, cells_itmS] using hf 2 _ rfl
    obtain ⟨z0, rfl⟩ := cell_int (by simp [hx3]) f0
    rw [List.getElem?_eq_getElem (by omega : 1 < xs.length)] at f1
    obtain ⟨b, e1, _⟩ := DataW.trod_bool Try.underlying4 f1
    injection e1 with e1
    subst e1
    rw [List.getElem?_eq_getElem (by omega : 2 < xs.length)] at f2
    obtain ⟨ys, A, n, c, e2, hnc, hcm, hL⟩ := opens_slice Try.underlying48 cells_itm (by decide) opens_item H enc w _ _ _ f2
    injection e2 with e2
    subst e2
    exact ⟨z0, b, A, n, c, ys, rfl, hL, Nat.le_trans hnc hcm⟩

end Go.Proofs.Ytomkgohhfllpgaa
