/-
  Routes that the row hands over. No statement is proved here.
-/
import Derived.Test.YtooogjfnnmacjaaOpenNode
import Derived.Test.YtooogjfnnmacjaaRoute
namespace Go.Proofs.Ytooogjfnnmacjaa
open Go.RowKit Go.ChangeShapes Go.WideShapes Go.ChangeAt Go.Deep
set_option linter.unusedVariables false

theorem cells_rt : Try.prog.cellsOf 198 = 4 := by kernel_rfl
theorem cells_ndS : Try.prog.cellsOf 196 = 1 := by kernel_rfl

/-- A route of a bounded list. -/
def Rep.routeB : Rep Rt where
  size := 4
  rel q lo hi w cs e := Rep.route.rel q lo hi w cs e ∧ e.hops.length ≤ maxLen
  len h := Rep.route.len h.1
  keep h k := ⟨Rep.route.keep h.1 k, h.2⟩
  mono h l u := ⟨Rep.route.mono h.1 l u, h.2⟩
theorem Rep.Sl.routeB {q : Bool} {lo hi : Nat} {w : World} {A : Option Addr} {n : Nat} {ys : List Rt} (h : Rep.routeB.Sl q lo hi w A n ys) : Rep.route.Sl q lo hi w A n ys ∧ ∀ y ∈ ys, y.hops.length ≤ maxLen := by
  rcases Nat.eq_zero_or_pos n with h0 | h0
  · subst h0
    obtain rfl := List.eq_nil_of_length_eq_zero h.1
    exact ⟨Rep.route.Sl_nil _ _ _ _ _, fun y hy => by cases hy⟩
  · obtain ⟨b, o, e, l, u, f, hr⟩ := h.2 h0
    refine ⟨⟨h.1, fun _ => ⟨b, o, e, l, u, f, fun i y hy => ?_⟩⟩, fun y hy => ?_⟩
    · obtain ⟨cs, h1, hc⟩ := hr i y hy
      exact ⟨cs, h1.1, hc⟩
    · obtain ⟨i, hi, rfl⟩ := List.getElem_of_mem hy
      obtain ⟨cs, h1, hc⟩ := hr i _ (List.getElem?_eq_getElem hi)
      exact h1.2

set_option maxRecDepth 20000 in
theorem opens_route : Opens Try.prog 198 Rep.routeB := fun H enc w fuel cs x h => by
  obtain ⟨xs, n, _, _, hl, hx, hf⟩ := DataW.trod_struct Try.underlying198 h
  rw [cells_rt] at hl
  have hx3 : xs.length = 3 := hx
  clear h hx
  match cs, hl with
  | [c0, c1, c2, c3], _ =>
    have f0 : DataW.trod enc Try.prog w 0 (fun _ => true) true n 98 [c0, c1] = xs[0]? := by simpa [cells_i64, cells_nd, cells_ndS] using hf 0 _ rfl
    have f1 : DataW.trod enc Try.prog w 0 (fun _ => true) true n 2 [c2] = xs[1]? := by simpa [cells_i64, cells_nd, cells_ndS] using hf 1 _ rfl
    have f2 : DataW.trod enc Try.prog w 0 (fun _ => true) true n 196 [c3] = xs[2]? := by simpa [cells_i64, cells_nd, cells_ndS] using hf 2 _ rfl
    obtain ⟨z, rfl⟩ := cell_int (by simp [hx3]) f1
    rw [List.getElem?_eq_getElem (by omega : 0 < xs.length)] at f0
    rw [List.getElem?_eq_getElem (by omega : 2 < xs.length)] at f2
    obtain ⟨a, e1⟩ := open_node f0
    obtain ⟨ys, A, m, c, e2, hnc, hcm, hL⟩ := opens_slice Try.underlying196 cells_nd (by decide) opens_node H enc w _ _ _ f2
    simp only [List.cons.injEq, and_true] at e1
    obtain ⟨rfl, rfl⟩ := e1
    injection e2 with e2
    subst e2
    exact ⟨⟨a, z, ys⟩, ⟨A, m, c, rfl, hL⟩, by rw [hL.1]; exact Nat.le_trans hnc hcm⟩
set_option maxRecDepth 20000 in
/-- A list of routes that came in. -/
theorem open_routes {H : Type} {enc : TypeId × Value → H} {w : World} {fuel : Nat} {A : Option Addr} {n c : Nat} {x : DataW H × List MemPlace} (h : DataW.trod enc Try.prog w 0 (fun _ => true) true fuel 96 [.slice A n c] = some x) :
    ∃ ys : List Rt, Rep.route.Sl false 0 w.heap.size w A n ys ∧ n ≤ maxLen ∧ ∀ y ∈ ys, y.hops.length ≤ maxLen := by
  obtain ⟨ys, A', n', c', e1, hnc, hcm, hL⟩ := opens_slice Try.underlying96 cells_rt (by decide) opens_route H enc w _ _ _ h
  simp only [List.cons.injEq, Value.slice.injEq, and_true] at e1
  obtain ⟨rfl, rfl, rfl⟩ := e1
  exact ⟨ys, hL.routeB.1, Nat.le_trans hnc hcm, hL.routeB.2⟩

end Go.Proofs.Ytooogjfnnmacjaa
