/-
  Wheels, timers and keys that the row hands over, told as items. No statement is proved here.
-/
import Derived.Test.YtiffhjofabaflaaOpen
import Derived.Test.YtiffhjofabaflaaTimerRows
namespace Go.Proofs.Ytiffhjofabaflaa
open Go.RowKit Go.ChangeShapes Go.WideShapes Go.ChangeAt Go.Deep
set_option linter.unusedVariables false

theorem cells_lkey : Try.prog.cellsOf 87 = 3 := by kernel_rfl
theorem cells_int64 : Try.prog.cellsOf 2 = 1 := by kernel_rfl

set_option maxRecDepth 20000 in
theorem open_key {H : Type} {enc : TypeId × Value → H} {w : World} {fuel : Nat} {cs : List Value} {x : DataW H × List MemPlace} (h : DataW.trod enc Try.prog w 0 (fun _ => true) true fuel 87 cs = some x) :
    ∃ z0 z1 z2 : Int, cs = [.int .i64 z0, .int .i64 z1, .int .i64 z2] := by
  obtain ⟨ys, k2, _, _, hl, hy, hg⟩ := DataW.trod_struct Try.underlying87 h
  rw [cells_lkey] at hl
  have hy3 : ys.length = 3 := hy
  clear h hy
  match cs, hl with
  | [c2, c3, c4], _ =>
    have g0 : DataW.trod enc Try.prog w 0 (fun _ => true) true k2 2 [c2] = ys[0]? := by simpa [cells_int64] using hg 0 _ rfl
    have g1 : DataW.trod enc Try.prog w 0 (fun _ => true) true k2 2 [c3] = ys[1]? := by simpa [cells_int64] using hg 1 _ rfl
    have g2 : DataW.trod enc Try.prog w 0 (fun _ => true) true k2 2 [c4] = ys[2]? := by simpa [cells_int64] using hg 2 _ rfl
    obtain ⟨z2, rfl⟩ := cell_int (by simp [hy3]) g0
    obtain ⟨z3, rfl⟩ := cell_int (by simp [hy3]) g1
    obtain ⟨z4, rfl⟩ := cell_int (by simp [hy3]) g2
    exact ⟨z2, z3, z4, rfl⟩

theorem Rep.Sl.rows {α : Type} {r : Rep α} {q : Bool} {lo hi : Nat} {w : World} {A : Option Addr} {n : Nat} {ys : List (List α)} (h : r.slice.Sl q lo hi w A n ys) : r.rows.Sl q lo hi w A n ys ∧ ∀ y ∈ ys, y.length ≤ maxLen := by
  rcases Nat.eq_zero_or_pos n with h0 | h0
  · subst h0
    obtain rfl := List.eq_nil_of_length_eq_zero h.1
    exact ⟨r.rows.Sl_nil _ _ _ _ _, fun y hy => by cases hy⟩
  · obtain ⟨b, o, e, l, u, f, hr⟩ := h.2 h0
    refine ⟨⟨h.1, fun _ => ⟨b, o, e, l, u, f, fun i y hy => ?_⟩⟩, fun y hy => ?_⟩
    · obtain ⟨cs, ⟨A', n', c', e', _, _, hs⟩, hc⟩ := hr i y hy
      exact ⟨cs, ⟨A', n', c', e', hs⟩, hc⟩
    · obtain ⟨i, hi, rfl⟩ := List.getElem_of_mem hy
      obtain ⟨cs, ⟨A', n', c', e', h1, h2, hs⟩, hc⟩ := hr i _ (List.getElem?_eq_getElem hi)
      have := hs.1
      omega

end Go.Proofs.Ytiffhjofabaflaa
