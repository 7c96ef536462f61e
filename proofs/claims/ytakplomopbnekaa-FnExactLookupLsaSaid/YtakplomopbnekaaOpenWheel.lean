/-
  Wheels, timers and keys that the row hands over, told as items. No statement is proved here.
-/
import Derived.Test.YtakplomopbnekaaOpen
import Derived.Test.YtakplomopbnekaaTimerRows
namespace Go.Proofs.Ytakplomopbnekaa
open Go.RowKit Go.ChangeShapes Go.WideShapes Go.ChangeAt Go.Deep
set_option linter.unusedVariables false

theorem cells_lkey : Try.prog.cellsOf 60 = 3 := by kernel_rfl
theorem cells_tmr : Try.prog.cellsOf 62 = 4 := by kernel_rfl
theorem cells_tmrS : Try.prog.cellsOf 185 = 1 := by kernel_rfl
theorem cells_tmrSS : Try.prog.cellsOf 57 = 1 := by kernel_rfl
theorem cells_wheel : Try.prog.cellsOf 59 = 2 := by kernel_rfl
theorem cells_int64 : Try.prog.cellsOf 2 = 1 := by kernel_rfl

set_option maxRecDepth 20000 in
theorem open_key {H : Type} {enc : TypeId × Value → H} {w : World} {fuel : Nat} {cs : List Value} {x : DataW H × List MemPlace} (h : DataW.trod enc Try.prog w 0 (fun _ => true) true fuel 60 cs = some x) :
    ∃ z0 z1 z2 : Int, cs = [.int .i64 z0, .int .i64 z1, .int .i64 z2] := by
  obtain ⟨ys, k2, _, _, hl, hy, hg⟩ := DataW.trod_struct Try.underlying60 h
  rw [cells_lkey] at hl
  have hy3 : ys.length = 3 := hy
  clear h hy
  match cs, hl with
  | [c2, c3, c4], _ =>
    have g0 : DataW.trod enc Try.prog w 0 (fun _ => true) true k2 2 [c2] = ys[0]? := by simpa [cells_int64] using hg 0 _ rfl
    have g1 : DataW.trod enc Try.prog w 0 (fun _ => true) true k2 2 [c3] = ys[1]? := by simpa [cells_int64] using hg 1 _ rfl
    have g2 : DataW.trod enc Try.prog w 0 (fun _ => true) true k2 2 [c4] = ys[2]? := by simpa [cells_int64] using hg 2 _ rfl
    obtain ⟨z2, rfl⟩ := cell_int (by simp [hy3]) g0
    obtain ⟨z3, rfl⟩ := cell_int (by simp [hy3]) g1
    obtain ⟨z4, rfl⟩ := cell_int (by simp [hy3]) g2
    exact ⟨z2, z3, z4, rfl⟩

set_option maxRecDepth 20000 in
theorem opens_timer : Opens Try.prog 62 Rep.timer := fun H enc w fuel cs x h => by
  obtain ⟨xs, n, _, _, hl, hx, hf⟩ := DataW.trod_struct Try.underlying62 h
  rw [cells_tmr] at hl
  have hx2 : xs.length = 2 := hx
  clear h hx
  match cs, hl with
  | [c0, c1, c2, c3], _ =>
    have f0 : DataW.trod enc Try.prog w 0 (fun _ => true) true n 60 [c0, c1, c2] = xs[0]? := by simpa [cells_int64, cells_lkey] using hf 0 _ rfl
    have f1 : DataW.trod enc Try.prog w 0 (fun _ => true) true n 2 [c3] = xs[1]? := by simpa [cells_int64, cells_lkey] using hf 1 _ rfl
    obtain ⟨z3, rfl⟩ := cell_int (by simp [hx2]) f1
    rw [List.getElem?_eq_getElem (by omega : 0 < xs.length)] at f0
    obtain ⟨z0, z1, z2, e⟩ := open_key f0
    simp only [List.cons.injEq, and_true] at e
    obtain ⟨rfl, rfl, rfl⟩ := e
    exact ⟨⟨z0, z1, z2, z3⟩, rfl⟩

theorem open_timer {H : Type} {enc : TypeId × Value → H} {w : World} {fuel : Nat} {cs : List Value} {x : DataW H × List MemPlace} (h : DataW.trod enc Try.prog w 0 (fun _ => true) true fuel 62 cs = some x) :
    ∃ z0 z1 z2 z3 : Int, cs = [.int .i64 z0, .int .i64 z1, .int .i64 z2, .int .i64 z3] := by
  obtain ⟨a, e⟩ := opens_timer H enc w fuel cs x h
  exact ⟨_, _, _, _, e⟩

theorem Rep.Sl.rows {α : Type} {r : Rep α} {q : Bool} {lo hi : Nat} {w : World} {A : Option Addr} {n : Nat} {ys : List (List α)} (h : r.slice.Sl q lo hi w A n ys) : r.rows.Sl q lo hi w A n ys ∧ ∀ y ∈ ys, y.length ≤ maxLen := by
  rcases Nat.eq_zero_or_pos n with h0 | h0
  · subst h0
    obtain rfl := List.eq_nil_of_length_eq_zero h.1
    exact ⟨r.rows.Sl_nil _ _ _ _ _, fun y hy => by cases hy⟩
  · obtain ⟨b, o, e, l, u, f, hr⟩ := h.2 h0
    refine ⟨⟨h.1, fun _ => ⟨b, o, e, l, u, f, fun i y hy => ?_⟩⟩, fun y hy => ?_⟩
    · obtain ⟨cs, ⟨A', n', c', e', _, _, hs⟩, hc⟩ := hr i y hy
      exact ⟨cs, ⟨A', n', c', e', hs⟩, hc⟩
    · obtain ⟨i, hi, rfl⟩ := List.getElem_of_mem hy
      obtain ⟨cs, ⟨A', n', c', e', h1, h2, hs⟩, hc⟩ := hr i _ (List.getElem?_eq_getElem hi)
      have := hs.1
      omega

set_option maxRecDepth 20000 in
/-- A wheel that came in: its time, and where its rows lie. -/
theorem open_wheel {H : Type} {enc : TypeId × Value → H} {w : World} {fuel : Nat} {cs : List Value} {x : DataW H × List MemPlace} (h : DataW.trod enc Try.prog w 0 (fun _ => true) true fuel 59 cs = some x) :
    ∃ (v : Int) (A : Option Addr) (n c : Nat) (ys : List (List Tmr)), cs = [.int .i64 v, .slice A n c] ∧ Rep.timer.rows.Sl false 0 w.heap.size w A n ys ∧ n ≤ maxLen ∧ ∀ y ∈ ys, y.length ≤ maxLen := by
  obtain ⟨xs, k, _, _, hl, hx, hf⟩ := DataW.trod_struct Try.underlying59 h
  rw [cells_wheel] at hl
  have hx2 : xs.length = 2 := hx
  clear h hx
  match cs, hl with
  | [c0, c1], _ =>
    have f0 : DataW.trod enc Try.prog w 0 (fun _ => true) true k 2 [c0] = xs[0]? := by simpa [cells_int64, cells_tmrSS] using hf 0 _ rfl
    have f1 : DataW.trod enc Try.prog w 0 (fun _ => true) true k 57 [c1] = xs[1]? := by simpa [cells_int64, cells_tmrSS] using hf 1 _ rfl
    obtain ⟨z0, rfl⟩ := cell_int (by simp [hx2]) f0
    rw [List.getElem?_eq_getElem (by omega : 1 < xs.length)] at f1
    obtain ⟨ys, A, n, c, e1, hnc, hcm, hL⟩ := opens_slice Try.underlying57 cells_tmrS (by decide) (opens_slice Try.underlying185 cells_tmr (by decide) opens_timer) H enc w _ _ _ f1
    injection e1 with e1
    subst e1
    exact ⟨z0, A, n, c, ys, rfl, hL.rows.1, Nat.le_trans hnc hcm, hL.rows.2⟩

end Go.Proofs.Ytakplomopbnekaa
