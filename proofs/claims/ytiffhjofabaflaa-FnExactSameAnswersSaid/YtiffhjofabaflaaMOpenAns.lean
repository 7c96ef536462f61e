/-
  An answer that came in. No statement is proved here.
-/
import Derived.Test.YtiffhjofabaflaaOpen
import Derived.Test.YtiffhjofabaflaaTimer
import Derived.Test.YtiffhjofabaflaaMAnsLaws
import Derived.Test.YtiffhjofabaflaaOpenBase
namespace Go.Proofs.Ytiffhjofabaflaa
open Go.RowKit Go.ChangeShapes Go.WideShapes Go.ChangeAt Go.Deep
set_option linter.unusedVariables false

theorem cells_ikey : Try.prog.cellsOf 87 = 3 := by kernel_rfl
theorem cells_itm : Try.prog.cellsOf 285 = 4 := by kernel_rfl
theorem cells_itmS : Try.prog.cellsOf 116 = 1 := by kernel_rfl
theorem cells_queue : Try.prog.cellsOf 293 = 3 := by kernel_rfl
theorem cells_boo : Try.prog.cellsOf 4 = 1 := by kernel_rfl

set_option maxRecDepth 20000 in
theorem open_ikey {H : Type} {enc : TypeId × Value → H} {w : World} {fuel : Nat} {cs : List Value} {x : DataW H × List MemPlace} (h : DataW.trod enc Try.prog w 0 (fun _ => true) true fuel 87 cs = some x) :
    ∃ z0 z1 z2 : Int, cs = [.int .i64 z0, .int .i64 z1, .int .i64 z2] := by
  obtain ⟨ys, k2, _, _, hl, hy, hg⟩ := DataW.trod_struct Try.underlying87 h
  rw [cells_ikey] at hl
  have hy3 : ys.length = 3 := hy
  clear h hy
  match cs, hl with
  | [c2, c3, c4], _ =>
    have g0 : DataW.trod enc Try.prog w 0 (fun _ => true) true k2 2 [c2] = ys[0]? := by simpa [cells_i64] using hg 0 _ rfl
    have g1 : DataW.trod enc Try.prog w 0 (fun _ => true) true k2 2 [c3] = ys[1]? := by simpa [cells_i64] using hg 1 _ rfl
    have g2 : DataW.trod enc Try.prog w 0 (fun _ => true) true k2 2 [c4] = ys[2]? := by simpa [cells_i64] using hg 2 _ rfl
    obtain ⟨z2, rfl⟩ := cell_int (by simp [hy3]) g0
    obtain ⟨z3, rfl⟩ := cell_int (by simp [hy3]) g1
    obtain ⟨z4, rfl⟩ := cell_int (by simp [hy3]) g2
    exact ⟨z2, z3, z4, rfl⟩

set_option maxRecDepth 20000 in
theorem opens_item : Opens Try.prog 285 Rep.timer := fun H enc w fuel cs x h => by
  obtain ⟨xs, n, _, _, hl, hx, hf⟩ := DataW.trod_struct Try.underlying285 h
  rw [cells_itm] at hl
  have hx2 : xs.length = 2 := hx
  clear h hx
  match cs, hl with
  | [c0, c1, c2, c3], _ =>
    have f0 : DataW.trod enc Try.prog w 0 (fun _ => true) true n 87 [c0, c1, c2] = xs[0]? := by simpa [cells_i64, cells_ikey] using hf 0 _ rfl
    have f1 : DataW.trod enc Try.prog w 0 (fun _ => true) true n 2 [c3] = xs[1]? := by simpa [cells_i64, cells_ikey] using hf 1 _ rfl
    obtain ⟨z3, rfl⟩ := cell_int (by simp [hx2]) f1
    rw [List.getElem?_eq_getElem (by omega : 0 < xs.length)] at f0
    obtain ⟨z0, z1, z2, e⟩ := open_ikey f0
    simp only [List.cons.injEq, and_true] at e
    obtain ⟨rfl, rfl, rfl⟩ := e
    exact ⟨⟨z0, z1, z2, z3⟩, rfl⟩

theorem open_item {H : Type} {enc : TypeId × Value → H} {w : World} {fuel : Nat} {cs : List Value} {x : DataW H × List MemPlace} (h : DataW.trod enc Try.prog w 0 (fun _ => true) true fuel 285 cs = some x) :
    ∃ z0 z1 z2 z3 : Int, cs = [.int .i64 z0, .int .i64 z1, .int .i64 z2, .int .i64 z3] := by
  obtain ⟨a, e⟩ := opens_item H enc w fuel cs x h
  exact ⟨_, _, _, _, e⟩

set_option maxRecDepth 20000 in
/-- A list of items that came in. -/
theorem open_items {H : Type} {enc : TypeId × Value → H} {w : World} {fuel : Nat} {A : Option Addr} {n c : Nat} {x : DataW H × List MemPlace} (h : DataW.trod enc Try.prog w 0 (fun _ => true) true fuel 116 [.slice A n c] = some x) :
    ∃ ys : List Tmr, Rep.timer.Sl false 0 w.heap.size w A n ys ∧ n ≤ maxLen := by
  obtain ⟨ys, A', n', c', e1, hnc, hcm, hL⟩ := opens_slice Try.underlying116 cells_itm (by decide) opens_item H enc w _ _ _ h
  simp only [List.cons.injEq, Value.slice.injEq, and_true] at e1
  obtain ⟨rfl, rfl, rfl⟩ := e1
  exact ⟨ys, hL, Nat.le_trans hnc hcm⟩

set_option maxRecDepth 20000 in
/-- A queue that came in. -/
theorem open_queue {H : Type} {enc : TypeId × Value → H} {w : World} {fuel : Nat} {cs : List Value} {x : DataW H × List MemPlace} (h : DataW.trod enc Try.prog w 0 (fun _ => true) true fuel 293 cs = some x) :
    ∃ (v : Int) (b : Bool) (A : Option Addr) (n c : Nat) (ys : List Tmr), cs = [.int .i64 v, .bool b, .slice A n c] ∧ Rep.timer.Sl false 0 w.heap.size w A n ys ∧ n ≤ maxLen := by
  obtain ⟨xs, k, _, _, hl, hx, hf⟩ := DataW.trod_struct Try.underlying293 h
  rw [cells_queue] at hl
  have hx3 : xs.length = 3 := hx
  clear h hx
  match cs, hl with
  | [c0, c1, c2], _ =>
    have f0 : DataW.trod enc Try.prog w 0 (fun _ => true) true k 2 [c0] = xs[0]? := by simpa [cells_i64, cells_boo, cells_itmS] using hf 0 _ rfl
    have f1 : DataW.trod enc Try.prog w 0 (fun _ => true) true k 4 [c1] = xs[1]? := by simpa [cells_i64, cells_boo, cells_itmS] using hf 1 _ rfl
    have f2 : DataW.trod enc Try.prog w 0 (fun _ => true) true k 116 [c2] = xs[2]? := by simpa [cells_i64, cells_boo, cells_itmS] using hf 2 _ rfl
    obtain ⟨z0, rfl⟩ := cell_int (by simp [hx3]) f0
    rw [List.getElem?_eq_getElem (by omega : 1 < xs.length)] at f1
    obtain ⟨b, e1, _⟩ := DataW.trod_bool Try.underlying4 f1
    injection e1 with e1
    subst e1
    rw [List.getElem?_eq_getElem (by omega : 2 < xs.length)] at f2
    obtain ⟨ys, A, n, c, e2, hnc, hcm, hL⟩ := opens_slice Try.underlying116 cells_itm (by decide) opens_item H enc w _ _ _ f2
    injection e2 with e2
    subst e2
    exact ⟨z0, b, A, n, c, ys, rfl, hL, Nat.le_trans hnc hcm⟩

end Go.Proofs.Ytiffhjofabaflaa

namespace Go.Proofs.Ytiffhjofabaflaa
open Go.RowKit
set_option linter.unusedVariables false

open Go.ChangeShapes Go.WideShapes Go.ChangeAt Go.Deep
theorem cells_bool9 : Try.prog.cellsOf 4 = 1 := by kernel_rfl
theorem cells_ans : Try.prog.cellsOf 118 = 16 := by kernel_rfl

set_option maxRecDepth 20000 in
/-- An answer that came in. -/
theorem open_answer {H : Type} {enc : TypeId × Value → H} {w : World} {fuel : Nat} {cs : List Value} {x : DataW H × List MemPlace} (h : DataW.trod enc Try.prog w 0 (fun _ => true) true fuel 118 cs = some x) :
    ∃ (a : AnsM) (A B E G : Option Addr) (n c m d k f g j : Nat), cs = [.int .i64 a.code, .bool a.ch, .int .i64 a.l.age, .int .i64 a.l.options, .int .i64 a.l.typ, .int .i64 a.l.id, .int .i64 a.l.adv, .int .i64 a.l.seq, .slice A n c, .slice B m d, .int .i64 a.l.mask, .int .i64 a.l.cost, .int .i64 a.now, .slice E k f, .bool a.mrk, .slice G g j] ∧ AnsIn false 0 w.heap.size w A n B m E k G g a ∧ AnsFit maxLen a := by
  obtain ⟨xs, u, _, _, hl, hx, hf⟩ := DataW.trod_struct Try.underlying118 h
  rw [cells_ans] at hl
  have hx6 : xs.length = 6 := hx
  clear h hx
  match cs, hl with
  | [x0, x1, x2, x3, x4, x5, x6, x7, x8, x9, x10, x11, x12, x13, x14, x15], _ =>
    have f0 : DataW.trod enc Try.prog w 0 (fun _ => true) true u 2 [x0] = xs[0]? := by simpa [cells_i64, cells_bool9, cells_lsa, cells_base, cells_itmS] using hf 0 _ rfl
    have f1 : DataW.trod enc Try.prog w 0 (fun _ => true) true u 4 [x1] = xs[1]? := by simpa [cells_i64, cells_bool9, cells_lsa, cells_base, cells_itmS] using hf 1 _ rfl
    have f2 : DataW.trod enc Try.prog w 0 (fun _ => true) true u 112 [x2, x3, x4, x5, x6, x7, x8, x9, x10, x11] = xs[2]? := by simpa [cells_i64, cells_bool9, cells_lsa, cells_base, cells_itmS] using hf 2 _ rfl
    have f3 : DataW.trod enc Try.prog w 0 (fun _ => true) true u 115 [x12, x13] = xs[3]? := by simpa [cells_i64, cells_bool9, cells_lsa, cells_base, cells_itmS] using hf 3 _ rfl
    have f4 : DataW.trod enc Try.prog w 0 (fun _ => true) true u 4 [x14] = xs[4]? := by simpa [cells_i64, cells_bool9, cells_lsa, cells_base, cells_itmS] using hf 4 _ rfl
    have f5 : DataW.trod enc Try.prog w 0 (fun _ => true) true u 116 [x15] = xs[5]? := by simpa [cells_i64, cells_bool9, cells_lsa, cells_base, cells_itmS] using hf 5 _ rfl
    obtain ⟨z0, rfl⟩ := cell_int (by simp [hx6]) f0
    rw [List.getElem?_eq_getElem (by omega : 1 < xs.length)] at f1
    rw [List.getElem?_eq_getElem (by omega : 2 < xs.length)] at f2
    rw [List.getElem?_eq_getElem (by omega : 3 < xs.length)] at f3
    rw [List.getElem?_eq_getElem (by omega : 4 < xs.length)] at f4
    rw [List.getElem?_eq_getElem (by omega : 5 < xs.length)] at f5
    obtain ⟨b1, e1, _⟩ := DataW.trod_bool Try.underlying4 f1
    injection e1 with e1
    subst e1
    obtain ⟨b4, e4, _⟩ := DataW.trod_bool Try.underlying4 f4
    injection e4 with e4
    subst e4
    obtain ⟨l, A, B, n, c, m, d, e2, hL, hn, hm⟩ := open_lsa f2
    simp only [List.cons.injEq, and_true] at e2
    obtain ⟨rfl, rfl, rfl, rfl, rfl, rfl, rfl, rfl, rfl, rfl⟩ := e2
    obtain ⟨v, E, k, f, ys, e3, hE, hk, hy⟩ := open_base f3
    simp only [List.cons.injEq, and_true] at e3
    obtain ⟨rfl, rfl⟩ := e3
    obtain ⟨zs, G, g, j, e5, hgj, hjm, hG⟩ := opens_slice Try.underlying116 cells_itm (by decide) opens_item H enc w _ _ _ f5
    injection e5 with e5
    subst e5
    exact ⟨⟨z0, b1, l, v, ys, b4, zs⟩, A, B, E, G, n, c, m, d, k, f, g, j, rfl, ⟨hL, hE, hG⟩, by have := hL.links.1; show l.links.length ≤ maxLen; omega, by have := hL.routers.1; show l.routers.length ≤ maxLen; omega, by have := hE.1; show ys.length ≤ maxLen; omega, hy, by have := hG.1; have := Nat.le_trans hgj hjm; show zs.length ≤ maxLen; omega⟩

end Go.Proofs.Ytiffhjofabaflaa

