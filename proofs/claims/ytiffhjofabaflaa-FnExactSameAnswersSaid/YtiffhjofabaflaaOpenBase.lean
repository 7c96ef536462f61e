/-
  Bases that the row hands over, told as entries. No statement is proved here.
-/
import Derived.Test.YtiffhjofabaflaaOpenWheel
import Derived.Test.YtiffhjofabaflaaEntSz
namespace Go.Proofs.Ytiffhjofabaflaa
open Go.RowKit Go.ChangeShapes Go.WideShapes Go.ChangeAt Go.Deep
set_option linter.unusedVariables false

theorem cells_ent : Try.prog.cellsOf 313 = 11 := by kernel_rfl
theorem cells_entS : Try.prog.cellsOf 113 = 1 := by kernel_rfl
theorem cells_base : Try.prog.cellsOf 115 = 2 := by kernel_rfl

theorem Kept.ents {lo hi : Nat} {A : Option Addr} {n : Nat} {ys : List Ent} {w : World} (h : Kept lo hi (FRepK FRep.ent lo hi A n ys) w) : Rep.ent.Sl true lo hi w A n ys := h.out.sl
/-- An entry of bounded lists. -/
def Rep.entB : Rep Ent where
  size := 11
  rel q lo hi w cs e := Rep.ent.rel q lo hi w cs e ∧ e.l.links.length ≤ maxLen ∧ e.l.routers.length ≤ maxLen
  len h := Rep.ent.len h.1
  keep h k := ⟨Rep.ent.keep h.1 k, h.2⟩
  mono h l u := ⟨Rep.ent.mono h.1 l u, h.2⟩
theorem Rep.Sl.entB {q : Bool} {lo hi : Nat} {w : World} {A : Option Addr} {n : Nat} {ys : List Ent} (h : Rep.entB.Sl q lo hi w A n ys) : Rep.ent.Sl q lo hi w A n ys ∧ ∀ y ∈ ys, y.l.links.length ≤ maxLen ∧ y.l.routers.length ≤ maxLen := by
  rcases Nat.eq_zero_or_pos n with h0 | h0
  · subst h0
    obtain rfl := List.eq_nil_of_length_eq_zero h.1
    exact ⟨Rep.ent.Sl_nil _ _ _ _ _, fun y hy => by cases hy⟩
  · obtain ⟨b, o, e, l, u, f, hr⟩ := h.2 h0
    refine ⟨⟨h.1, fun _ => ⟨b, o, e, l, u, f, fun i y hy => ?_⟩⟩, fun y hy => ?_⟩
    · obtain ⟨cs, h1, hc⟩ := hr i y hy
      exact ⟨cs, h1.1, hc⟩
    · obtain ⟨i, hi, rfl⟩ := List.getElem_of_mem hy
      obtain ⟨cs, h1, hc⟩ := hr i _ (List.getElem?_eq_getElem hi)
      exact h1.2

set_option maxRecDepth 20000 in
theorem opens_ent : Opens Try.prog 313 Rep.entB := fun H enc w fuel cs x h => by
  obtain ⟨xs, n, _, _, hl, hx, hf⟩ := DataW.trod_struct Try.underlying313 h
  rw [cells_ent] at hl
  have hx2 : xs.length = 2 := hx
  clear h hx
  match cs, hl with
  | [c0, c1, c2, c3, c4, c5, c6, c7, c8, c9, c10], _ =>
    have f0 : DataW.trod enc Try.prog w 0 (fun _ => true) true n 112 [c0, c1, c2, c3, c4, c5, c6, c7, c8, c9] = xs[0]? := by simpa [cells_int64, cells_lsa] using hf 0 _ rfl
    have f1 : DataW.trod enc Try.prog w 0 (fun _ => true) true n 2 [c10] = xs[1]? := by simpa [cells_int64, cells_lsa] using hf 1 _ rfl
    obtain ⟨z, rfl⟩ := cell_int (by simp [hx2]) f1
    rw [List.getElem?_eq_getElem (by omega : 0 < xs.length)] at f0
    obtain ⟨l, A, B, n', c, m, d, e, hl, hn, hm⟩ := open_lsa f0
    simp only [List.cons.injEq, and_true] at e
    obtain ⟨rfl, rfl, rfl, rfl, rfl, rfl, rfl, rfl, rfl, rfl⟩ := e
    exact ⟨⟨l, z⟩, ⟨A, B, n', c, m, d, rfl, hl⟩, by rw [hl.links.1]; exact hn, by rw [hl.routers.1]; exact hm⟩

set_option maxRecDepth 20000 in
/-- A base that came in: its time, and where its entries lie. -/
theorem open_base {H : Type} {enc : TypeId × Value → H} {w : World} {fuel : Nat} {cs : List Value} {x : DataW H × List MemPlace} (h : DataW.trod enc Try.prog w 0 (fun _ => true) true fuel 115 cs = some x) :
    ∃ (v : Int) (A : Option Addr) (n c : Nat) (ys : List Ent), cs = [.int .i64 v, .slice A n c] ∧ Rep.ent.Sl false 0 w.heap.size w A n ys ∧ n ≤ maxLen ∧ ∀ y ∈ ys, y.l.links.length ≤ maxLen ∧ y.l.routers.length ≤ maxLen := by
  obtain ⟨xs, k, _, _, hl, hx, hf⟩ := DataW.trod_struct Try.underlying115 h
  rw [cells_base] at hl
  have hx2 : xs.length = 2 := hx
  clear h hx
  match cs, hl with
  | [c0, c1], _ =>
    have f0 : DataW.trod enc Try.prog w 0 (fun _ => true) true k 2 [c0] = xs[0]? := by simpa [cells_int64, cells_entS] using hf 0 _ rfl
    have f1 : DataW.trod enc Try.prog w 0 (fun _ => true) true k 113 [c1] = xs[1]? := by simpa [cells_int64, cells_entS] using hf 1 _ rfl
    obtain ⟨z0, rfl⟩ := cell_int (by simp [hx2]) f0
    rw [List.getElem?_eq_getElem (by omega : 1 < xs.length)] at f1
    obtain ⟨ys, A, n, c, e1, hnc, hcm, hL⟩ := opens_slice Try.underlying113 cells_ent (by decide) opens_ent H enc w _ _ _ f1
    injection e1 with e1
    subst e1
    exact ⟨z0, A, n, c, ys, rfl, hL.entB.1, Nat.le_trans hnc hcm, hL.entB.2⟩

end Go.Proofs.Ytiffhjofabaflaa
