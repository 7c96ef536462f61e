/-
  Arguments that the row hands over, told as items: a number, a slice of any items, links, advertisements. No statement is proved here.
-/
import Derived.Test.YtiffhjofabaflaaLsa
import Derived.ProofKit
import Derived.Deep.Slices
namespace Go.Proofs.Ytiffhjofabaflaa
open Go.RowKit Go.ChangeShapes Go.WideShapes Go.ChangeAt Go.Deep

/-- Whatever reads as data of type t, tells an item of the Rep. -/
def Opens (P : Program) (t : TypeId) {α : Type} (r : Rep α) : Prop :=
  ∀ (H : Type) (enc : TypeId × Value → H) (w : World) (fuel : Nat) (cs : List Value) (x : DataW H × List MemPlace), DataW.trod enc P w 0 (fun _ => true) true fuel t cs = some x → ∃ a, r.rel false 0 w.heap.size w cs a

theorem gather {α : Type} {Q : Nat → α → Prop} (len : Nat) (h : ∀ i, i < len → ∃ b, Q i b) : ∃ ys : List α, ys.length = len ∧ ∀ i b, ys[i]? = some b → Q i b := by
  induction len with
  | zero => exact ⟨[], rfl, fun i b hb => by simp at hb⟩
  | succ k ih =>
    obtain ⟨ys, h1, h2⟩ := ih (fun i hi => h i (by omega))
    obtain ⟨b, hb⟩ := h k (by omega)
    refine ⟨ys ++ [b], by simp [h1], fun i b' hb' => ?_⟩
    by_cases hi : i < k
    · rw [List.getElem?_append_left (by omega)] at hb'
      exact h2 i b' hb'
    · have hik : i = k := by
        have := (List.getElem?_eq_some_iff.1 hb').1
        simp at this; omega
      subst hik
      rw [List.getElem?_append_right (by omega), h1, Nat.sub_self] at hb'
      simp at hb'
      subst hb'
      exact hb

theorem opens_int {P : Program} {t : TypeId} (ht : P.underlying t = some (.int .i64)) : Opens P t Rep.int := fun H enc w fuel cs x h => by
  obtain ⟨n, rfl, _, _⟩ := DataW.trod_int ht h
  exact ⟨n, rfl⟩

/-- What of a number is told besides: that it is an int64. -/
theorem opens_slice {P : Program} {t e : TypeId} {α : Type} {r : Rep α} (ht : P.underlying t = some (.slice e)) (hc : P.cellsOf e = r.size) (hp : 0 < r.size) (h : Opens P e r) : Opens P t r.slice := fun H enc w fuel cs x hx => by
  rcases open_slice ht hx with ⟨rfl, _⟩ | ⟨a, len, cap, m, n, D, Pl, rfl, _, hl, hcm, hm, _, hel⟩
  · exact ⟨[], none, 0, 0, rfl, Nat.le_refl _, Nat.zero_le _, Rep.Sl_nil _ _ _ _ _ _⟩
  · have hlm : len ≤ m := by rw [hm]; simp; omega
    have each : ∀ i, i < len → ∃ cs' b, w.cells? 0 (a.add (i * r.size)) r.size = some cs' ∧ r.rel false 0 w.heap.size w cs' b := fun i hi => by
      obtain ⟨cs', h1, h2⟩ := hel i (by omega)
      rw [hc] at h1
      obtain ⟨b, hb⟩ := h H enc w n cs' _ h2
      exact ⟨cs', b, h1, hb⟩
    have hlist := gather (Q := fun i b => ∃ cs', w.cells? 0 (a.add (i * r.size)) r.size = some cs' ∧ r.rel false 0 w.heap.size w cs' b) len (fun i hi => by
      obtain ⟨cs', b, h1, h2⟩ := each i hi
      exact ⟨b, cs', h1, h2⟩)
    obtain ⟨ys, hys, hall⟩ := hlist
    refine ⟨ys, some a, len, cap, rfl, hl, hcm, hys, fun hn => ?_⟩
    obtain ⟨b, o, spot⟩ := a
    have h0 : ys[0]? = some ys[0] := List.getElem?_eq_getElem (by omega)
    obtain ⟨cs0, hc0, _⟩ := hall 0 _ h0
    have hcell0 := (World.cells?_some hc0).2.2 0 hp
    have hlen0 := (World.cells?_some hc0).2.1
    have hsome : ∃ u, w.cell? (((⟨b, o, spot⟩ : Addr).add (0 * r.size)).add 0) = some u := by
      rw [hcell0]
      exact ⟨cs0[0]'(by omega), List.getElem?_eq_getElem (by omega)⟩
    obtain ⟨u0, hu0⟩ := hsome
    have hspot : spot = none := by simpa [Addr.add] using World.cell?_spot hu0
    subst hspot
    have hb : b < w.heap.size := by
      have := World.block_lt_of_cell? w _ hu0
      simpa [Addr.add] using this
    refine ⟨b, o, rfl, Nat.zero_le _, hb, (fun hq => by cases hq), fun i y hy => ?_⟩
    obtain ⟨cs', hc1, hr⟩ := hall i y hy
    refine ⟨cs', hr, fun j u hu => ?_⟩
    have hlen := (World.cells?_some hc1).2.1
    have hj : j < r.size := by
      have := (List.getElem?_eq_some_iff.1 hu).1
      omega
    have := (World.cells?_some hc1).2.2 j hj
    rw [hu] at this
    have ea : (((⟨b, o, none⟩ : Addr).add (i * r.size)).add j) = ⟨b, o + i * r.size + j, none⟩ := by
      unfold Addr.add
      repeat' split
      all_goals simp_all
    rw [ea] at this
    exact this

theorem cells_i64 : Try.prog.cellsOf 2 = 1 := by kernel_rfl
theorem cells_lnk : Try.prog.cellsOf 315 = 4 := by kernel_rfl
theorem cells_key : Try.prog.cellsOf 87 = 3 := by kernel_rfl
theorem cells_lsa : Try.prog.cellsOf 112 = 10 := by kernel_rfl
theorem cells_lnkS : Try.prog.cellsOf 110 = 1 := by kernel_rfl
theorem cells_i64S : Try.prog.cellsOf 78 = 1 := by kernel_rfl

/-- One cell that reads as an int64. -/
theorem cell_int {H : Type} {enc : TypeId × Value → H} {w : World} {n : Nat} {c : Value} {o : Option (DataW H × List MemPlace)} (ho : o.isSome = true)
    (h : DataW.trod enc Try.prog w 0 (fun _ => true) true n 2 [c] = o) : ∃ z, c = .int .i64 z := by
  obtain ⟨y, rfl⟩ := Option.isSome_iff_exists.1 ho
  obtain ⟨z, e, _⟩ := DataW.trod_int Try.underlying2 h
  injection e with e
  exact ⟨z, e⟩

set_option maxRecDepth 20000 in
theorem opens_link : Opens Try.prog 315 Rep.link := fun H enc w fuel cs x h => by
  obtain ⟨xs, n, _, _, hl, hx, hf⟩ := DataW.trod_struct Try.underlying315 h
  rw [cells_lnk] at hl
  have hx4 : xs.length = 4 := hx
  clear h hx
  match cs, hl with
  | [c0, c1, c2, c3], _ =>
    have f0 : DataW.trod enc Try.prog w 0 (fun _ => true) true n 2 [c0] = xs[0]? := by simpa [cells_i64] using hf 0 _ rfl
    have f1 : DataW.trod enc Try.prog w 0 (fun _ => true) true n 2 [c1] = xs[1]? := by simpa [cells_i64] using hf 1 _ rfl
    have f2 : DataW.trod enc Try.prog w 0 (fun _ => true) true n 2 [c2] = xs[2]? := by simpa [cells_i64] using hf 2 _ rfl
    have f3 : DataW.trod enc Try.prog w 0 (fun _ => true) true n 2 [c3] = xs[3]? := by simpa [cells_i64] using hf 3 _ rfl
    obtain ⟨z0, rfl⟩ := cell_int (by simp [hx4]) f0
    obtain ⟨z1, rfl⟩ := cell_int (by simp [hx4]) f1
    obtain ⟨z2, rfl⟩ := cell_int (by simp [hx4]) f2
    obtain ⟨z3, rfl⟩ := cell_int (by simp [hx4]) f3
    exact ⟨⟨z0, z1, z2, z3⟩, rfl⟩

set_option maxRecDepth 20000 in
/-- An advertisement that came in: its numbers, and where its slices lie. -/
theorem open_lsa {H : Type} {enc : TypeId × Value → H} {w : World} {fuel : Nat} {cs : List Value} {x : DataW H × List MemPlace} (h : DataW.trod enc Try.prog w 0 (fun _ => true) true fuel 112 cs = some x) :
    ∃ (l : LsaM) (A B : Option Addr) (n c m d : Nat), cs = [.int .i64 l.age, .int .i64 l.options, .int .i64 l.typ, .int .i64 l.id, .int .i64 l.adv, .int .i64 l.seq, .slice A n c, .slice B m d, .int .i64 l.mask, .int .i64 l.cost] ∧
      LsaIn false 0 w.heap.size w A n B m l ∧ n ≤ maxLen ∧ m ≤ maxLen := by
  obtain ⟨xs, k, _, _, hl, hx, hf⟩ := DataW.trod_struct Try.underlying112 h
  rw [cells_lsa] at hl
  have hx8 : xs.length = 8 := hx
  clear h hx
  match cs, hl with
  | [c0, c1, c2, c3, c4, c5, c6, c7, c8, c9], _ =>
    have f0 : DataW.trod enc Try.prog w 0 (fun _ => true) true k 2 [c0] = xs[0]? := by simpa [cells_i64, cells_key, cells_lnkS, cells_i64S] using hf 0 _ rfl
    have f1 : DataW.trod enc Try.prog w 0 (fun _ => true) true k 2 [c1] = xs[1]? := by simpa [cells_i64, cells_key, cells_lnkS, cells_i64S] using hf 1 _ rfl
    have f2 : DataW.trod enc Try.prog w 0 (fun _ => true) true k 87 [c2, c3, c4] = xs[2]? := by simpa [cells_i64, cells_key, cells_lnkS, cells_i64S] using hf 2 _ rfl
    have f3 : DataW.trod enc Try.prog w 0 (fun _ => true) true k 2 [c5] = xs[3]? := by simpa [cells_i64, cells_key, cells_lnkS, cells_i64S] using hf 3 _ rfl
    have f4 : DataW.trod enc Try.prog w 0 (fun _ => true) true k 110 [c6] = xs[4]? := by simpa [cells_i64, cells_key, cells_lnkS, cells_i64S] using hf 4 _ rfl
    have f5 : DataW.trod enc Try.prog w 0 (fun _ => true) true k 78 [c7] = xs[5]? := by simpa [cells_i64, cells_key, cells_lnkS, cells_i64S] using hf 5 _ rfl
    have f6 : DataW.trod enc Try.prog w 0 (fun _ => true) true k 2 [c8] = xs[6]? := by simpa [cells_i64, cells_key, cells_lnkS, cells_i64S] using hf 6 _ rfl
    have f7 : DataW.trod enc Try.prog w 0 (fun _ => true) true k 2 [c9] = xs[7]? := by simpa [cells_i64, cells_key, cells_lnkS, cells_i64S] using hf 7 _ rfl
    obtain ⟨z0, rfl⟩ := cell_int (by simp [hx8]) f0
    obtain ⟨z1, rfl⟩ := cell_int (by simp [hx8]) f1
    obtain ⟨z5, rfl⟩ := cell_int (by simp [hx8]) f3
    obtain ⟨z8, rfl⟩ := cell_int (by simp [hx8]) f6
    obtain ⟨z9, rfl⟩ := cell_int (by simp [hx8]) f7
    rw [List.getElem?_eq_getElem (by omega : 2 < xs.length)] at f2
    rw [List.getElem?_eq_getElem (by omega : 4 < xs.length)] at f4
    rw [List.getElem?_eq_getElem (by omega : 5 < xs.length)] at f5
    obtain ⟨ys, k2, _, _, _, hy, hg⟩ := DataW.trod_struct Try.underlying87 f2
    have hy3 : ys.length = 3 := hy
    have g0 : DataW.trod enc Try.prog w 0 (fun _ => true) true k2 2 [c2] = ys[0]? := by simpa [cells_i64] using hg 0 _ rfl
    have g1 : DataW.trod enc Try.prog w 0 (fun _ => true) true k2 2 [c3] = ys[1]? := by simpa [cells_i64] using hg 1 _ rfl
    have g2 : DataW.trod enc Try.prog w 0 (fun _ => true) true k2 2 [c4] = ys[2]? := by simpa [cells_i64] using hg 2 _ rfl
    obtain ⟨z2, rfl⟩ := cell_int (by simp [hy3]) g0
    obtain ⟨z3, rfl⟩ := cell_int (by simp [hy3]) g1
    obtain ⟨z4, rfl⟩ := cell_int (by simp [hy3]) g2
    obtain ⟨ls, A, n, c, e1, hnc, hcm, hL⟩ := opens_slice Try.underlying110 cells_lnk (by decide) opens_link H enc w _ _ _ f4
    obtain ⟨rs, B, m, d, e2, hmd, hdm, hR⟩ := opens_slice Try.underlying78 cells_i64 (by decide) (opens_int Try.underlying2) H enc w _ _ _ f5
    injection e1 with e1
    injection e2 with e2
    subst e1 e2
    exact ⟨⟨z0, z1, z2, z3, z4, z5, ls, rs, z8, z9⟩, A, B, n, c, m, d, rfl, ⟨hL, hR⟩, Nat.le_trans hnc hcm, Nat.le_trans hmd hdm⟩

end Go.Proofs.Ytiffhjofabaflaa
