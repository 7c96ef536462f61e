/-
  Arguments that the row hands over, told as items: a number, a slice of any items, links, advertisements. No statement is proved here.
-/
import Derived.Test.YtomkgohhfllpgaaLsa
import Derived.ProofKit
import Derived.Deep.Slices
namespace Go.Proofs.Ytomkgohhfllpgaa
open Go.RowKit Go.ChangeShapes Go.WideShapes Go.ChangeAt Go.Deep

/-- Whatever reads as data of type t, tells an item of the Rep. -/
def Opens (P : Program) (t : TypeId) {α : Type} (r : Rep α) : Prop :=
  ∀ (H : Type) (enc : TypeId × Value → H) (w : World) (fuel : Nat) (cs : List Value) (x : DataW H × List MemPlace), DataW.trod enc P w 0 (fun _ => true) true fuel t cs = some x → ∃ a, r.rel false 0 w.heap.size w cs a

theorem gather {α : Type} {Q : Nat → α → Prop} (len : Nat) (h : ∀ i, i < len → ∃ b, Q i b) : ∃ ys : List α, ys.length = len ∧ ∀ i b, ys[i]? = some b → Q i b := by
  induction len with
  | zero => exact ⟨[], rfl, fun i b hb => by simp at hb⟩
  | succ k ih =>
    obtain ⟨ys, h1, h2⟩ := ih (fun i hi => h i (by omega))
    obtain ⟨b, hb⟩ := h k (by omega)
    refine ⟨ys ++ [b], by simp [h1], fun i b' hb' => ?_⟩
    by_cases hi : i < k
    · rw [List.getElem?_append_left (by omega)] at hb'
      exact h2 i b' hb'
    · have hik : i = k := by
        have := (List.getElem?_eq_some_iff.1 hb').1
        simp at this; omega
      subst hik
      rw [List.getElem?_append_right (by omega), h1, Nat.sub_self] at hb'
      simp at hb'
      subst hb'
      exact hb

theorem opens_int {P : Program} {t : TypeId} (ht : P.underlying t = some (.int .i64)) : Opens P t Rep.int := fun H enc w fuel cs x h => by
  obtain ⟨n, rfl, _, _⟩ := DataW.trod_int ht h
  exact ⟨n, rfl⟩

/-- What of a number is told besides: that it is an int64. -/
theorem opens_slice {P : Program} {t e : TypeId} {α : Type} {r : Rep α} (ht : P.underlying t = some (.slice e)) (hc : P.cellsOf e = r.size) (hp : 0 < r.size) (h : Opens P e r) : Opens P t r.slice := fun H enc w fuel cs x hx => by
  rcases open_slice ht hx with ⟨rfl, _⟩ | ⟨a, len, cap, m, n, D, Pl, rfl, _, hl, hcm, hm, _, hel⟩
  · exact ⟨[], none, 0, 0, rfl, Nat.le_refl _, Nat.zero_le _, Rep.Sl_nil _ _ _ _ _ _⟩
  · have hlm : len ≤ m := by rw [hm]; simp; omega
    have each : ∀ i, i < len → ∃ cs' b, w.cells? 0 (a.add (i * r.size)) r.size = some cs' ∧ r.rel false 0 w.heap.size w cs' b := fun i hi => by
      obtain ⟨cs', h1, h2⟩ := hel i (by omega)
      rw [hc] at h1
      obtain ⟨b, hb⟩ := h H enc w n cs' _ h2
      exact ⟨cs', b, h1, hb⟩
    have hlist := gather (Q := fun i b => ∃ cs', w.cells? 0 (a.add (i * r.size)) r.size = some cs' ∧ r.rel false 0 w.heap.size w cs' b) len (fun i hi => by
      obtain ⟨cs', b, h1, h2⟩ := each i hi
      exact ⟨b, cs', h1, h2⟩)
    obtain ⟨ys, hys, hall⟩ := hlist
    refine ⟨ys, some a, len, cap, rfl, hl, hcm, hys, fun hn => ?_⟩
    obtain ⟨b, o, spot⟩ := a
    have h0 : ys[0]? = some ys[0] := List.getElem?_eq_getElem (by omega)
    obtain ⟨cs0, hc0, _⟩ := hall 0 _ h0
    have hcell0 := (World.cells?_some hc0).2.2 0 hp
    have hlen0 := (World.cells?_some hc0).2.1
    have hsome : ∃ u, w.cell? (((⟨b, o, spot⟩ : Addr).add (0 * r.size)).add 0) = some u := by
      rw [hcell0]
      exact ⟨cs0[0]'(by omega), List.getElem?_eq_getElem (by omega)⟩
    obtain ⟨u0, hu0⟩ := hsome
    have hspot : spot = none := by simpa [Addr.add] using World.cell?_spot hu0
    subst hspot
    have hb : b < w.heap.size := by
      have := World.block_lt_of_cell? w _ hu0
      simpa [Addr.add] using this
    refine ⟨b, o, rfl, Nat.zero_le _, hb, (fun hq => by cases hq), fun i y hy => ?_⟩
    obtain ⟨cs', hc1, hr⟩ := hall i y hy
    refine ⟨cs', hr, fun j u hu => ?_⟩
    have hlen := (World.cells?_some hc1).2.1
    have hj : j < r.size := by
      have := (List.getElem?_eq_some_iff.1 hu).1
      omega
    have := (World.cells?_some hc1).2.2 j hj
    rw [hu] at this
    have ea : (((⟨b, o, none⟩ : Addr).add (i * r.size)).add j) = ⟨b, o + i * r.size + j, none⟩ := by
      unfold Addr.add
      repeat' split
      all_goals simp_all
    rw [ea] at this
    exact this

theorem cells_i64 : Try.prog.cellsOf 2 = 1 := by kernel_rfl
theorem cells_key : Try.prog.cellsOf 57 = 3 := by kernel_rfl
theorem cells_i64S : Try.prog.cellsOf 94 = 1 := by kernel_rfl

/-- One cell that reads as an int64. -/
theorem cell_int {H : Type} {enc : TypeId × Value → H} {w : World} {n : Nat} {c : Value} {o : Option (DataW H × List MemPlace)} (ho : o.isSome = true)
    (h : DataW.trod enc Try.prog w 0 (fun _ => true) true n 2 [c] = o) : ∃ z, c = .int .i64 z := by
  obtain ⟨y, rfl⟩ := Option.isSome_iff_exists.1 ho
  obtain ⟨z, e, _⟩ := DataW.trod_int Try.underlying2 h
  injection e with e
  exact ⟨z, e⟩

end Go.Proofs.Ytomkgohhfllpgaa
