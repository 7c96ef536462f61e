/-
  What the laws' helpers do to mark an advertisement: markLinkS, markInt64S, markLsa write numbers one after the other; heldLinkS, heldInt64S, heldLsa find them. No statement is proved here.
-/
import Derived.Test.YtiffhjofabaflaaAt
namespace Go.Proofs.Ytiffhjofabaflaa
open Go.RowKit
set_option linter.unusedVariables false

/-- Cells that are there, and may be written. -/
def Room (w : World) (b o N : Nat) : Prop := (∀ j, j < N → ∃ v, w.cell? ⟨b, o + j, none⟩ = some v) ∧ ∀ i, w.frozen? ⟨b, i, none⟩ = false
theorem Room.set {w : World} {b o N : Nat} (h : Room w b o N) (p : Addr) (v : Value) : Room (w.setCell p v) b o N :=
  ⟨fun j hj => by
    obtain ⟨u, hu⟩ := h.1 j hj
    by_cases e : p = ⟨b, o + j, none⟩
    · subst e; exact ⟨v, World.cell?_setCell_same _ _ _ hu⟩
    · exact ⟨u, (World.cell?_setCell_other _ _ _ _ e).trans hu⟩, fun i => (World.frozen?_setCell _ _ _ _).trans (h.2 i)⟩
/-- The first m cells of a row are the numbers from k0 on. -/
def Counts (w : World) (b o : Nat) (k0 : Int) (m : Nat) : Prop := ∀ j, j < m → w.cell? ⟨b, o + j, none⟩ = some (.int .i64 (k0 + j))
theorem Counts.next {w : World} {b o N : Nat} {k0 : Int} {m : Nat} (h : Counts w b o k0 m) (hR : Room w b o N) (hm : m < N) (v : Int) (hv : v = k0 + m) : Counts (w.setCell ⟨b, o + m, none⟩ (.int .i64 v)) b o k0 (m + 1) := by
  intro j hj
  by_cases e : j = m
  · subst e
    obtain ⟨u, hu⟩ := hR.1 j hm
    rw [World.cell?_setCell_same _ _ _ hu, hv]
  · rw [World.cell?_setCell_other _ _ _ _ (fun h' => e (by injection h' with _ h' _; omega))]
    exact h j (by omega)
theorem Only.refl (lo hi : Nat) (w : World) : Only lo hi w w := ⟨rfl, rfl, rfl, Nat.le_refl _, fun _ _ _ => rfl⟩
theorem Only.set {lo hi : Nat} {a w : World} (h : Only lo hi a w) {p : Addr} (h1 : lo ≤ p.block) (h2 : p.block < hi) (u : Value) : Only lo hi a (w.setCell p u) :=
  ⟨h.os, h.tape, h.output, by simpa [World.setCell] using h.size, fun b hb ho => (Below.heap_setCell w p u b (by omega)).trans (h.block b hb ho)⟩

theorem Rep.int_room {lo hi : Nat} {w : World} {A : Option Addr} {n : Nat} {ys : List Int} (h : Rep.int.Sl true lo hi w A n ys) (hn : 0 < n) : ∃ b o, A = some ⟨b, o, none⟩ ∧ lo ≤ b ∧ b < hi ∧ Room w b o n := by
  obtain ⟨b, o, e, h1, h2, hf, _⟩ := h.2 hn
  refine ⟨b, o, e, h1, h2, fun j hj => ?_, hf rfl⟩
  obtain ⟨b', o', e', hc⟩ := Rep.int_at h hj
  rw [e] at e'; injection e' with e'; injection e' with e1 e2 _
  exact ⟨_, by rw [e1, e2]; exact hc⟩
theorem Rep.link_room {lo hi : Nat} {w : World} {A : Option Addr} {n : Nat} {ys : List Lnk} (h : Rep.link.Sl true lo hi w A n ys) (hn : 0 < n) : ∃ b o, A = some ⟨b, o, none⟩ ∧ lo ≤ b ∧ b < hi ∧ Room w b o (4 * n) := by
  obtain ⟨b, o, e, h1, h2, hf, _⟩ := h.2 hn
  refine ⟨b, o, e, h1, h2, fun j hj => ?_, hf rfl⟩
  obtain ⟨b', o', a, e', _, c0, c1, c2, c3⟩ := Rep.link_at h (k := j / 4) (by omega)
  rw [e] at e'; injection e' with e'; injection e' with e1 e2 _
  subst e1 e2
  rcases (show j % 4 = 0 ∨ j % 4 = 1 ∨ j % 4 = 2 ∨ j % 4 = 3 by omega) with hm | hm | hm | hm
  · exact ⟨_, by rw [show o + j = o + j / 4 * 4 by omega]; exact c0⟩
  · exact ⟨_, by rw [show o + j = o + j / 4 * 4 + 1 by omega]; exact c1⟩
  · exact ⟨_, by rw [show o + j = o + j / 4 * 4 + 2 by omega]; exact c2⟩
  · exact ⟨_, by rw [show o + j = o + j / 4 * 4 + 3 by omega]; exact c3⟩

def mInts (k0 : Int) (n : Nat) : List Int := (List.range n).map fun (i : Nat) => k0 + (i : Int)
def mLinks (k0 : Int) (n : Nat) : List Lnk := (List.range n).map fun (i : Nat) => ⟨k0 + 4 * (i : Int), k0 + 4 * (i : Int) + 1, k0 + 4 * (i : Int) + 2, k0 + 4 * (i : Int) + 3⟩
theorem mInts_len (k0 : Int) (n : Nat) : (mInts k0 n).length = n := by simp [mInts]
theorem mLinks_len (k0 : Int) (n : Nat) : (mLinks k0 n).length = n := by simp [mLinks]

theorem ints_of_counts {q : Bool} {lo hi : Nat} {w : World} {b o : Nat} {k0 : Int} {n : Nat} (h : Counts w b o k0 n) (hR : Room w b o n) (h1 : lo ≤ b) (h2 : b < hi) : Rep.int.Sl q lo hi w (some ⟨b, o, none⟩) n (mInts k0 n) :=
  ⟨mInts_len _ _, fun _ => ⟨b, o, rfl, h1, h2, fun _ => hR.2, fun i a ha => by
    have hi' : i < n := by
      rcases Nat.lt_or_ge i (mInts k0 n).length with h' | h'
      · rwa [mInts_len] at h'
      · rw [List.getElem?_eq_none h'] at ha; cases ha
    refine ⟨[.int .i64 a], rfl, fun j u hj => ?_⟩
    obtain rfl : j = 0 := by
      rcases j with _ | j
      · rfl
      · simp at hj
    have e : a = k0 + i := by simp [mInts, hi'] at ha; exact ha.symm
    subst e
    simp at hj
    subst hj
    simpa [Rep.int] using h i hi'⟩⟩
theorem links_of_counts {q : Bool} {lo hi : Nat} {w : World} {b o : Nat} {k0 : Int} {n : Nat} (h : Counts w b o k0 (4 * n)) (hR : Room w b o (4 * n)) (h1 : lo ≤ b) (h2 : b < hi) : Rep.link.Sl q lo hi w (some ⟨b, o, none⟩) n (mLinks k0 n) :=
  ⟨mLinks_len _ _, fun _ => ⟨b, o, rfl, h1, h2, fun _ => hR.2, fun i a ha => by
    have hi' : i < n := by
      rcases Nat.lt_or_ge i (mLinks k0 n).length with h' | h'
      · rwa [mLinks_len] at h'
      · rw [List.getElem?_eq_none h'] at ha; cases ha
    have e : a = ⟨k0 + 4 * (i : Int), k0 + 4 * (i : Int) + 1, k0 + 4 * (i : Int) + 2, k0 + 4 * (i : Int) + 3⟩ := by simp [mLinks, hi'] at ha; exact ha.symm
    subst e
    refine ⟨_, rfl, fun j u hj => ?_⟩
    have hj4 : j < 4 := by
      rcases Nat.lt_or_ge j 4 with h' | h'
      · exact h'
      · rw [List.getElem?_eq_none (by simpa using h')] at hj; cases hj
    have := h (i * 4 + j) (by omega)
    show w.cell? ⟨b, o + i * 4 + j, none⟩ = some u
    rw [Nat.add_assoc, this, ← hj]
    rcases (show j = 0 ∨ j = 1 ∨ j = 2 ∨ j = 3 by omega) with rfl | rfl | rfl | rfl
    · simp; omega
    · simp; omega
    · simp; omega
    · simp; omega⟩⟩

end Go.Proofs.Ytiffhjofabaflaa
