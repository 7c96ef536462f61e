/-
  What the laws' helpers do to mark an advertisement: markLinkS, markInt64S, markLsa write numbers one after the other; heldLinkS, heldInt64S, heldLsa find them. No statement is proved here.
-/
import Derived.Test.YtooogjfnnmacjaaAt
namespace Go.Proofs.Ytooogjfnnmacjaa
open Go.RowKit
set_option linter.unusedVariables false

/-- Cells that are there, and may be written. -/
def Room (w : World) (b o N : Nat) : Prop := (∀ j, j < N → ∃ v, w.cell? ⟨b, o + j, none⟩ = some v) ∧ ∀ i, w.frozen? ⟨b, i, none⟩ = false
theorem Room.set {w : World} {b o N : Nat} (h : Room w b o N) (p : Addr) (v : Value) : Room (w.setCell p v) b o N :=
  ⟨fun j hj => by
    obtain ⟨u, hu⟩ := h.1 j hj
    by_cases e : p = ⟨b, o + j, none⟩
    · subst e; exact ⟨v, World.cell?_setCell_same _ _ _ hu⟩
    · exact ⟨u, (World.cell?_setCell_other _ _ _ _ e).trans hu⟩, fun i => (World.frozen?_setCell _ _ _ _).trans (h.2 i)⟩
/-- The first m cells of a row are the numbers from k0 on. -/
def Counts (w : World) (b o : Nat) (k0 : Int) (m : Nat) : Prop := ∀ j, j < m → w.cell? ⟨b, o + j, none⟩ = some (.int .i64 (k0 + j))
theorem Counts.next {w : World} {b o N : Nat} {k0 : Int} {m : Nat} (h : Counts w b o k0 m) (hR : Room w b o N) (hm : m < N) (v : Int) (hv : v = k0 + m) : Counts (w.setCell ⟨b, o + m, none⟩ (.int .i64 v)) b o k0 (m + 1) := by
  intro j hj
  by_cases e : j = m
  · subst e
    obtain ⟨u, hu⟩ := hR.1 j hm
    rw [World.cell?_setCell_same _ _ _ hu, hv]
  · rw [World.cell?_setCell_other _ _ _ _ (fun h' => e (by injection h' with _ h' _; omega))]
    exact h j (by omega)
theorem Only.refl (lo hi : Nat) (w : World) : Only lo hi w w := ⟨rfl, rfl, rfl, Nat.le_refl _, fun _ _ _ => rfl⟩
theorem Only.set {lo hi : Nat} {a w : World} (h : Only lo hi a w) {p : Addr} (h1 : lo ≤ p.block) (h2 : p.block < hi) (u : Value) : Only lo hi a (w.setCell p u) :=
  ⟨h.os, h.tape, h.output, by simpa [World.setCell] using h.size, fun b hb ho => (Below.heap_setCell w p u b (by omega)).trans (h.block b hb ho)⟩

theorem Rep.int_room {lo hi : Nat} {w : World} {A : Option Addr} {n : Nat} {ys : List Int} (h : Rep.int.Sl true lo hi w A n ys) (hn : 0 < n) : ∃ b o, A = some ⟨b, o, none⟩ ∧ lo ≤ b ∧ b < hi ∧ Room w b o n := by
  obtain ⟨b, o, e, h1, h2, hf, _⟩ := h.2 hn
  refine ⟨b, o, e, h1, h2, fun j hj => ?_, hf rfl⟩
  obtain ⟨b', o', e', hc⟩ := Rep.int_at h hj
  rw [e] at e'; injection e' with e'; injection e' with e1 e2 _
  exact ⟨_, by rw [e1, e2]; exact hc⟩
theorem Rep.link_room {lo hi : Nat} {w : World} {A : Option Addr} {n : Nat} {ys : List Lnk} (h : Rep.link.Sl true lo hi w A n ys) (hn : 0 < n) : ∃ b o, A = some ⟨b, o, none⟩ ∧ lo ≤ b ∧ b < hi ∧ Room w b o (4 * n) := by
  obtain ⟨b, o, e, h1, h2, hf, _⟩ := h.2 hn
  refine ⟨b, o, e, h1, h2, fun j hj => ?_, hf rfl⟩
  obtain ⟨b', o', a, e', _, c0, c1, c2, c3⟩ := Rep.link_at h (k := j / 4) (by omega)
  rw [e] at e'; injection e' with e'; injection e' with e1 e2 _
  subst e1 e2
  rcases (show j % 4 = 0 ∨ j % 4 = 1 ∨ j % 4 = 2 ∨ j % 4 = 3 by omega) with hm | hm | hm | hm
  · exact ⟨_, by rw [show o + j = o + j / 4 * 4 by omega]; exact c0⟩
  · exact ⟨_, by rw [show o + j = o + j / 4 * 4 + 1 by omega]; exact c1⟩
  · exact ⟨_, by rw [show o + j = o + j / 4 * 4 + 2 by omega]; exact c2⟩
  · exact ⟨_, by rw [show o + j = o + j / 4 * 4 + 3 by omega]; exact c3⟩

def mInts (k0 : Int) (n : Nat) : List Int := (List.range n).map fun (i : Nat) => k0 + (i : Int)
def mLinks (k0 : Int) (n : Nat) : List Lnk := (List.range n).map fun (i : Nat) => ⟨k0 + 4 * (i : Int), k0 + 4 * (i : Int) + 1, k0 + 4 * (i : Int) + 2, k0 + 4 * (i : Int) + 3⟩
theorem mInts_len (k0 : Int) (n : Nat) : (mInts k0 n).length = n := by simp [mInts]
theorem mLinks_len (k0 : Int) (n : Nat) : (mLinks k0 n).length = n := by simp [mLinks]

theorem ints_of_counts {q : Bool} {lo hi : Nat} {w : World} {b o : Nat} {k0 : Int} {n : Nat} (h : Counts w b o k0 n) (hR : Room w b o n) (h1 : lo ≤ b) (h2 : b < hi) : Rep.int.Sl q lo hi w (some ⟨b, o, none⟩) n (mInts k0 n) :=
  ⟨mInts_len _ _, fun _ => ⟨b, o, rfl, h1, h2, fun _ => hR.2, fun i a ha => by
    have hi' : i < n := by
      rcases Nat.lt_or_ge i (mInts k0 n).length with h' | h'
      · rwa [mInts_len] at h'
      · rw [List.getElem?_eq_none h'] at ha; cases ha
    refine ⟨[.int .i64 a], rfl, fun j u hj => ?_⟩
    obtain rfl : j = 0 := by
      rcases j with _ | j
      · rfl
      · simp at hj
    have e : a = k0 + i := by simp [mInts, hi'] at ha; exact ha.symm
    subst e
    simp at hj
    subst hj
    simpa [Rep.int] using h i hi'⟩⟩
theorem links_of_counts {q : Bool} {lo hi : Nat} {w : World} {b o : Nat} {k0 : Int} {n : Nat} (h : Counts w b o k0 (4 * n)) (hR : Room w b o (4 * n)) (h1 : lo ≤ b) (h2 : b < hi) : Rep.link.Sl q lo hi w (some ⟨b, o, none⟩) n (mLinks k0 n) :=
  ⟨mLinks_len _ _, fun _ => ⟨b, o, rfl, h1, h2, fun _ => hR.2, fun i a ha => by
    have hi' : i < n := by
      rcases Nat.lt_or_ge i (mLinks k0 n).length with h' | h'
      · rwa [mLinks_len] at h'
      · rw [List.getElem?_eq_none h'] at ha; cases ha
    have e : a = ⟨k0 + 4 * (i : Int), k0 + 4 * (i : Int) + 1, k0 + 4 * (i : Int) + 2, k0 + 4 * (i : Int) + 3⟩ := by simp [mLinks, hi'] at ha; exact ha.symm
    subst e
    refine ⟨_, rfl, fun j u hj => ?_⟩
    have hj4 : j < 4 := by
      rcases Nat.lt_or_ge j 4 with h' | h'
      · exact h'
      · rw [List.getElem?_eq_none (by simpa using h')] at hj; cases hj
    have := h (i * 4 + j) (by omega)
    show w.cell? ⟨b, o + i * 4 + j, none⟩ = some u
    rw [Nat.add_assoc, this, ← hj]
    rcases (show j = 0 ∨ j = 1 ∨ j = 2 ∨ j = 3 by omega) with rfl | rfl | rfl | rfl
    · simp; omega
    · simp; omega
    · simp; omega
    · simp; omega⟩⟩

set_option maxHeartbeats 800000 in
theorem markInt64S_room (lo hi : Nat) (A : Option Addr) (n c : Nat) (k0 : Int) (w : World) (ha : 0 < n → ∃ b o, A = some ⟨b, o, none⟩ ∧ lo ≤ b ∧ b < hi ∧ Room w b o n) (hn : n ≤ 1048576) (h0 : 0 ≤ k0) (h1 : k0 ≤ 4294967296) :
    Calls Try.prog 175 #[.slice A n c, .int .i64 k0] w fun e w' => e = .returned (.int .i64 (k0 + n)) ∧ Rep.int.Sl true lo hi w' A n (mInts k0 n) ∧ Only lo hi w w' := by
  by_cases hz : n = 0
  · subst hz
    go_enter Try.func175, Try.ntmps175
    go_wp2
    go_loop [1, 5] (fun q i => i = .int .i64 0 ∧ q = .int .i64 k0) (fun _ _ => 0)
    case atStart => exact ⟨rfl, rfl⟩
    case round =>
      obtain ⟨rfl, rfl⟩ := hrel
      go_wp2
      go_ret
      exact ⟨by simp, Rep.Sl_nil _ _ _ _ _ _, Only.refl _ _ _⟩
  · obtain ⟨b, o, rfl, hb1, hb2, hR⟩ := ha (by omega)
    have HR0 := Lib.hid hR
    have HN : Hid (0 < n) := Lib.hid (by omega)
    clear ha hR hz
    go_enter Try.func175, Try.ntmps175
    go_wp2
    go_loopw [1, 5] (fun q i wr => ∃ k : Nat, k ≤ n ∧ i = .int .i64 k ∧ q = .int .i64 (k0 + k) ∧ Hid (Room wr b o n) ∧ Hid (Counts wr b o k0 k) ∧ Hid (Only lo hi w wr)) (fun _ i _ => n - (intOf i).toNat)
    case atStart => exact ⟨0, Nat.zero_le _, rfl, by simp, HR0, Lib.hid (fun j hj => absurd hj (by omega)), Lib.hid (Only.refl _ _ _)⟩
    case round =>
      obtain ⟨k, hk, rfl, rfl, HR, HC, HO⟩ := hrel
      by_cases hlt : k < n
      · have hlt' : (k : Int) < n := by omega
        obtain ⟨v0, d0⟩ := HR.out.1 k hlt
        have f0 := HR.out.2 (o + k)
        have HR1 := Lib.hid (HR.out.set ⟨b, o + k, none⟩ (.int .i64 (k0 + k)))
        have HC1 := Lib.hid (HC.out.next HR.out hlt (k0 + k) rfl)
        have HO1 := Lib.hid (HO.out.set (p := ⟨b, o + k, none⟩) hb1 hb2 (.int .i64 (k0 + k)))
        clear HR HC HO
        go_wp2
        go_roundw
        case rel => exact ⟨k + 1, by omega, by go_num, by go_num, HR1, HC1, HO1⟩
        case measure => simp [intOf]; omega
      · obtain rfl : k = n := by omega
        go_wp2
        go_ret
        exact ⟨rfl, ints_of_counts HC.out HR.out hb1 hb2, HO.out⟩

theorem markInt64S_any (lo hi : Nat) (A : Option Addr) (n c : Nat) (ys : List Int) (k0 : Int) (w : World) (ha : Rep.int.Sl true lo hi w A n ys) (hn : n ≤ 1048576) (h0 : 0 ≤ k0) (h1 : k0 ≤ 4294967296) :
    Calls Try.prog 175 #[.slice A n c, .int .i64 k0] w fun e w' => e = .returned (.int .i64 (k0 + n)) ∧ Rep.int.Sl true lo hi w' A n (mInts k0 n) ∧ Only lo hi w w' :=
  markInt64S_room lo hi A n c k0 w (fun h => Rep.int_room ha h) hn h0 h1

set_option maxHeartbeats 1600000 in
theorem markLinkS_any (lo hi : Nat) (A : Option Addr) (n c : Nat) (ys : List Lnk) (k0 : Int) (w : World) (ha : Rep.link.Sl true lo hi w A n ys) (hn : n ≤ 1048576) (h0 : 0 ≤ k0) (h1 : k0 ≤ 4294967296) :
    Calls Try.prog 174 #[.slice A n c, .int .i64 k0] w fun e w' => e = .returned (.int .i64 (k0 + 4 * n)) ∧ Rep.link.Sl true lo hi w' A n (mLinks k0 n) ∧ Only lo hi w w' ∧ (∀ b o N, Room w b o N → Room w' b o N) := by
  by_cases hz : n = 0
  · subst hz
    go_enter Try.func174, Try.ntmps174
    go_wp2
    go_loop [1, 5] (fun q i => i = .int .i64 0 ∧ q = .int .i64 k0) (fun _ _ => 0)
    case atStart => exact ⟨rfl, rfl⟩
    case round =>
      obtain ⟨rfl, rfl⟩ := hrel
      go_wp2
      go_ret
      exact ⟨by simp, Rep.Sl_nil _ _ _ _ _ _, Only.refl _ _ _, fun _ _ _ h => h⟩
  · obtain ⟨b, o, rfl, hb1, hb2, hR⟩ := Rep.link_room ha (by omega)
    have HR0 := Lib.hid hR
    have HN : Hid (0 < n) := Lib.hid (by omega)
    clear ha hR hz
    go_enter Try.func174, Try.ntmps174
    go_wp2
    go_loopw [1, 5] (fun q i wr => ∃ k : Nat, k ≤ n ∧ i = .int .i64 k ∧ q = .int .i64 (k0 + 4 * k) ∧ Hid (Room wr b o (4 * n)) ∧ Hid (Counts wr b o k0 (4 * k)) ∧ Hid (Only lo hi w wr) ∧ Hid (∀ b o N, Room w b o N → Room wr b o N)) (fun _ i _ => n - (intOf i).toNat)
    case atStart => exact ⟨0, Nat.zero_le _, rfl, by simp, HR0, Lib.hid (fun j hj => absurd hj (by omega)), Lib.hid (Only.refl _ _ _), Lib.hid (fun _ _ _ h => h)⟩
    case round =>
      obtain ⟨k, hk, rfl, rfl, HR, HC, HO, HK⟩ := hrel
      by_cases hlt : k < n
      · have hlt' : (k : Int) < n := by omega
        have e0 : o + 4 * k = o + k * 4 := by omega
        have e1 : o + (4 * k + 1) = o + k * 4 + 1 := by omega
        have e2 : o + (4 * k + 1 + 1) = o + k * 4 + 2 := by omega
        have e3 : o + (4 * k + 1 + 1 + 1) = o + k * 4 + 3 := by omega
        obtain ⟨v0, d0⟩ := HR.out.1 (4 * k) (by omega)
        obtain ⟨v1, d1⟩ := HR.out.1 (4 * k + 1) (by omega)
        obtain ⟨v2, d2⟩ := HR.out.1 (4 * k + 1 + 1) (by omega)
        obtain ⟨v3, d3⟩ := HR.out.1 (4 * k + 1 + 1 + 1) (by omega)
        rw [e0] at d0
        rw [e1] at d1
        rw [e2] at d2
        rw [e3] at d3
        have f0 := HR.out.2 (o + k * 4)
        have f1 := HR.out.2 (o + k * 4 + 1)
        have f2 := HR.out.2 (o + k * 4 + 2)
        have f3 := HR.out.2 (o + k * 4 + 3)
        have HR1 := Lib.hid ((((HR.out.set ⟨b, o + k * 4, none⟩ (.int .i64 (k0 + 4 * k))).set ⟨b, o + k * 4 + 1, none⟩ (.int .i64 (k0 + 4 * k + 1))).set ⟨b, o + k * 4 + 2, none⟩ (.int .i64 (k0 + 4 * k + 1 + 1))).set ⟨b, o + k * 4 + 3, none⟩ (.int .i64 (k0 + 4 * k + 1 + 1 + 1)))
        have HC1 : Hid (Counts ((((wr.setCell ⟨b, o + k * 4, none⟩ (.int .i64 (k0 + 4 * k))).setCell ⟨b, o + k * 4 + 1, none⟩ (.int .i64 (k0 + 4 * k + 1))).setCell ⟨b, o + k * 4 + 2, none⟩ (.int .i64 (k0 + 4 * k + 1 + 1))).setCell ⟨b, o + k * 4 + 3, none⟩ (.int .i64 (k0 + 4 * k + 1 + 1 + 1))) b o k0 (4 * (k + 1))) := Lib.hid (by
          have c1 := HC.out.next HR.out (by omega) (k0 + 4 * k) (by omega)
          rw [e0] at c1
          have r1 := HR.out.set ⟨b, o + k * 4, none⟩ (.int .i64 (k0 + 4 * k))
          have c2 := c1.next r1 (by omega) (k0 + 4 * k + 1) (by omega)
          rw [e1] at c2
          have r2 := r1.set ⟨b, o + k * 4 + 1, none⟩ (.int .i64 (k0 + 4 * k + 1))
          have c3 := c2.next r2 (by omega) (k0 + 4 * k + 1 + 1) (by omega)
          rw [e2] at c3
          have r3 := r2.set ⟨b, o + k * 4 + 2, none⟩ (.int .i64 (k0 + 4 * k + 1 + 1))
          have c4 := c3.next r3 (by omega) (k0 + 4 * k + 1 + 1 + 1) (by omega)
          rw [e3] at c4
          exact c4)
        have HO1 := Lib.hid ((((HO.out.set (p := ⟨b, o + k * 4, none⟩) hb1 hb2 (.int .i64 (k0 + 4 * k))).set (p := ⟨b, o + k * 4 + 1, none⟩) hb1 hb2 (.int .i64 (k0 + 4 * k + 1))).set (p := ⟨b, o + k * 4 + 2, none⟩) hb1 hb2 (.int .i64 (k0 + 4 * k + 1 + 1))).set (p := ⟨b, o + k * 4 + 3, none⟩) hb1 hb2 (.int .i64 (k0 + 4 * k + 1 + 1 + 1)))
        have HK1 : Hid (∀ b' o' N, Room w b' o' N → Room ((((wr.setCell ⟨b, o + k * 4, none⟩ (.int .i64 (k0 + 4 * k))).setCell ⟨b, o + k * 4 + 1, none⟩ (.int .i64 (k0 + 4 * k + 1))).setCell ⟨b, o + k * 4 + 2, none⟩ (.int .i64 (k0 + 4 * k + 1 + 1))).setCell ⟨b, o + k * 4 + 3, none⟩ (.int .i64 (k0 + 4 * k + 1 + 1 + 1))) b' o' N) := Lib.hid (fun b' o' N h => ((((HK.out b' o' N h).set _ _).set _ _).set _ _).set _ _)
        clear HR HC HO HK e0 e1 e2 e3
        go_wp2
        go_roundw
        case rel => exact ⟨k + 1, by omega, by go_num, by go_num, HR1, HC1, HO1, HK1⟩
        case measure => simp [intOf]; omega
      · obtain rfl : k = n := by omega
        go_wp2
        go_ret
        exact ⟨rfl, links_of_counts HC.out HR.out hb1 hb2, HO.out, HK.out⟩

end Go.Proofs.Ytooogjfnnmacjaa
