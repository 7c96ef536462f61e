/-
  Walks of what the laws draw from: l1Source, l1Next, l1Chance, l1Pick, l1Some, l1Data. Each returns, whatever the bytes of the code; of the numbers only the bounds are told. No statement is proved here.
-/
import Derived.Test.YtiffhjofabaflaaCopy
import Derived.IntWalk
namespace Go.Proofs.Ytiffhjofabaflaa
open Go.RowKit

/-- Block g holds a source: the code's bytes and how many were taken. -/
structure Src (w : World) (g : Nat) (A : Option Addr) (n c : Nat) (cs : List Int) (at_ : Nat) : Prop where
  box : Box w g 264 #[.slice A n c, .int .i64 at_]
  data : BIn w A n cs
  bytes : Bytes cs
  small : n ≤ 1048576
  apart : 0 < n → A.map (·.block) ≠ some g

theorem Src.below {w w' : World} {g : Nat} {A : Option Addr} {n c : Nat} {cs : List Int} {k : Nat} (h : Src w g A n c cs k) (hb : Below w.heap.size w w') : Src w' g A n c cs k :=
  ⟨h.box.below hb, h.data.below hb, h.bytes, h.small, h.apart⟩
theorem Src.grown {w w' : World} {g : Nat} {A : Option Addr} {n c : Nat} {cs : List Int} {k : Nat} (h : Src w g A n c cs k) {row : Option Nat} (hg : w.grownBy w' row) (h1 : row ≠ some g) (h2 : 0 < n → A.map (·.block) ≠ row) : Src w' g A n c cs k :=
  ⟨h.box.grown hg h1, h.data.grown hg (fun hn => .inr (h2 hn)), h.bytes, h.small, h.apart⟩

theorem l1Source_any (A : Option Addr) (n c : Nat) (cs : List Int) (w : World) (ha : BIn w A n cs) (hb : Bytes cs) (hn : n ≤ 1048576) :
    Calls Try.prog 88 #[.slice A n c] w fun e w' => e = .returned (.pointer (some ⟨w.heap.size, 0, none⟩)) ∧ Src w' w.heap.size A n c cs 0 ∧ Below w.heap.size w w' := by
  have hb0 : Below w.heap.size w (w.alloc (.cells #[.slice A n c, .int .i64 0] 264)) := (Below.refl _ _).alloc (Nat.le_refl _) _
  have HA := Lib.hid ha
  clear ha
  go_enter Try.func88, Try.ntmps88
  go_wp2
  go_ret
  exact ⟨rfl, ⟨Box.made _ _ _, HA.out.below hb0, hb, hn, fun h e => by have := HA.out.lts _ h e; omega⟩, hb0⟩

theorem Box.set {w : World} {g : Nat} {t : TypeId} {cs : Array Value} (h : Box w g t cs) (i : Nat) (u : Value) : Box (w.setCell ⟨g, i, none⟩ u) g t (cs.setIfInBounds i u) := heap_setCell_same w g i cs t u h

theorem Src.step {w : World} {g : Nat} {A : Option Addr} {n c : Nat} {cs : List Int} {k : Nat} (h : Src w g A n c cs k) : Src (w.setCell ⟨g, 1, none⟩ (.int .i64 ((k : Int) + 1))) g A n c cs (k + 1) := by
  have hb := h.box.set 1 (.int .i64 ((k : Int) + 1))
  exact ⟨hb, h.data.grown (setCell_grown _ _ _) (fun hn => .inr (h.apart hn)), h.bytes, h.small, h.apart⟩

theorem Src.drewN {w : World} {g : Nat} {A : Option Addr} {n c : Nat} {cs : List Int} {k : Nat} (h : Src w g A n c cs k) (q : Nat) : Src (w.drewN q) g A n c cs k := ⟨h.box, h.data, h.bytes, h.small, h.apart⟩
theorem grown_drewN {w w' : World} {row : Option Nat} (h : w.grownBy w' row) (q : Nat) : w.grownBy (w'.drewN q) row := ⟨h.os, h.tape, h.output, h.size, h.block⟩

theorem tmod_nat (k n : Nat) (h : 0 < n) : ∃ j : Nat, ((k : Nat) : Int).tmod (n : Int) = (j : Int) ∧ j < n :=
  ⟨k % n, by rw [Int.tmod_eq_emod_of_nonneg (by omega)]; omega, Nat.mod_lt _ h⟩
theorem tdiv_nat (k n : Nat) : ∃ q : Nat, ((k : Nat) : Int).tdiv (n : Int) = (q : Int) ∧ q ≤ k :=
  ⟨k / n, by rw [Int.tdiv_eq_ediv_of_nonneg (by omega)]; omega, Nat.div_le_self _ _⟩

/-- What l1Next answers, told by its bounds. -/
def Drawn (m v : Int) : Prop := (m < 1 → v = 0) ∧ (1 ≤ m → 0 ≤ v ∧ v < m)

theorem drawn_emod (x m : Int) (h : 1 ≤ m) : Drawn m (x % m) := ⟨fun h' => by omega, fun _ => ⟨Int.emod_nonneg _ (by omega), Int.emod_lt_of_pos _ (by omega)⟩⟩

set_option maxHeartbeats 1600000 in
theorem l1Next_any (g : Nat) (A : Option Addr) (n c : Nat) (cs : List Int) (k : Nat) (m : Int) (w : World) (hs : Src w g A n c cs k) (hk : k ≤ 1000000) (hm : m ≤ 1099511627776) :
    Calls Try.prog 101 #[.pointer (some ⟨g, 0, none⟩), .int .i64 m] w fun e w' => ∃ v, e = .returned (.int .i64 v) ∧ Drawn m v ∧ Src w' g A n c cs (k + 1) ∧ w.grownBy w' (some g) := by
  have HS := Lib.hid hs
  have HS1 := Lib.hid hs.step
  have HG := Lib.hid (setCell_grown w ⟨g, 1, none⟩ (.int .i64 ((k : Int) + 1)))
  have hlt := hs.box.lt
  have c0 := hs.box.look 0
  have c1 := hs.box.look 1
  have f1 := hs.box.free 1
  clear hs
  by_cases h1 : m < 1
  · go_enter Try.func101, Try.ntmps101
    go_wp2
    go_ret
    exact ⟨0, rfl, ⟨fun _ => rfl, fun h => by omega⟩, HS1.out, HG.out⟩
  · by_cases hn : n = 0
    · subst hn
      have e1 : 0 ≤ ((k : Int) * 7) % m := Int.emod_nonneg _ (by omega)
      have e2 : ((k : Int) * 7) % m < m := Int.emod_lt_of_pos _ (by omega)
      have hd1 := HS1.out.box.look 1
      have hd0 := HS1.out.box.look 0
      go_enter Try.func101, Try.ntmps101
      go_wp2
      go_ret
      exact ⟨_, rfl, ⟨fun h => absurd h (by omega), fun _ => ⟨e1, e2⟩⟩, HS1.out, HG.out⟩
    · have hnp : 0 < n := by omega
      obtain ⟨b, o, rfl, hcell⟩ := HS1.out.data.2 hnp
      obtain ⟨j0, hj0, hl0⟩ := tmod_nat k n hnp
      obtain ⟨j1, hj1, hl1⟩ := tmod_nat (k + 1) n hnp
      obtain ⟨j2, hj2, hl2⟩ := tmod_nat (k + 2) n hnp
      have hj1 : ((k : Int) + 1).tmod (n : Int) = (j1 : Int) := hj1
      have hj2 : ((k : Int) + 2).tmod (n : Int) = (j2 : Int) := hj2
      obtain ⟨q, hq, hq0⟩ := tdiv_nat k n
      have d0 := hcell j0 hl0
      have d1 := hcell j1 hl1
      have d2 := hcell j2 hl2
      have b0 := HS1.out.bytes.at_ j0
      have b1 := HS1.out.bytes.at_ j1
      have b2 := HS1.out.bytes.at_ j2
      obtain ⟨z0, hz0⟩ : ∃ z, cs.getD j0 0 = z := ⟨_, rfl⟩
      obtain ⟨z1, hz1⟩ : ∃ z, cs.getD j1 0 = z := ⟨_, rfl⟩
      obtain ⟨z2, hz2⟩ : ∃ z, cs.getD j2 0 = z := ⟨_, rfl⟩
      rw [hz0] at d0 b0
      rw [hz1] at d1 b1
      rw [hz2] at d2 b2
      obtain ⟨b00, b01⟩ := b0
      obtain ⟨b10, b11⟩ := b1
      obtain ⟨b20, b21⟩ := b2
      clear hz0 hz1 hz2 hcell
      have i0 : (j0 : Int) < n := by omega
      have i1 : (j1 : Int) < n := by omega
      have i2 : (j2 : Int) < n := by omega
      have w1 : IntKind.i64.wrap ((k : Int) + 1) = (k : Int) + 1 := IntWalk.i64_in _ (by omega)
      have w2 : IntKind.i64.wrap ((k : Int) + 2) = (k : Int) + 2 := IntWalk.i64_in _ (by omega)
      have w3 : IntKind.i64.wrap ((q : Int) * 37) = (q : Int) * 37 := IntWalk.i64_in _ (by omega)
      have w4 : IntKind.i64.wrap (z0 + (q : Int) * 37) = z0 + (q : Int) * 37 := IntWalk.i64_in _ (by omega)
      have hd1 := HS1.out.box.look 1
      have hd0 := HS1.out.box.look 0
      have hne : ((n : Int) == 0) = false := by simp; omega
      have hnb : (n : Int) ≤ 1048576 := by have := HS1.out.small; omega
      have w5 : IntKind.i64.wrap ((z0 + (q : Int) * 37) * 251) = (z0 + (q : Int) * 37) * 251 := IntWalk.i64_in _ (by omega)
      have w6 : IntKind.i64.wrap (z1 * 13) = z1 * 13 := IntWalk.i64_in _ (by omega)
      have w7 : IntKind.i64.wrap ((z0 + (q : Int) * 37) * 251 + z1 * 13) = (z0 + (q : Int) * 37) * 251 + z1 * 13 := IntWalk.i64_in _ (by omega)
      have w8 : IntKind.i64.wrap ((z0 + (q : Int) * 37) * 251 + z1 * 13 + k) = (z0 + (q : Int) * 37) * 251 + z1 * 13 + k := IntWalk.i64_in _ (by omega)
      have w9 : IntKind.i64.wrap (((z0 + (q : Int) * 37) * 251 + z1 * 13 + k) * 257) = ((z0 + (q : Int) * 37) * 251 + z1 * 13 + k) * 257 := IntWalk.i64_in _ (by omega)
      have w10 : IntKind.i64.wrap (((z0 + (q : Int) * 37) * 251 + z1 * 13 + k) * 257 + z2) = ((z0 + (q : Int) * 37) * 251 + z1 * 13 + k) * 257 + z2 := IntWalk.i64_in _ (by omega)
      by_cases h2 : m ≤ 200
      · go_enter Try.func101, Try.ntmps101
        go_wp2
        go_quiet (fail)
        go_wp2
        go_ret
        exact ⟨_, rfl, drawn_emod _ _ (by omega), HS1.out.drewN _, grown_drewN HG.out _⟩
      · by_cases h3 : m ≤ 60000
        · go_enter Try.func101, Try.ntmps101
          go_wp2
          go_quiet (fail)
          go_wp2
          go_quiet (fail)
          go_wp2
          go_ret
          exact ⟨_, rfl, drawn_emod _ _ (by omega), HS1.out.drewN _, grown_drewN HG.out _⟩
        · go_enter Try.func101, Try.ntmps101
          go_wp2
          go_quiet (fail)
          go_wp2
          go_quiet (fail)
          go_wp2
          go_quiet (fail)
          go_wp2
          go_ret
          exact ⟨_, rfl, drawn_emod _ _ (by omega), HS1.out.drewN _, grown_drewN HG.out _⟩

theorem l1Chance_any (g : Nat) (A : Option Addr) (n c : Nat) (cs : List Int) (k : Nat) (m : Int) (w : World) (hs : Src w g A n c cs k) (hk : k ≤ 1000000) (hm : m ≤ 1099511627776) :
    Calls Try.prog 100 #[.pointer (some ⟨g, 0, none⟩), .int .i64 m] w fun e w' => ∃ v : Bool, e = .returned (.bool v) ∧ Src w' g A n c cs (k + 1) ∧ w.grownBy w' (some g) := by
  have HS := Lib.hid hs
  clear hs
  go_enter Try.func100, Try.ntmps100
  go_wp2_with fail
  refine (l1Next_any g A n c cs k m _ HS.out hk hm).mono ?_
  rintro e w1 ⟨v, rfl, _, h1, h2⟩
  have H1 := Lib.hid h1
  have H2 := Lib.hid h2
  clear h1 h2
  go_wp2
  go_ret
  exact ⟨_, rfl, H1.out, H2.out⟩

theorem l1Pick_any (g : Nat) (A : Option Addr) (n c : Nat) (cs : List Int) (k b m d : Nat) (zs : List Int) (w : World) (hs : Src w g A n c cs k) (hk : k ≤ 1000000) (hz : zs.length = m) (hm0 : 0 < m) (hm : m ≤ 1000)
    (hc : ∀ i, i < m → w.cell? ⟨b, 0 + i, none⟩ = some (.int .i64 (zs.getD i 0))) (hne : b ≠ g) :
    Calls Try.prog 90 #[.pointer (some ⟨g, 0, none⟩), .slice (some ⟨b, 0, none⟩) m d] w fun e w' => ∃ v : Int, e = .returned (.int .i64 v) ∧ v ∈ zs ∧ Src w' g A n c cs (k + 1) ∧ w.grownBy w' (some g) := by
  have HS := Lib.hid hs
  have HC := Lib.hid hc
  have HZ := Lib.hid hz
  have hbl : b < w.heap.size := World.block_lt_of_cell? w _ (hc 0 hm0)
  clear hs hc hz
  go_enter Try.func90, Try.ntmps90
  go_wp2_with fail
  refine (l1Next_any g A n c cs k m _ HS.out hk (by omega)).mono ?_
  rintro e w1 ⟨v, rfl, hv, h1, h2⟩
  obtain ⟨v0, v1⟩ := hv.2 (by omega)
  obtain ⟨j, rfl⟩ := Int.eq_ofNat_of_zero_le v0
  have hj := HC.out j (by omega)
  have hj' : w1.cell? ⟨b, 0 + j, none⟩ = some (.int .i64 (zs.getD j 0)) := (World.cell?_of_block (h2.block b hbl (by simp; omega))).trans hj
  have hmem : zs.getD j 0 ∈ zs := by
    have := HZ.out
    rw [show zs.getD j 0 = zs[j] by simp [List.getD, (show j < zs.length by omega)]]
    exact List.getElem_mem _
  obtain ⟨x, hx⟩ : ∃ x, zs.getD j 0 = x := ⟨_, rfl⟩
  rw [hx] at hj' hmem
  have HM := Lib.hid hmem
  have H1 := Lib.hid h1
  have H2 := Lib.hid h2
  clear h1 h2 hv hmem hj hx
  simp only [Nat.zero_add] at hj'
  go_wp2
  go_ret
  exact ⟨x, rfl, HM.out, H1.out, H2.out⟩

end Go.Proofs.Ytiffhjofabaflaa
