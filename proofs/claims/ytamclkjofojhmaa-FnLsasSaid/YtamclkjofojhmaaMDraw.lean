/-
  Walks of what the laws draw from: l1Source, l1Next, l1Chance, l1Pick, l1Some, l1Data. Each returns, whatever the bytes of the code; of the numbers only the bounds are told. No statement is proved here.
-/
/-
  What the laws draw from, carried from world to world: a source that is read on changes its own block alone. No statement is proved here.
-/
/-
  The walk of l2Draw, from which the laws draw an advertisement: it returns, whatever the bytes. No statement is proved here.
-/
import Derived.Test.YtamclkjofojhmaaCopy
import Derived.IntWalk
import Derived.Test.YtamclkjofojhmaaClone
import Derived.Test.YtamclkjofojhmaaWalk
namespace Go.Proofs.Ytamclkjofojhmaa
open Go.RowKit

/-- Block g holds a source: the code's bytes and how many were taken. -/
structure Src (w : World) (g : Nat) (A : Option Addr) (n c : Nat) (cs : List Int) (at_ : Nat) : Prop where
  box : Box w g 117 #[.slice A n c, .int .i64 at_]
  data : BIn w A n cs
  bytes : Bytes cs
  small : n ≤ 1048576
  apart : 0 < n → A.map (·.block) ≠ some g

theorem Src.below {w w' : World} {g : Nat} {A : Option Addr} {n c : Nat} {cs : List Int} {k : Nat} (h : Src w g A n c cs k) (hb : Below w.heap.size w w') : Src w' g A n c cs k :=
  ⟨h.box.below hb, h.data.below hb, h.bytes, h.small, h.apart⟩
theorem Src.grown {w w' : World} {g : Nat} {A : Option Addr} {n c : Nat} {cs : List Int} {k : Nat} (h : Src w g A n c cs k) {row : Option Nat} (hg : w.grownBy w' row) (h1 : row ≠ some g) (h2 : 0 < n → A.map (·.block) ≠ row) : Src w' g A n c cs k :=
  ⟨h.box.grown hg h1, h.data.grown hg (fun hn => .inr (h2 hn)), h.bytes, h.small, h.apart⟩

theorem l1Source_any (A : Option Addr) (n c : Nat) (cs : List Int) (w : World) (ha : BIn w A n cs) (hb : Bytes cs) (hn : n ≤ 1048576) :
    Calls Try.prog 54 #[.slice A n c] w fun e w' => e = .returned (.pointer (some ⟨w.heap.size, 0, none⟩)) ∧ Src w' w.heap.size A n c cs 0 ∧ Below w.heap.size w w' := by
  have hb0 : Below w.heap.size w (w.alloc (.cells #[.slice A n c, .int .i64 0] 117)) := (Below.refl _ _).alloc (Nat.le_refl _) _
  have HA := Lib.hid ha
  clear ha
  go_enter Try.func54, Try.ntmps54
  go_wp2
  go_ret
  exact ⟨rfl, ⟨Box.made _ _ _, HA.out.below hb0, hb, hn, fun h e => by have := HA.out.lts _ h e; omega⟩, hb0⟩

theorem Box.set {w : World} {g : Nat} {t : TypeId} {cs : Array Value} (h : Box w g t cs) (i : Nat) (u : Value) : Box (w.setCell ⟨g, i, none⟩ u) g t (cs.setIfInBounds i u) := heap_setCell_same w g i cs t u h

theorem Src.step {w : World} {g : Nat} {A : Option Addr} {n c : Nat} {cs : List Int} {k : Nat} (h : Src w g A n c cs k) : Src (w.setCell ⟨g, 1, none⟩ (.int .i64 ((k : Int) + 1))) g A n c cs (k + 1) := by
  have hb := h.box.set 1 (.int .i64 ((k : Int) + 1))
  exact ⟨hb, h.data.grown (setCell_grown _ _ _) (fun hn => .inr (h.apart hn)), h.bytes, h.small, h.apart⟩

theorem Src.drewN {w : World} {g : Nat} {A : Option Addr} {n c : Nat} {cs : List Int} {k : Nat} (h : Src w g A n c cs k) (q : Nat) : Src (w.drewN q) g A n c cs k := ⟨h.box, h.data, h.bytes, h.small, h.apart⟩
theorem grown_drewN {w w' : World} {row : Option Nat} (h : w.grownBy w' row) (q : Nat) : w.grownBy (w'.drewN q) row := ⟨h.os, h.tape, h.output, h.size, h.block⟩

theorem tmod_nat (k n : Nat) (h : 0 < n) : ∃ j : Nat, ((k : Nat) : Int).tmod (n : Int) = (j : Int) ∧ j < n :=
  ⟨k % n, by rw [Int.tmod_eq_emod_of_nonneg (by omega)]; omega, Nat.mod_lt _ h⟩
theorem tdiv_nat (k n : Nat) : ∃ q : Nat, ((k : Nat) : Int).tdiv (n : Int) = (q : Int) ∧ q ≤ k :=
  ⟨k / n, by rw [Int.tdiv_eq_ediv_of_nonneg (by omega)]; omega, Nat.div_le_self _ _⟩

/-- What l1Next answers, told by its bounds. -/
def Drawn (m v : Int) : Prop := (m < 1 → v = 0) ∧ (1 ≤ m → 0 ≤ v ∧ v < m)

theorem drawn_emod (x m : Int) (h : 1 ≤ m) : Drawn m (x % m) := ⟨fun h' => by omega, fun _ => ⟨Int.emod_nonneg _ (by omega), Int.emod_lt_of_pos _ (by omega)⟩⟩

set_option maxHeartbeats 1600000 in
theorem l1Next_any (g : Nat) (A : Option Addr) (n c : Nat) (cs : List Int) (k : Nat) (m : Int) (w : World) (hs : Src w g A n c cs k) (hk : k ≤ 1000000) (hm : m ≤ 1099511627776) :
    Calls Try.prog 60 #[.pointer (some ⟨g, 0, none⟩), .int .i64 m] w fun e w' => ∃ v, e = .returned (.int .i64 v) ∧ Drawn m v ∧ Src w' g A n c cs (k + 1) ∧ w.grownBy w' (some g) := by
  have HS := Lib.hid hs
  have HS1 := Lib.hid hs.step
  have HG := Lib.hid (setCell_grown w ⟨g, 1, none⟩ (.int .i64 ((k : Int) + 1)))
  have hlt := hs.box.lt
  have c0 := hs.box.look 0
  have c1 := hs.box.look 1
  have f1 := hs.box.free 1
  clear hs
  by_cases h1 : m < 1
  · go_enter Try.func60, Try.ntmps60
    go_wp2
    go_ret
    exact ⟨0, rfl, ⟨fun _ => rfl, fun h => by omega⟩, HS1.out, HG.out⟩
  · by_cases hn : n = 0
    · subst hn
      have e1 : 0 ≤ ((k : Int) * 7) % m := Int.emod_nonneg _ (by omega)
      have e2 : ((k : Int) * 7) % m < m := Int.emod_lt_of_pos _ (by omega)
      have hd1 := HS1.out.box.look 1
      have hd0 := HS1.out.box.look 0
      go_enter Try.func60, Try.ntmps60
      go_wp2
      go_ret
      exact ⟨_, rfl, ⟨fun h => absurd h (by omega), fun _ => ⟨e1, e2⟩⟩, HS1.out, HG.out⟩
    · have hnp : 0 < n := by omega
      obtain ⟨b, o, rfl, hcell⟩ := HS1.out.data.2 hnp
      obtain ⟨j0, hj0, hl0⟩ := tmod_nat k n hnp
      obtain ⟨j1, hj1, hl1⟩ := tmod_nat (k + 1) n hnp
      obtain ⟨j2, hj2, hl2⟩ := tmod_nat (k + 2) n hnp
      have hj1 : ((k : Int) + 1).tmod (n : Int) = (j1 : Int) := hj1
      have hj2 : ((k : Int) + 2).tmod (n : Int) = (j2 : Int) := hj2
      obtain ⟨q, hq, hq0⟩ := tdiv_nat k n
      have d0 := hcell j0 hl0
      have d1 := hcell j1 hl1
      have d2 := hcell j2 hl2
      have b0 := HS1.out.bytes.at_ j0
      have b1 := HS1.out.bytes.at_ j1
      have b2 := HS1.out.bytes.at_ j2
      obtain ⟨z0, hz0⟩ : ∃ z, cs.getD j0 0 = z := ⟨_, rfl⟩
      obtain ⟨z1, hz1⟩ : ∃ z, cs.getD j1 0 = z := ⟨_, rfl⟩
      obtain ⟨z2, hz2⟩ : ∃ z, cs.getD j2 0 = z := ⟨_, rfl⟩
      rw [hz0] at d0 b0
      rw [hz1] at d1 b1
      rw [hz2] at d2 b2
      obtain ⟨b00, b01⟩ := b0
      obtain ⟨b10, b11⟩ := b1
      obtain ⟨b20, b21⟩ := b2
      clear hz0 hz1 hz2 hcell
      have i0 : (j0 : Int) < n := by omega
      have i1 : (j1 : Int) < n := by omega
      have i2 : (j2 : Int) < n := by omega
      have w1 : IntKind.i64.wrap ((k : Int) + 1) = (k : Int) + 1 := IntWalk.i64_in _ (by omega)
      have w2 : IntKind.i64.wrap ((k : Int) + 2) = (k : Int) + 2 := IntWalk.i64_in _ (by omega)
      have w3 : IntKind.i64.wrap ((q : Int) * 37) = (q : Int) * 37 := IntWalk.i64_in _ (by omega)
      have w4 : IntKind.i64.wrap (z0 + (q : Int) * 37) = z0 + (q : Int) * 37 := IntWalk.i64_in _ (by omega)
      have hd1 := HS1.out.box.look 1
      have hd0 := HS1.out.box.look 0
      have hne : ((n : Int) == 0) = false := by simp; omega
      have hnb : (n : Int) ≤ 1048576 := by have := HS1.out.small; omega
      have w5 : IntKind.i64.wrap ((z0 + (q : Int) * 37) * 251) = (z0 + (q : Int) * 37) * 251 := IntWalk.i64_in _ (by omega)
      have w6 : IntKind.i64.wrap (z1 * 13) = z1 * 13 := IntWalk.i64_in _ (by omega)
      have w7 : IntKind.i64.wrap ((z0 + (q : Int) * 37) * 251 + z1 * 13) = (z0 + (q : Int) * 37) * 251 + z1 * 13 := IntWalk.i64_in _ (by omega)
      have w8 : IntKind.i64.wrap ((z0 + (q : Int) * 37) * 251 + z1 * 13 + k) = (z0 + (q : Int) * 37) * 251 + z1 * 13 + k := IntWalk.i64_in _ (by omega)
      have w9 : IntKind.i64.wrap (((z0 + (q : Int) * 37) * 251 + z1 * 13 + k) * 257) = ((z0 + (q : Int) * 37) * 251 + z1 * 13 + k) * 257 := IntWalk.i64_in _ (by omega)
      have w10 : IntKind.i64.wrap (((z0 + (q : Int) * 37) * 251 + z1 * 13 + k) * 257 + z2) = ((z0 + (q : Int) * 37) * 251 + z1 * 13 + k) * 257 + z2 := IntWalk.i64_in _ (by omega)
      by_cases h2 : m ≤ 200
      · go_enter Try.func60, Try.ntmps60
        go_wp2
        go_quiet (fail)
        go_wp2
        go_ret
        exact ⟨_, rfl, drawn_emod _ _ (by omega), HS1.out.drewN _, grown_drewN HG.out _⟩
      · by_cases h3 : m ≤ 60000
        · go_enter Try.func60, Try.ntmps60
          go_wp2
          go_quiet (fail)
          go_wp2
          go_quiet (fail)
          go_wp2
          go_ret
          exact ⟨_, rfl, drawn_emod _ _ (by omega), HS1.out.drewN _, grown_drewN HG.out _⟩
        · go_enter Try.func60, Try.ntmps60
          go_wp2
          go_quiet (fail)
          go_wp2
          go_quiet (fail)
          go_wp2
          go_quiet (fail)
          go_wp2
          go_ret
          exact ⟨_, rfl, drawn_emod _ _ (by omega), HS1.out.drewN _, grown_drewN HG.out _⟩

theorem l1Chance_any (g : Nat) (A : Option Addr) (n c : Nat) (cs : List Int) (k : Nat) (m : Int) (w : World) (hs : Src w g A n c cs k) (hk : k ≤ 1000000) (hm : m ≤ 1099511627776) :
    Calls Try.prog 72 #[.pointer (some ⟨g, 0, none⟩), .int .i64 m] w fun e w' => ∃ v : Bool, e = .returned (.bool v) ∧ Src w' g A n c cs (k + 1) ∧ w.grownBy w' (some g) := by
  have HS := Lib.hid hs
  clear hs
  go_enter Try.func72, Try.ntmps72
  go_wp2_with fail
  refine (l1Next_any g A n c cs k m _ HS.out hk hm).mono ?_
  rintro e w1 ⟨v, rfl, _, h1, h2⟩
  have H1 := Lib.hid h1
  have H2 := Lib.hid h2
  clear h1 h2
  go_wp2
  go_ret
  exact ⟨_, rfl, H1.out, H2.out⟩

theorem l1Pick_any (g : Nat) (A : Option Addr) (n c : Nat) (cs : List Int) (k b m d : Nat) (zs : List Int) (w : World) (hs : Src w g A n c cs k) (hk : k ≤ 1000000) (hz : zs.length = m) (hm0 : 0 < m) (hm : m ≤ 1000)
    (hc : ∀ i, i < m → w.cell? ⟨b, 0 + i, none⟩ = some (.int .i64 (zs.getD i 0))) (hne : b ≠ g) :
    Calls Try.prog 62 #[.pointer (some ⟨g, 0, none⟩), .slice (some ⟨b, 0, none⟩) m d] w fun e w' => ∃ v : Int, e = .returned (.int .i64 v) ∧ v ∈ zs ∧ Src w' g A n c cs (k + 1) ∧ w.grownBy w' (some g) := by
  have HS := Lib.hid hs
  have HC := Lib.hid hc
  have HZ := Lib.hid hz
  have hbl : b < w.heap.size := World.block_lt_of_cell? w _ (hc 0 hm0)
  clear hs hc hz
  go_enter Try.func62, Try.ntmps62
  go_wp2_with fail
  refine (l1Next_any g A n c cs k m _ HS.out hk (by omega)).mono ?_
  rintro e w1 ⟨v, rfl, hv, h1, h2⟩
  obtain ⟨v0, v1⟩ := hv.2 (by omega)
  obtain ⟨j, rfl⟩ := Int.eq_ofNat_of_zero_le v0
  have hj := HC.out j (by omega)
  have hj' : w1.cell? ⟨b, 0 + j, none⟩ = some (.int .i64 (zs.getD j 0)) := (World.cell?_of_block (h2.block b hbl (by simp; omega))).trans hj
  have hmem : zs.getD j 0 ∈ zs := by
    have := HZ.out
    rw [show zs.getD j 0 = zs[j] by simp [List.getD, (show j < zs.length by omega)]]
    exact List.getElem_mem _
  obtain ⟨x, hx⟩ : ∃ x, zs.getD j 0 = x := ⟨_, rfl⟩
  rw [hx] at hj' hmem
  have HM := Lib.hid hmem
  have H1 := Lib.hid h1
  have H2 := Lib.hid h2
  clear h1 h2 hv hmem hj hx
  simp only [Nat.zero_add] at hj'
  go_wp2
  go_ret
  exact ⟨x, rfl, HM.out, H1.out, H2.out⟩

end Go.Proofs.Ytamclkjofojhmaa

namespace Go.Proofs.Ytamclkjofojhmaa
open Go.RowKit
set_option linter.unusedVariables false

/-- A source at block g, made before w0; behind w0 at most it has been read on, up to place K, and nothing else that was there at w0 has changed. -/
structure Dr (w0 : World) (g : Nat) (A : Option Addr) (n c : Nat) (cs : List Int) (K : Nat) (w : World) : Prop where
  at_ : ∃ k, k ≤ K ∧ Src w g A n c cs k
  data : ∀ r, 0 < n → A.map (·.block) = some r → r < g
  before : g < w0.heap.size
  fr : Only g (g + 1) w0 w

theorem Src.only {w w' : World} {g : Nat} {A : Option Addr} {n c : Nat} {cs : List Int} {k lo hi : Nat} (h : Src w g A n c cs k) (hd : ∀ r, 0 < n → A.map (·.block) = some r → r < g) (ho : Only lo hi w w') (hl : g < lo) : Src w' g A n c cs k :=
  ⟨(ho.block g h.box.lt (.inl hl)).trans h.box, ⟨h.data.1, fun hn => by
    obtain ⟨b, o, rfl, hc⟩ := h.data.2 hn
    refine ⟨b, o, rfl, fun i hi => ?_⟩
    have hb : b < g := hd b hn rfl
    exact (World.cell?_of_block (ho.block b (by have := h.box.lt; omega) (.inl (by omega)))).trans (hc i hi)⟩, h.bytes, h.small, h.apart⟩

section
variable {w0 w w' : World} {g : Nat} {A : Option Addr} {n c : Nat} {cs : List Int} {K K' lo hi : Nat}
theorem Dr.lt (h : Dr w0 g A n c cs K w) : g < w.heap.size := by obtain ⟨k, _, hs⟩ := h.at_; exact hs.box.lt
theorem Dr.below (h : Dr w0 g A n c cs K w) (hb : Below w.heap.size w w') : Dr w0 g A n c cs K w' := by
  obtain ⟨k, hk, hs⟩ := h.at_
  exact ⟨⟨k, hk, hs.below hb⟩, h.data, h.before, h.fr.trans (Only.of_below hb _ _)⟩
theorem Dr.only (h : Dr w0 g A n c cs K w) (ho : Only lo hi w w') (hd : w0.heap.size ≤ lo) : Dr w0 g A n c cs K w' := by
  obtain ⟨k, hk, hs⟩ := h.at_
  have hg := h.before
  exact ⟨⟨k, hk, hs.only h.data ho (by omega)⟩, h.data, h.before, ho.os.trans h.fr.os, ho.tape.trans h.fr.tape, ho.output.trans h.fr.output, Nat.le_trans h.fr.size ho.size,
    fun b hb hx => (ho.block b (by have := h.fr.size; omega) (.inl (by omega))).trans (h.fr.block b hb hx)⟩
theorem Dr.here (h : Dr w0 g A n c cs K w) : Dr w g A n c cs K w := ⟨h.at_, h.data, h.lt, Only.refl _ _ _⟩
theorem Dr.next (h : Dr w0 g A n c cs K w) (k : Dr w g A n c cs K' w') : Dr w0 g A n c cs K' w' := ⟨k.at_, k.data, h.before, h.fr.trans k.fr⟩
theorem Dr.more (h : Dr w0 g A n c cs K w) (hk : K ≤ K') : Dr w0 g A n c cs K' w := by
  obtain ⟨k, hk', hs⟩ := h.at_
  exact ⟨⟨k, by omega, hs⟩, h.data, h.before, h.fr⟩
theorem Dr.of_src {k : Nat} (h : Src w g A n c cs k) (hd : ∀ r, 0 < n → A.map (·.block) = some r → r < g) (hk : k ≤ K) : Dr w g A n c cs K w := ⟨⟨k, hk, h⟩, hd, h.box.lt, Only.refl _ _ _⟩
theorem Dr.of_step {k : Nat} (h : Dr w g A n c cs K w) (hs : Src w' g A n c cs k) (hg : w.grownBy w' (some g)) (hk : k ≤ K') : Dr w g A n c cs K' w' :=
  ⟨⟨k, hk, hs⟩, h.data, h.before, Only.of_grown hg (fun r hr => by injection hr with hr; omega)⟩

theorem dNext (m : Int) (h : Dr w g A n c cs K w) (hK : K ≤ 100000) (hm0 : 1 ≤ m) (hm : m ≤ 1099511627776) :
    Calls Try.prog 60 #[.pointer (some ⟨g, 0, none⟩), .int .i64 m] w fun e w' => ∃ v, e = .returned (.int .i64 v) ∧ 0 ≤ v ∧ v < m ∧ Dr w g A n c cs (K + 1) w' := by
  obtain ⟨k, hk, hs⟩ := h.at_
  refine (l1Next_any g A n c cs k m w hs (by omega) hm).mono ?_
  rintro e w' ⟨v, h1, h2, h3, h4⟩
  exact ⟨v, h1, (h2.2 hm0).1, (h2.2 hm0).2, h.of_step h3 h4 (by omega)⟩
theorem dChance (m : Int) (h : Dr w g A n c cs K w) (hK : K ≤ 100000) (hm : m ≤ 1099511627776) :
    Calls Try.prog 72 #[.pointer (some ⟨g, 0, none⟩), .int .i64 m] w fun e w' => ∃ v : Bool, e = .returned (.bool v) ∧ Dr w g A n c cs (K + 1) w' := by
  obtain ⟨k, hk, hs⟩ := h.at_
  refine (l1Chance_any g A n c cs k m w hs (by omega) hm).mono ?_
  rintro e w' ⟨v, h1, h3, h4⟩
  exact ⟨v, h1, h.of_step h3 h4 (by omega)⟩
theorem dPick (b m : Nat) (zs : List Int) {arr : Array Value} (h : Dr w g A n c cs K w) (hK : K ≤ 100000) (hx : Box w b 2 arr) (ha : arr = (zs.map (Value.int .i64)).toArray) (hz : zs.length = m) (hm0 : 0 < m) (hm : m ≤ 1000) (hne : ¬ b = g) :
    Calls Try.prog 62 #[.pointer (some ⟨g, 0, none⟩), .slice (some ⟨b, 0, none⟩) m m] w fun e w' => ∃ v, e = .returned (.int .i64 v) ∧ v ∈ zs ∧ Dr w g A n c cs (K + 1) w' := by
  obtain ⟨k, hk, hs⟩ := h.at_
  subst ha
  refine (l1Pick_any g A n c cs k b m m zs w hs (by omega) hz hm0 hm (fun i hi => ?_) hne).mono ?_
  · rw [Nat.zero_add, hx.look i]
    simp [List.getD, (show i < zs.length by omega)]
  rintro e w' ⟨v, h1, h2, h3, h4⟩
  exact ⟨v, h1, h2, h.of_step h3 h4 (by omega)⟩
theorem dSource (A : Option Addr) (n c : Nat) (cs : List Int) (w : World) (ha : BIn w A n cs) (hb : Bytes cs) (hn : n ≤ 1048576) :
    Calls Try.prog 54 #[.slice A n c] w fun e w' => e = .returned (.pointer (some ⟨w.heap.size, 0, none⟩)) ∧ Dr w' w.heap.size A n c cs 0 w' ∧ Below w.heap.size w w' :=
  (l1Source_any A n c cs w ha hb hn).mono fun e w' ⟨h1, h2, h3⟩ => ⟨h1, Dr.of_src h2 (fun r hr he => ha.lts r hr he) (Nat.le_refl _), h3⟩
end

section
variable {α : Type} {t : TypeId} {size : Nat} {f : α → List Value} {w : World} {lo hi lo' hi' : Nat} {A : Option Addr} {n c : Nat} {ys : List α}
theorem OwnFK.widen (h : Kept lo hi (OwnFK t size f lo hi A n c ys) w) (h1 : lo' ≤ lo) (h2 : hi ≤ hi') (h3 : hi' ≤ w.heap.size) : Kept lo' hi' (OwnFK t size f lo' hi' A n c ys) w :=
  ⟨h3, fun w2 k => by
    have hh := h.2 w2 (k.sub h1 h2)
    exact ⟨hh.1.mono h1, fun r hr => by have := hh.2 r hr; omega⟩⟩
theorem OwnFK.nil_ (t : TypeId) (size : Nat) (f : α → List Value) (w : World) (hl : hi ≤ w.heap.size) : Kept lo hi (OwnFK t size f lo hi none 0 0 []) w :=
  ⟨hl, fun w2 _ => ⟨OwnF.nil_ _ _ _ _ _, fun r hr => by cases hr⟩⟩
end

theorem InF.of_box {α : Type} {size : Nat} {f : α → List Value} {w : World} {g : Nat} {t : TypeId} {cs : Array Value} (h : Box w g t cs) (ys : List α) {m : Nat} (hm : ys.length = m) (hc : cs.toList = ys.flatMap f) : InF size f w (some ⟨g, 0, none⟩) m ys :=
  ⟨hm, fun _ => ⟨g, 0, rfl, fun j u hj => by
    rw [Nat.zero_add, h.look j, ← Array.getElem?_toList, hc]; exact hj⟩⟩

/-- An advertisement whose slices are the call's own; one of them is nil. -/
structure LsaOwn (lo hi : Nat) (w : World) (A : Option Addr) (n c : Nat) (B : Option Addr) (m d : Nat) (l : LsaM) : Prop where
  links : Kept lo hi (OwnFK 101 4 lcell lo hi A n c l.links) w
  routers : Kept lo hi (OwnFK 2 1 icell lo hi B m d l.routers) w
  one : (B = none ∧ m = 0 ∧ d = 0 ∧ l.routers = []) ∨ (A = none ∧ n = 0 ∧ c = 0 ∧ l.links = [])
theorem LsaOwn.lsa {lo hi : Nat} {w : World} {A B : Option Addr} {n c m d : Nat} {l : LsaM} (h : LsaOwn lo hi w A n c B m d l) : LsaAt true lo hi w A n B m l := ⟨⟨h.links.links.sl, h.routers.ints.sl⟩, h.links.le⟩

theorem OwnF.at_ {α : Type} {t : TypeId} {size : Nat} {f : α → List Value} {w : World} {B : Nat} {A : Option Addr} {n c : Nat} {ys : List α} (h : OwnF t size f w B A n c ys) (hn : 0 < n) :
    ∃ r, Kept r (r + 1) (OwnFK t size f r (r + 1) A n c ys) w ∧ B ≤ r ∧ ∀ g t' cs, Box w g t' cs → t' ≠ t → ¬ r = g := by
  rcases h.2.2 with ⟨h', h0⟩ | ⟨g, cap, cur, h1, h2, h3, h4⟩
  · exact absurd h0 (by omega)
  · have hA : A.map (·.block) = some g := by simp only [Value.slice.injEq] at h1; rw [h1.1]; rfl
    have hl := (h.block g hA).2
    refine ⟨g, ⟨hl, fun w2 k => ⟨⟨h.1, h.2.1, .inr ⟨g, cap, cur, h1, Nat.le_refl _, (k g (Nat.le_refl _) (Nat.lt_succ_self _)).trans h3, h4⟩⟩, fun r hr => ?_⟩⟩, h2, fun g' t' cs hb ht e => ?_⟩
    · rw [hA] at hr; injection hr with hr; omega
    · subst e
      have hb' : w.heap[g]? = some (.cells cs t') := hb
      rw [h3] at hb'
      injection hb' with hb'
      injection hb' with _ e2
      exact ht e2.symm
theorem Below.of_only0 {w w' : World} (h : Only 0 0 w w') : Below w.heap.size w w' := ⟨h.os, h.tape, h.output, h.size, fun b hb => h.block b hb (.inr (Nat.zero_le _))⟩
theorem LsaAt.wide {q : Bool} {lo hi lo' hi' : Nat} {w : World} {A B : Option Addr} {n m : Nat} {l l' : LsaM} (h : LsaAt q lo hi w A n B m l) (e1 : l'.links = l.links) (e2 : l'.routers = l.routers) (h1 : lo' ≤ lo) (h2 : hi ≤ hi') (h3 : hi' ≤ w.heap.size) : LsaAt q lo' hi' w A n B m l' :=
  ⟨⟨e1 ▸ h.in_.links.mono h1 h2, e2 ▸ h.in_.routers.mono h1 h2⟩, h3⟩

/-- What l2Draw answers: some advertisement. -/
def DrawOut (w : World) (g : Nat) (A0 : Option Addr) (n0 c0 : Nat) (cs : List Int) (K : Nat) (e : Ending) (w' : World) : Prop :=
  ∃ l A B n c m d, e = .returned (.agg (lsaCells l A B n c m d)) ∧ LsaOwn w.heap.size w'.heap.size w' A n c B m d l ∧ n ≤ 8 ∧ m ≤ 8 ∧ Dr w g A0 n0 c0 cs K w'
/-- What l2Bent answers: some advertisement. -/
def BentOut (w : World) (g : Nat) (A0 : Option Addr) (n0 c0 : Nat) (cs : List Int) (K : Nat) (e : Ending) (w' : World) : Prop :=
  ∃ l A B n c m d, e = .returned (.agg (lsaCells l A B n c m d)) ∧ LsaAt true w.heap.size w'.heap.size w' A n B m l ∧ n ≤ 16 ∧ m ≤ 16 ∧ Dr w g A0 n0 c0 cs K w'
/-- What l3Pair answers: two advertisements. -/
def PairOut (w : World) (g : Nat) (A0 : Option Addr) (n0 c0 : Nat) (cs : List Int) (K : Nat) (e : Ending) (w' : World) : Prop :=
  ∃ l A B n c m d k A2 B2 n2 c2 m2 d2, e = .returned (.tuple #[.agg (lsaCells l A B n c m d), .agg (lsaCells k A2 B2 n2 c2 m2 d2)]) ∧
    LsaAt true w.heap.size w'.heap.size w' A n B m l ∧ LsaAt true w.heap.size w'.heap.size w' A2 n2 B2 m2 k ∧ n ≤ 16 ∧ m ≤ 16 ∧ n2 ≤ 16 ∧ m2 ≤ 16 ∧ Dr w g A0 n0 c0 cs K w'
/-- What a draw of one advertisement answers. -/
def OneOut (w : World) (e : Ending) (w' : World) : Prop :=
  ∃ l A B n c m d, e = .returned (.agg (lsaCells l A B n c m d)) ∧ LsaAt true w.heap.size w'.heap.size w' A n B m l ∧ n ≤ 16 ∧ m ≤ 16 ∧ Below w.heap.size w w'
/-- What a draw of two advertisements answers. -/
def TwoOut (w : World) (e : Ending) (w' : World) : Prop :=
  ∃ l A B n c m d k A2 B2 n2 c2 m2 d2, e = .returned (.tuple #[.agg (lsaCells l A B n c m d), .agg (lsaCells k A2 B2 n2 c2 m2 d2)]) ∧
    LsaAt true w.heap.size w'.heap.size w' A n B m l ∧ LsaAt true w.heap.size w'.heap.size w' A2 n2 B2 m2 k ∧ n ≤ 16 ∧ m ≤ 16 ∧ n2 ≤ 16 ∧ m2 ≤ 16 ∧ Below w.heap.size w w'
/-- What the draw of an advertisement and of ticks answers. -/
def AgeOut (w : World) (e : Ending) (w' : World) : Prop :=
  ∃ l A B n c m d t, e = .returned (.tuple #[.agg (lsaCells l A B n c m d), .int .i64 t]) ∧ LsaAt true w.heap.size w'.heap.size w' A n B m l ∧ n ≤ 16 ∧ m ≤ 16 ∧ -1 ≤ t ∧ t ≤ 9223372036854775807 ∧ Below w.heap.size w w'

end Go.Proofs.Ytamclkjofojhmaa

namespace Go.Proofs.Ytamclkjofojhmaa
open Go.RowKit
set_option linter.unusedVariables false

set_option maxRecDepth 100000 in
set_option maxHeartbeats 6400000 in
theorem l2Draw_any (g : Nat) (A0 : Option Addr) (n0 c0 : Nat) (cs : List Int) (K : Nat) (w : World) (hs : Dr w g A0 n0 c0 cs K w) (hK : K ≤ 90000) :
    Calls Try.prog 58 #[.pointer (some ⟨g, 0, none⟩)] w (DrawOut w g A0 n0 c0 cs (K + 40)) := by
  have HS := hs
  have Zg : Hid (g < w.heap.size) := Lib.hid hs.lt
  clear hs
  go_enter Try.func58, Try.ntmps58
  go_wp2_with fail
  refine Calls.name ?_
  intro U1 hU1
  have hb : Below w.heap.size w U1 := by rw [hU1]; exact (((Below.refl _ _).alloc (Nat.le_refl _) _).alloc (by simp <;> omega) _)
  have zz : Hid (w.heap.size + 2 = U1.heap.size) := Lib.hid (by rw [hU1]; simp)
  have HX1 : Kept w.heap.size (w.heap.size + 1) (BoxK w.heap.size 29 #[.int .i64 0, .int .i64 0, .int .i64 0, .int .i64 0, .int .i64 0, .int .i64 0, .slice none 0 0, .slice none 0 0, .int .i64 0, .int .i64 0]) U1 := by rw [hU1]; exact Kept.box ((Box.made_at _ _ _ rfl).over _)
  have HX2 : Kept (w.heap.size + 1) (w.heap.size + 1 + 1) (BoxK (w.heap.size + 1) 2 #[.int .i64 0, .int .i64 5, .int .i64 100, .int .i64 3599, .int .i64 3600]) U1 := by rw [hU1]; exact Kept.box (Box.made_at _ _ _ (by simp <;> omega))
  replace HS := HS.below hb
  clear hb
  have Z1 := zz; clear zz
  have Y1 := Lib.hid (And.intro Zg.out Z1.out); clear Zg Z1
  clear hU1
  refine (dPick (w.heap.size + 1) 5 [0, 5, 100, 3599, 3600] HS.here (by omega) HX2.bx rfl rfl (by omega) (by omega) (by have := Y1.out; omega)).mono ?_
  rintro e w2 ⟨va, rfl, hv, hs⟩
  have ho := hs.fr
  have Z2 := Lib.hid ho.size
  have Y2 := Lib.hid (And.intro Y1.out Z2.out); clear Y1 Z2
  clear HX2
  replace HX1 := HX1.only ho (by have := Y2.out; omega)
  replace HS := HS.next hs; clear ho hs
  clear hv
  have l2_0 := HX1.bx.lt
  go_wp2_with fail
  clear l2_0
  refine Calls.name ?_
  intro U3 hU3
  have hb : Below w2.heap.size w2 U3 := by rw [hU3]; exact ((Below.refl _ _).alloc (Nat.le_refl _) _)
  have zz : Hid (w2.heap.size + 1 = U3.heap.size) := Lib.hid (by rw [hU3]; simp)
  have HX3 : Kept w2.heap.size (w2.heap.size + 1) (BoxK w2.heap.size 2 #[.int .i64 0, .int .i64 2, .int .i64 255]) U3 := by rw [hU3]; exact Kept.box (Box.made_at _ _ _ rfl)
  replace HS := HS.below hb
  replace HX1 := HX1.below hb
  clear hb
  have Z3 := zz; clear zz
  have Y3 := Lib.hid (And.intro Y2.out Z3.out); clear Y2 Z3
  clear hU3
  refine (dPick w2.heap.size 3 [0, 2, 255] HS.here (by omega) HX3.bx rfl rfl (by omega) (by omega) (by have := Y3.out; omega)).mono ?_
  rintro e w4 ⟨vo, rfl, hv, hs⟩
  have ho := hs.fr
  have Z4 := Lib.hid ho.size
  have Y4 := Lib.hid (And.intro Y3.out Z4.out); clear Y3 Z4
  clear HX3
  replace HX1 := HX1.only ho (by have := Y4.out; omega)
  replace HS := HS.next hs; clear ho hs
  clear hv
  have l3_0 := HX1.bx.lt
  go_wp2_with fail
  clear l3_0
  refine Calls.name ?_
  intro U5 hU5
  have hb : Below w4.heap.size w4 U5 := by rw [hU5]; exact ((Below.refl _ _).alloc (Nat.le_refl _) _)
  have zz : Hid (w4.heap.size + 1 = U5.heap.size) := Lib.hid (by rw [hU5]; simp)
  have HX4 : Kept w4.heap.size (w4.heap.size + 1) (BoxK w4.heap.size 2 #[.int .i64 1, .int .i64 1, .int .i64 2, .int .i64 3, .int .i64 (-2147483647), .int .i64 2147483647, .int .i64 0, .int .i64 (-5)]) U5 := by rw [hU5]; exact Kept.box (Box.made_at _ _ _ rfl)
  replace HS := HS.below hb
  replace HX1 := HX1.below hb
  clear hb
  have Z5 := zz; clear zz
  have Y5 := Lib.hid (And.intro Y4.out Z5.out); clear Y4 Z5
  clear hU5
  refine (dPick w4.heap.size 8 [1, 1, 2, 3, -2147483647, 2147483647, 0, -5] HS.here (by omega) HX4.bx rfl rfl (by omega) (by omega) (by have := Y5.out; omega)).mono ?_
  rintro e w6 ⟨vs, rfl, hv, hs⟩
  have ho := hs.fr
  have Z6 := Lib.hid ho.size
  have Y6 := Lib.hid (And.intro Y5.out Z6.out); clear Y5 Z6
  clear HX4
  replace HX1 := HX1.only ho (by have := Y6.out; omega)
  replace HS := HS.next hs; clear ho hs
  clear hv
  have l4_0 := HX1.bx.lt
  go_wp2_with fail
  clear l4_0
  refine Calls.name ?_
  intro U7 hU7
  have hb : Below w6.heap.size w6 U7 := by rw [hU7]; exact (((Below.refl _ _).alloc (Nat.le_refl _) _).alloc (by simp <;> omega) _)
  have zz : Hid (w6.heap.size + 2 = U7.heap.size) := Lib.hid (by rw [hU7]; simp)
  have HX5 : Kept w6.heap.size (w6.heap.size + 1) (BoxK w6.heap.size 29 #[.int .i64 va, .int .i64 vo, .int .i64 0, .int .i64 0, .int .i64 0, .int .i64 vs, .slice none 0 0, .slice none 0 0, .int .i64 0, .int .i64 0]) U7 := by rw [hU7]; exact Kept.box ((Box.made_at _ _ _ rfl).over _)
  have HX6 : Kept (w6.heap.size + 1) (w6.heap.size + 1 + 1) (BoxK (w6.heap.size + 1) 2 #[.int .i64 1, .int .i64 1, .int .i64 1, .int .i64 2, .int .i64 3]) U7 := by rw [hU7]; exact Kept.box (Box.made_at _ _ _ (by simp <;> omega))
  replace HS := HS.below hb
  replace HX1 := HX1.below hb
  clear hb
  have Z7 := zz; clear zz
  have Y7 := Lib.hid (And.intro Y6.out Z7.out); clear Y6 Z7
  clear hU7
  refine (dPick (w6.heap.size + 1) 5 [1, 1, 1, 2, 3] HS.here (by omega) HX6.bx rfl rfl (by omega) (by omega) (by have := Y7.out; omega)).mono ?_
  rintro e w8 ⟨vt, rfl, hv, hs⟩
  have ho := hs.fr
  have Z8 := Lib.hid ho.size
  have Y8 := Lib.hid (And.intro Y7.out Z8.out); clear Y7 Z8
  clear HX6
  replace HX1 := HX1.only ho (by have := Y8.out; omega)
  replace HX5 := HX5.only ho (by have := Y8.out; omega)
  replace HS := HS.next hs; clear ho hs
  have ht : vt = 1 ∨ vt = 2 ∨ vt = 3 := by simp only [List.mem_cons, List.not_mem_nil, or_false] at hv; omega
  clear hv
  rcases ht with rfl | rfl | rfl
  · have c5_0 := HX5.look 2
    have f5_0 := HX5.free 2
    have l5_0 := HX1.bx.lt
    have l5_1 := HX5.bx.lt
    go_wp2_with fail
    clear c5_0 f5_0 l5_0 l5_1
    refine Calls.name ?_
    intro U9 hU9
    have ho : Only w6.heap.size (w6.heap.size + 1) w8 U9 := by rw [hU9]; exact ((Only.refl _ _ _).set (p := ⟨w6.heap.size, 2, none⟩) (Nat.le_refl _) (Nat.lt_succ_self _) _)
    replace HX5 : Kept w6.heap.size (w6.heap.size + 1) (BoxK w6.heap.size 29 #[.int .i64 va, .int .i64 vo, .int .i64 1, .int .i64 0, .int .i64 0, .int .i64 vs, .slice none 0 0, .slice none 0 0, .int .i64 0, .int .i64 0]) U9 := by rw [hU9]; exact Kept.box (HX5.bx.puts 2 (.int .i64 1) (cs' := #[.int .i64 va, .int .i64 vo, .int .i64 1, .int .i64 0, .int .i64 0, .int .i64 vs, .slice none 0 0, .slice none 0 0, .int .i64 0, .int .i64 0]) rfl)
    replace HS := HS.only ho (by have := Y8.out; omega)
    replace HX1 := HX1.only ho (by have := Y8.out; omega)
    have Z9 : Hid (U9.heap.size = w8.heap.size) := Lib.hid (by rw [hU9]; simp [World.setCell]); clear ho
    have Y9 := Lib.hid (And.intro Y8.out Z9.out); clear Y8 Z9
    clear hU9
    refine (dNext 4 HS.here (by omega) (by omega) (by omega)).mono ?_
    rintro e w10 ⟨vd, rfl, hvd0, hvd1, hs⟩
    have ho := hs.fr
    have Z10 := Lib.hid ho.size
    have Y10 := Lib.hid (And.intro Y9.out Z10.out); clear Y9 Z10
    replace HX1 := HX1.only ho (by have := Y10.out; omega)
    replace HX5 := HX5.only ho (by have := Y10.out; omega)
    replace HS := HS.next hs; clear ho hs
    have c6_0 := HX5.look 4
    have f6_0 := HX5.free 4
    have l6_0 := HX1.bx.lt
    have l6_1 := HX5.bx.lt
    go_wp2_with fail
    clear c6_0 f6_0 l6_0 l6_1
    obtain ⟨U11, hU11⟩ : ∃ W : World, W = (w10.setCell ⟨w6.heap.size, 4, none⟩ (.int .i64 (1 + vd))) := ⟨_, rfl⟩
    have ho : Only w6.heap.size (w6.heap.size + 1) w10 U11 := by rw [hU11]; exact ((Only.refl _ _ _).set (p := ⟨w6.heap.size, 4, none⟩) (Nat.le_refl _) (Nat.lt_succ_self _) _)
    replace HX5 : Kept w6.heap.size (w6.heap.size + 1) (BoxK w6.heap.size 29 #[.int .i64 va, .int .i64 vo, .int .i64 1, .int .i64 0, .int .i64 (1 + vd), .int .i64 vs, .slice none 0 0, .slice none 0 0, .int .i64 0, .int .i64 0]) U11 := by rw [hU11]; exact Kept.box (HX5.bx.puts 4 (.int .i64 (1 + vd)) (cs' := #[.int .i64 va, .int .i64 vo, .int .i64 1, .int .i64 0, .int .i64 (1 + vd), .int .i64 vs, .slice none 0 0, .slice none 0 0, .int .i64 0, .int .i64 0]) rfl)
    replace HS := HS.only ho (by have := Y10.out; omega)
    replace HX1 := HX1.only ho (by have := Y10.out; omega)
    have Z11 : Hid (U11.heap.size = w10.heap.size) := Lib.hid (by rw [hU11]; simp [World.setCell]); clear ho
    have Y11 := Lib.hid (And.intro Y10.out Z11.out); clear Y10 Z11
    refine Calls.name ?_
    intro U12 hU12
    have kU12 : U12 = (U11.alloc (.cells #[.int .i64 11, .int .i64 12, .int .i64 4294967295] 2)) := by rw [hU11]; exact hU12
    have hb : Below U11.heap.size U11 U12 := by rw [kU12]; exact ((Below.refl _ _).alloc (Nat.le_refl _) _)
    have zz : Hid (U11.heap.size + 1 = U12.heap.size) := Lib.hid (by rw [kU12]; simp)
    have HX7 : Kept w10.heap.size (w10.heap.size + 1) (BoxK w10.heap.size 2 #[.int .i64 11, .int .i64 12, .int .i64 4294967295]) U12 := by rw [kU12]; exact Kept.box (Box.made_at _ _ _ (by rw [hU11]; simp [World.setCell]))
    replace HS := HS.below hb
    replace HX1 := HX1.below hb
    replace HX5 := HX5.below hb
    clear hb
    have Z12 := zz; clear zz
    have Y12 := Lib.hid (And.intro Y11.out Z12.out); clear Y11 Z12
    clear kU12 hU12 hU11
    refine (dPick w10.heap.size 3 [11, 12, 4294967295] HS.here (by omega) HX7.bx rfl rfl (by omega) (by omega) (by have := Y12.out; omega)).mono ?_
    rintro e w13 ⟨vi, rfl, hv, hs⟩
    have ho := hs.fr
    have Z13 := Lib.hid ho.size
    have Y13 := Lib.hid (And.intro Y12.out Z13.out); clear Y12 Z13
    clear HX7
    replace HX1 := HX1.only ho (by have := Y13.out; omega)
    replace HX5 := HX5.only ho (by have := Y13.out; omega)
    replace HS := HS.next hs; clear ho hs
    clear hv
    have c7_0 := HX5.look 2
    have c7_1 := HX5.look 3
    have c7_2 := HX5.look 4
    have f7_0 := HX5.free 3
    have l7_0 := HX1.bx.lt
    have l7_1 := HX5.bx.lt
    go_wp2_with fail
    clear c7_0 c7_1 c7_2 f7_0 l7_0 l7_1
    refine Calls.name ?_
    intro U14 hU14
    have ho : Only w6.heap.size (w6.heap.size + 1) w13 U14 := by rw [hU14]; exact (((Only.refl _ _ _).set (p := ⟨w6.heap.size, 3, none⟩) (Nat.le_refl _) (Nat.lt_succ_self _) _).set (p := ⟨w6.heap.size, 3, none⟩) (Nat.le_refl _) (Nat.lt_succ_self _) _)
    replace HX5 : Kept w6.heap.size (w6.heap.size + 1) (BoxK w6.heap.size 29 #[.int .i64 va, .int .i64 vo, .int .i64 1, .int .i64 (1 + vd), .int .i64 (1 + vd), .int .i64 vs, .slice none 0 0, .slice none 0 0, .int .i64 0, .int .i64 0]) U14 := by rw [hU14]; exact Kept.box ((HX5.bx.puts 3 (.int .i64 vi) (cs' := #[.int .i64 va, .int .i64 vo, .int .i64 1, .int .i64 vi, .int .i64 (1 + vd), .int .i64 vs, .slice none 0 0, .slice none 0 0, .int .i64 0, .int .i64 0]) rfl).puts 3 (.int .i64 (1 + vd)) (cs' := #[.int .i64 va, .int .i64 vo, .int .i64 1, .int .i64 (1 + vd), .int .i64 (1 + vd), .int .i64 vs, .slice none 0 0, .slice none 0 0, .int .i64 0, .int .i64 0]) rfl)
    replace HS := HS.only ho (by have := Y13.out; omega)
    replace HX1 := HX1.only ho (by have := Y13.out; omega)
    have Z14 : Hid (U14.heap.size = w13.heap.size) := Lib.hid (by rw [hU14]; simp [World.setCell]); clear ho
    have Y14 := Lib.hid (And.intro Y13.out Z14.out); clear Y13 Z14
    clear hU14
    refine (dNext 4 HS.here (by omega) (by omega) (by omega)).mono ?_
    rintro e w15 ⟨p0, rfl, hp00, hp01, hs⟩
    have ho := hs.fr
    have Z15 := Lib.hid ho.size
    have Y15 := Lib.hid (And.intro Y14.out Z15.out); clear Y14 Z15
    replace HX1 := HX1.only ho (by have := Y15.out; omega)
    replace HX5 := HX5.only ho (by have := Y15.out; omega)
    replace HS := HS.next hs; clear ho hs
    have l8_0 := HX1.bx.lt
    have l8_1 := HX5.bx.lt
    go_wp2_with fail
    clear l8_0 l8_1
    go_loopw [4] (fun t wr => ∃ (p : Int) (A : Option Addr) (n c : Nat) (ys : List Lnk) (K2 hi : Nat), t = .int .i64 p ∧ 0 ≤ p ∧ (n : Int) + p ≤ 3 ∧ (K2 : Int) + 5 * p ≤ K + 30 ∧ Hid (w15.heap.size ≤ wr.heap.size) ∧ Dr w g A0 n0 c0 cs K2 wr ∧ Kept w.heap.size (w.heap.size + 1) (BoxK w.heap.size 29 #[.int .i64 0, .int .i64 0, .int .i64 0, .int .i64 0, .int .i64 0, .int .i64 0, .slice none 0 0, .slice none 0 0, .int .i64 0, .int .i64 0]) wr ∧ Kept w6.heap.size (w6.heap.size + 1) (BoxK w6.heap.size 29 #[.int .i64 va, .int .i64 vo, .int .i64 1, .int .i64 (1 + vd), .int .i64 (1 + vd), .int .i64 vs, .slice A n c, .slice none 0 0, .int .i64 0, .int .i64 0]) wr ∧ Kept (w15.heap.size) hi (OwnFK 101 4 lcell (w15.heap.size) hi A n c ys) wr) (fun t _ => (intOf t).toNat)
    case atStart => exact ⟨p0, none, 0, 0, [], _, w15.heap.size, rfl, by omega, by omega, by omega, Lib.hid (Nat.le_refl _), HS, HX1, HX5, OwnFK.nil_ _ _ _ _ (Nat.le_refl _)⟩
    case round =>
      clear HS HX1 HX5
      obtain ⟨p, A, n, c, ys, K2, hi, rfl, hp0, hp1, hp2, Zw, HS, HX1, HX5, HO⟩ := hrel
      have Y16 := Lib.hid (And.intro Y15.out Zw.out); clear Y15 Zw
      have Zo := Lib.hid HO.le
      have Y17 := Lib.hid (And.intro Y16.out Zo.out); clear Y16 Zo
      by_cases hp : (0 : Int) < p
      · have l9_0 := HX1.bx.lt
        have l9_1 := HX5.bx.lt
        go_wp2_with fail
        clear l9_0 l9_1
        refine (dNext 4 HS.here (by omega) (by omega) (by omega)).mono ?_
        rintro e w16 ⟨vx, rfl, hvx0, hvx1, hs⟩
        have ho := hs.fr
        have Z16 := Lib.hid ho.size
        have Y18 := Lib.hid (And.intro Y17.out Z16.out); clear Y17 Z16
        replace HX1 := HX1.only ho (by have := Y18.out; omega)
        replace HX5 := HX5.only ho (by have := Y18.out; omega)
        replace HO := HO.only ho (by have := Y18.out; omega)
        replace HS := HS.next hs; clear ho hs
        have l10_0 := HX1.bx.lt
        have l10_1 := HX5.bx.lt
        go_wp2_with fail
        clear l10_0 l10_1
        refine (dNext 9 HS.here (by omega) (by omega) (by omega)).mono ?_
        rintro e w17 ⟨vw, rfl, hvw0, hvw1, hs⟩
        have ho := hs.fr
        have Z17 := Lib.hid ho.size
        have Y19 := Lib.hid (And.intro Y18.out Z17.out); clear Y18 Z17
        replace HX1 := HX1.only ho (by have := Y19.out; omega)
        replace HX5 := HX5.only ho (by have := Y19.out; omega)
        replace HO := HO.only ho (by have := Y19.out; omega)
        replace HS := HS.next hs; clear ho hs
        have l11_0 := HX1.bx.lt
        have l11_1 := HX5.bx.lt
        go_wp2_with fail
        clear l11_0 l11_1
        refine Calls.name ?_
        intro U18 hU18
        have hb : Below w17.heap.size w17 U18 := by rw [hU18]; exact ((Below.refl _ _).alloc (Nat.le_refl _) _)
        have zz : Hid (w17.heap.size + 1 = U18.heap.size) := Lib.hid (by rw [hU18]; simp)
        have HX8 : Kept w17.heap.size (w17.heap.size + 1) (BoxK w17.heap.size 2 #[.int .i64 1, .int .i64 1, .int .i64 2, .int .i64 5, .int .i64 65535, .int .i64 0]) U18 := by rw [hU18]; exact Kept.box (Box.made_at _ _ _ rfl)
        replace HS := HS.below hb
        replace HX1 := HX1.below hb
        replace HX5 := HX5.below hb
        replace HO := HO.below hb
        clear hb
        have Z18 := zz; clear zz
        have Y20 := Lib.hid (And.intro Y19.out Z18.out); clear Y19 Z18
        clear hU18
        refine (dPick w17.heap.size 6 [1, 1, 2, 5, 65535, 0] HS.here (by omega) HX8.bx rfl rfl (by omega) (by omega) (by have := Y20.out; omega)).mono ?_
        rintro e w19 ⟨vc, rfl, hv, hs⟩
        have ho := hs.fr
        have Z19 := Lib.hid ho.size
        have Y21 := Lib.hid (And.intro Y20.out Z19.out); clear Y20 Z19
        clear HX8
        replace HX1 := HX1.only ho (by have := Y21.out; omega)
        replace HX5 := HX5.only ho (by have := Y21.out; omega)
        replace HO := HO.only ho (by have := Y21.out; omega)
        replace HS := HS.next hs; clear ho hs
        clear hv
        have l12_0 := HX1.bx.lt
        have l12_1 := HX5.bx.lt
        go_wp2_with fail
        clear l12_0 l12_1
        refine Calls.name ?_
        intro U20 hU20
        have hb : Below w19.heap.size w19 U20 := by rw [hU20]; exact ((Below.refl _ _).alloc (Nat.le_refl _) _)
        have zz : Hid (w19.heap.size + 1 = U20.heap.size) := Lib.hid (by rw [hU20]; simp)
        have HX9 : Kept w19.heap.size (w19.heap.size + 1) (BoxK w19.heap.size 101 #[.int .i64 1, .int .i64 (1 + vx), .int .i64 vw, .int .i64 vc]) U20 := by rw [hU20]; exact Kept.box (Box.made_at _ _ _ rfl)
        replace HS := HS.below hb
        replace HX1 := HX1.below hb
        replace HX5 := HX5.below hb
        replace HO := HO.below hb
        clear hb
        have Z20 := zz; clear zz
        have Y22 := Lib.hid (And.intro Y21.out Z20.out); clear Y21 Z20
        clear hU20
        refine (dChance 3 HS.here (by omega) (by omega)).mono ?_
        rintro e w21 ⟨vb, rfl, hs⟩
        have ho := hs.fr
        have Z21 := Lib.hid ho.size
        have Y23 := Lib.hid (And.intro Y22.out Z21.out); clear Y22 Z21
        replace HX1 := HX1.only ho (by have := Y23.out; omega)
        replace HX5 := HX5.only ho (by have := Y23.out; omega)
        replace HO := HO.only ho (by have := Y23.out; omega)
        replace HX9 := HX9.only ho (by have := Y23.out; omega)
        replace HS := HS.next hs; clear ho hs
        cases vb
        · have c13_0 := HX5.look 6
          have c13_1 := HX9.look 0
          have c13_2 := HX9.look 1
          have c13_3 := HX9.look 2
          have c13_4 := HX9.look 3
          have l13_0 := HX1.bx.lt
          have l13_1 := HX5.bx.lt
          have l13_2 := HX9.bx.lt
          go_wp2_with (first | (at_builtin; refine wpList_name ?_; intro U22 hU22; have hb : Below w21.heap.size w21 U22 := (by rw [hU22]; exact ((Below.refl _ _).alloc (Nat.le_refl _) _)); have zz : Hid (w21.heap.size + 1 = U22.heap.size) := Lib.hid (by rw [hU22]; simp); have HX10 : Kept w21.heap.size (w21.heap.size + 1) (BoxK w21.heap.size 101 #[.int .i64 1, .int .i64 (1 + vx), .int .i64 vw, .int .i64 vc]) U22 := (by rw [hU22]; exact Kept.box (Box.made_at _ _ _ rfl)); replace HS := HS.below hb; replace HX1 := HX1.below hb; replace HX5 := HX5.below hb; replace HO := HO.below hb; replace HX9 := HX9.below hb; clear hb; have Z22 := zz; clear zz; have Y24 := Lib.hid (And.intro Y23.out Z22.out); clear Y23 Z22; clear hU22; refine wpList_appF0 lcell_len lcell_one Try.underlying26 linkInfo rfl (by decide) (by decide) rfl (.tmp 73) (.tmp 75) rfl (B := w15.heap.size) rfl HO.ownF rfl (InF.of_box HX10.bx [⟨1, 1 + vx, vw, vc⟩] rfl rfl) (by omega) (by have := Y24.out; omega) ?_; intro A' c' w23 ho hg; have hq : Only w15.heap.size hi U22 w23 := Only.of_grown hg (fun r hr => by have := HO.ownF.block r hr; have := HO.lim r hr; omega); have Z23 := Lib.hid hq.size; have Y25 := Lib.hid (And.intro Y24.out Z23.out); clear Y24 Z23; clear HO; replace HS := HS.only hq (by have := Y25.out; omega); replace HX1 := HX1.only hq (by have := Y25.out; omega); replace HX5 := HX5.only hq (by have := Y25.out; omega); replace HX9 := HX9.only hq (by have := Y25.out; omega); replace HX10 := HX10.only hq (by have := Y25.out; omega); clear hq hg; skip; have HO2 := ho.kept rfl; clear ho; have c14_0 := HX5.look 6; have f14_0 := HX5.free 6; have l14_0 := HX1.bx.lt; have l14_1 := HX5.bx.lt; have l14_2 := HX9.bx.lt; have l14_3 := HX10.bx.lt))
          clear c13_0 c13_1 c13_2 c13_3 c13_4 l13_0 l13_1 l13_2 c14_0 f14_0 l14_0 l14_1 l14_2 l14_3
          obtain ⟨U24, hU24⟩ : ∃ W : World, W = (w23.setCell ⟨w6.heap.size, 6, none⟩ (.slice A' (n + 1) c')) := ⟨_, rfl⟩
          have ho : Only w6.heap.size (w6.heap.size + 1) w23 U24 := by rw [hU24]; exact ((Only.refl _ _ _).set (p := ⟨w6.heap.size, 6, none⟩) (Nat.le_refl _) (Nat.lt_succ_self _) _)
          replace HX5 : Kept w6.heap.size (w6.heap.size + 1) (BoxK w6.heap.size 29 #[.int .i64 va, .int .i64 vo, .int .i64 1, .int .i64 (1 + vd), .int .i64 (1 + vd), .int .i64 vs, .slice A' (n + 1) c', .slice none 0 0, .int .i64 0, .int .i64 0]) U24 := by rw [hU24]; exact Kept.box (HX5.bx.puts 6 (.slice A' (n + 1) c') (cs' := #[.int .i64 va, .int .i64 vo, .int .i64 1, .int .i64 (1 + vd), .int .i64 (1 + vd), .int .i64 vs, .slice A' (n + 1) c', .slice none 0 0, .int .i64 0, .int .i64 0]) rfl)
          replace HS := HS.only ho (by have := Y25.out; omega)
          replace HX1 := HX1.only ho (by have := Y25.out; omega)
          replace HX9 := HX9.only ho (by have := Y25.out; omega)
          replace HX10 := HX10.only ho (by have := Y25.out; omega)
          replace HO2 := HO2.only ho (by have := Y25.out; omega)
          have Z24 : Hid (U24.heap.size = w23.heap.size) := Lib.hid (by rw [hU24]; simp [World.setCell]); clear ho
          have Y26 := Lib.hid (And.intro Y25.out Z24.out); clear Y25 Z24
          subst hU24
          go_roundw
          case rel => exact ⟨p - 1, A', n + 1, c', _, _, _, by go_num, by omega, by omega, by omega, Lib.hid (by have := Y26.out; omega), HS, HX1, HX5, HO2⟩
          case measure => simp [intOf]; omega
        · have c13_0 := HX9.look 0
          have f13_0 := HX9.free 0
          have l13_0 := HX1.bx.lt
          have l13_1 := HX5.bx.lt
          have l13_2 := HX9.bx.lt
          go_wp2_with fail
          clear c13_0 f13_0 l13_0 l13_1 l13_2
          obtain ⟨U22, hU22⟩ : ∃ W : World, W = (w21.setCell ⟨w19.heap.size, 0, none⟩ (.int .i64 2)) := ⟨_, rfl⟩
          have ho : Only w19.heap.size (w19.heap.size + 1) w21 U22 := by rw [hU22]; exact ((Only.refl _ _ _).set (p := ⟨w19.heap.size, 0, none⟩) (Nat.le_refl _) (Nat.lt_succ_self _) _)
          replace HX9 : Kept w19.heap.size (w19.heap.size + 1) (BoxK w19.heap.size 101 #[.int .i64 2, .int .i64 (1 + vx), .int .i64 vw, .int .i64 vc]) U22 := by rw [hU22]; exact Kept.box (HX9.bx.puts 0 (.int .i64 2) (cs' := #[.int .i64 2, .int .i64 (1 + vx), .int .i64 vw, .int .i64 vc]) rfl)
          replace HS := HS.only ho (by have := Y23.out; omega)
          replace HX1 := HX1.only ho (by have := Y23.out; omega)
          replace HX5 := HX5.only ho (by have := Y23.out; omega)
          replace HO := HO.only ho (by have := Y23.out; omega)
          have Z22 : Hid (U22.heap.size = w21.heap.size) := Lib.hid (by rw [hU22]; simp [World.setCell]); clear ho
          have Y24 := Lib.hid (And.intro Y23.out Z22.out); clear Y23 Z22
          refine Calls.name ?_
          intro U23 hU23
          have kU23 : U23 = (U22.alloc (.cells #[.int .i64 11, .int .i64 12] 2)) := by rw [hU22]; exact hU23
          have hb : Below U22.heap.size U22 U23 := by rw [kU23]; exact ((Below.refl _ _).alloc (Nat.le_refl _) _)
          have zz : Hid (U22.heap.size + 1 = U23.heap.size) := Lib.hid (by rw [kU23]; simp)
          have HX10 : Kept w21.heap.size (w21.heap.size + 1) (BoxK w21.heap.size 2 #[.int .i64 11, .int .i64 12]) U23 := by rw [kU23]; exact Kept.box (Box.made_at _ _ _ (by rw [hU22]; simp [World.setCell]))
          replace HS := HS.below hb
          replace HX1 := HX1.below hb
          replace HX5 := HX5.below hb
          replace HO := HO.below hb
          replace HX9 := HX9.below hb
          clear hb
          have Z23 := zz; clear zz
          have Y25 := Lib.hid (And.intro Y24.out Z23.out); clear Y24 Z23
          clear kU23 hU23 hU22
          refine (dPick w21.heap.size 2 [11, 12] HS.here (by omega) HX10.bx rfl rfl (by omega) (by omega) (by have := Y25.out; omega)).mono ?_
          rintro e w24 ⟨vy, rfl, hv, hs⟩
          have ho := hs.fr
          have Z24 := Lib.hid ho.size
          have Y26 := Lib.hid (And.intro Y25.out Z24.out); clear Y25 Z24
          clear HX10
          replace HX1 := HX1.only ho (by have := Y26.out; omega)
          replace HX5 := HX5.only ho (by have := Y26.out; omega)
          replace HO := HO.only ho (by have := Y26.out; omega)
          replace HX9 := HX9.only ho (by have := Y26.out; omega)
          replace HS := HS.next hs; clear ho hs
          clear hv
          have c14_0 := HX5.look 6
          have c14_1 := HX9.look 0
          have c14_2 := HX9.look 1
          have c14_3 := HX9.look 2
          have c14_4 := HX9.look 3
          have f14_0 := HX9.free 1
          have l14_0 := HX1.bx.lt
          have l14_1 := HX5.bx.lt
          have l14_2 := HX9.bx.lt
          have n14_0_0 : ¬ w19.heap.size = w6.heap.size := (by have := Y26.out; omega)
          have m14_0_0 : ¬ w6.heap.size = w19.heap.size := (by have := Y26.out; omega)
          go_wp2_with (first | (at_builtin; obtain ⟨U25, hU25⟩ : ∃ W : World, W = (w24.setCell ⟨w19.heap.size, 1, none⟩ (.int .i64 vy)) := ⟨_, rfl⟩; have ho : Only w19.heap.size (w19.heap.size + 1) w24 U25 := (by rw [hU25]; exact ((Only.refl _ _ _).set (p := ⟨w19.heap.size, 1, none⟩) (Nat.le_refl _) (Nat.lt_succ_self _) _)); replace HX9 : Kept w19.heap.size (w19.heap.size + 1) (BoxK w19.heap.size 101 #[.int .i64 2, .int .i64 vy, .int .i64 vw, .int .i64 vc]) U25 := (by rw [hU25]; exact Kept.box (HX9.bx.puts 1 (.int .i64 vy) (cs' := #[.int .i64 2, .int .i64 vy, .int .i64 vw, .int .i64 vc]) rfl)); replace HS := HS.only ho (by have := Y26.out; omega); replace HX1 := HX1.only ho (by have := Y26.out; omega); replace HX5 := HX5.only ho (by have := Y26.out; omega); replace HO := HO.only ho (by have := Y26.out; omega); have Z25 : Hid (U25.heap.size = w24.heap.size) := Lib.hid (by rw [hU25]; simp [World.setCell]); clear ho; have Y27 := Lib.hid (And.intro Y26.out Z25.out); clear Y26 Z25; refine wpList_name ?_; intro U26 hU26; have kU26 : U26 = (U25.alloc (.cells #[.int .i64 2, .int .i64 vy, .int .i64 vw, .int .i64 vc] 101)) := (by rw [hU25]; exact hU26); have hb : Below U25.heap.size U25 U26 := (by rw [kU26]; exact ((Below.refl _ _).alloc (Nat.le_refl _) _)); have zz : Hid (U25.heap.size + 1 = U26.heap.size) := Lib.hid (by rw [kU26]; simp); have HX11 : Kept w24.heap.size (w24.heap.size + 1) (BoxK w24.heap.size 101 #[.int .i64 2, .int .i64 vy, .int .i64 vw, .int .i64 vc]) U26 := (by rw [kU26]; exact Kept.box (Box.made_at _ _ _ (by rw [hU25]; simp [World.setCell]))); replace HS := HS.below hb; replace HX1 := HX1.below hb; replace HX5 := HX5.below hb; replace HO := HO.below hb; replace HX9 := HX9.below hb; clear hb; have Z26 := zz; clear zz; have Y28 := Lib.hid (And.intro Y27.out Z26.out); clear Y27 Z26; clear kU26 hU26 hU25; refine wpList_appF0 lcell_len lcell_one Try.underlying26 linkInfo rfl (by decide) (by decide) rfl (.tmp 73) (.tmp 75) rfl (B := w15.heap.size) rfl HO.ownF rfl (InF.of_box HX11.bx [⟨2, vy, vw, vc⟩] rfl rfl) (by omega) (by have := Y28.out; omega) ?_; intro A' c' w27 ho hg; have hq : Only w15.heap.size hi U26 w27 := Only.of_grown hg (fun r hr => by have := HO.ownF.block r hr; have := HO.lim r hr; omega); have Z27 := Lib.hid hq.size; have Y29 := Lib.hid (And.intro Y28.out Z27.out); clear Y28 Z27; clear HO; replace HS := HS.only hq (by have := Y29.out; omega); replace HX1 := HX1.only hq (by have := Y29.out; omega); replace HX5 := HX5.only hq (by have := Y29.out; omega); replace HX9 := HX9.only hq (by have := Y29.out; omega); replace HX11 := HX11.only hq (by have := Y29.out; omega); clear hq hg; skip; have HO2 := ho.kept rfl; clear ho; have c15_0 := HX5.look 6; have f15_0 := HX5.free 6; have l15_0 := HX1.bx.lt; have l15_1 := HX5.bx.lt; have l15_2 := HX9.bx.lt; have l15_3 := HX11.bx.lt))
          clear c14_0 c14_1 c14_2 c14_3 c14_4 f14_0 l14_0 l14_1 l14_2 n14_0_0 m14_0_0 c15_0 f15_0 l15_0 l15_1 l15_2 l15_3
          obtain ⟨U28, hU28⟩ : ∃ W : World, W = (w27.setCell ⟨w6.heap.size, 6, none⟩ (.slice A' (n + 1) c')) := ⟨_, rfl⟩
          have ho : Only w6.heap.size (w6.heap.size + 1) w27 U28 := by rw [hU28]; exact ((Only.refl _ _ _).set (p := ⟨w6.heap.size, 6, none⟩) (Nat.le_refl _) (Nat.lt_succ_self _) _)
          replace HX5 : Kept w6.heap.size (w6.heap.size + 1) (BoxK w6.heap.size 29 #[.int .i64 va, .int .i64 vo, .int .i64 1, .int .i64 (1 + vd), .int .i64 (1 + vd), .int .i64 vs, .slice A' (n + 1) c', .slice none 0 0, .int .i64 0, .int .i64 0]) U28 := by rw [hU28]; exact Kept.box (HX5.bx.puts 6 (.slice A' (n + 1) c') (cs' := #[.int .i64 va, .int .i64 vo, .int .i64 1, .int .i64 (1 + vd), .int .i64 (1 + vd), .int .i64 vs, .slice A' (n + 1) c', .slice none 0 0, .int .i64 0, .int .i64 0]) rfl)
          replace HS := HS.only ho (by have := Y29.out; omega)
          replace HX1 := HX1.only ho (by have := Y29.out; omega)
          replace HX9 := HX9.only ho (by have := Y29.out; omega)
          replace HX11 := HX11.only ho (by have := Y29.out; omega)
          replace HO2 := HO2.only ho (by have := Y29.out; omega)
          have Z28 : Hid (U28.heap.size = w27.heap.size) := Lib.hid (by rw [hU28]; simp [World.setCell]); clear ho
          have Y30 := Lib.hid (And.intro Y29.out Z28.out); clear Y29 Z28
          subst hU28
          go_roundw
          case rel => exact ⟨p - 1, A', n + 1, c', _, _, _, by go_num, by omega, by omega, by omega, Lib.hid (by have := Y30.out; omega), HS, HX1, HX5, HO2⟩
          case measure => simp [intOf]; omega
      · have c9_0 := HX1.look 0
        have c9_1 := HX1.look 1
        have c9_2 := HX1.look 2
        have c9_3 := HX1.look 3
        have c9_4 := HX1.look 4
        have c9_5 := HX1.look 5
        have c9_6 := HX1.look 6
        have c9_7 := HX1.look 7
        have c9_8 := HX1.look 8
        have c9_9 := HX1.look 9
        have c9_10 := HX5.look 0
        have c9_11 := HX5.look 1
        have c9_12 := HX5.look 2
        have c9_13 := HX5.look 3
        have c9_14 := HX5.look 4
        have c9_15 := HX5.look 5
        have c9_16 := HX5.look 6
        have c9_17 := HX5.look 7
        have c9_18 := HX5.look 8
        have c9_19 := HX5.look 9
        have f9_0 := HX1.free 0
        have f9_1 := HX1.free 1
        have f9_2 := HX1.free 2
        have f9_3 := HX1.free 3
        have f9_4 := HX1.free 4
        have f9_5 := HX1.free 5
        have f9_6 := HX1.free 6
        have f9_7 := HX1.free 7
        have f9_8 := HX1.free 8
        have f9_9 := HX1.free 9
        have l9_0 := HX1.bx.lt
        have l9_1 := HX5.bx.lt
        have n9_0_1 : ¬ w.heap.size = w6.heap.size := (by have := Y17.out; omega)
        have m9_0_1 : ¬ w6.heap.size = w.heap.size := (by have := Y17.out; omega)
        go_wp2
        clear c9_0 c9_1 c9_2 c9_3 c9_4 c9_5 c9_6 c9_7 c9_8 c9_9 c9_10 c9_11 c9_12 c9_13 c9_14 c9_15 c9_16 c9_17 c9_18 c9_19 f9_0 f9_1 f9_2 f9_3 f9_4 f9_5 f9_6 f9_7 f9_8 f9_9 l9_0 l9_1 n9_0_1 m9_0_1
        obtain ⟨U16, hU16⟩ : ∃ W : World, W = ((((((((((wr.setCell ⟨w.heap.size, 0, none⟩ (.int .i64 va)).setCell ⟨w.heap.size, 1, none⟩ (.int .i64 vo)).setCell ⟨w.heap.size, 2, none⟩ (.int .i64 1)).setCell ⟨w.heap.size, 3, none⟩ (.int .i64 (1 + vd))).setCell ⟨w.heap.size, 4, none⟩ (.int .i64 (1 + vd))).setCell ⟨w.heap.size, 5, none⟩ (.int .i64 vs)).setCell ⟨w.heap.size, 6, none⟩ (.slice A n c)).setCell ⟨w.heap.size, 7, none⟩ (.slice none 0 0)).setCell ⟨w.heap.size, 8, none⟩ (.int .i64 0)).setCell ⟨w.heap.size, 9, none⟩ (.int .i64 0)) := ⟨_, rfl⟩
        have ho : Only w.heap.size (w.heap.size + 1) wr U16 := by rw [hU16]; exact (((((((((((Only.refl _ _ _).set (p := ⟨w.heap.size, 0, none⟩) (Nat.le_refl _) (Nat.lt_succ_self _) _).set (p := ⟨w.heap.size, 1, none⟩) (Nat.le_refl _) (Nat.lt_succ_self _) _).set (p := ⟨w.heap.size, 2, none⟩) (Nat.le_refl _) (Nat.lt_succ_self _) _).set (p := ⟨w.heap.size, 3, none⟩) (Nat.le_refl _) (Nat.lt_succ_self _) _).set (p := ⟨w.heap.size, 4, none⟩) (Nat.le_refl _) (Nat.lt_succ_self _) _).set (p := ⟨w.heap.size, 5, none⟩) (Nat.le_refl _) (Nat.lt_succ_self _) _).set (p := ⟨w.heap.size, 6, none⟩) (Nat.le_refl _) (Nat.lt_succ_self _) _).set (p := ⟨w.heap.size, 7, none⟩) (Nat.le_refl _) (Nat.lt_succ_self _) _).set (p := ⟨w.heap.size, 8, none⟩) (Nat.le_refl _) (Nat.lt_succ_self _) _).set (p := ⟨w.heap.size, 9, none⟩) (Nat.le_refl _) (Nat.lt_succ_self _) _)
        replace HX1 : Kept w.heap.size (w.heap.size + 1) (BoxK w.heap.size 29 #[.int .i64 va, .int .i64 vo, .int .i64 1, .int .i64 (1 + vd), .int .i64 (1 + vd), .int .i64 vs, .slice A n c, .slice none 0 0, .int .i64 0, .int .i64 0]) U16 := by rw [hU16]; exact Kept.box ((((((((((HX1.bx.puts 0 (.int .i64 va) (cs' := #[.int .i64 va, .int .i64 0, .int .i64 0, .int .i64 0, .int .i64 0, .int .i64 0, .slice none 0 0, .slice none 0 0, .int .i64 0, .int .i64 0]) rfl).puts 1 (.int .i64 vo) (cs' := #[.int .i64 va, .int .i64 vo, .int .i64 0, .int .i64 0, .int .i64 0, .int .i64 0, .slice none 0 0, .slice none 0 0, .int .i64 0, .int .i64 0]) rfl).puts 2 (.int .i64 1) (cs' := #[.int .i64 va, .int .i64 vo, .int .i64 1, .int .i64 0, .int .i64 0, .int .i64 0, .slice none 0 0, .slice none 0 0, .int .i64 0, .int .i64 0]) rfl).puts 3 (.int .i64 (1 + vd)) (cs' := #[.int .i64 va, .int .i64 vo, .int .i64 1, .int .i64 (1 + vd), .int .i64 0, .int .i64 0, .slice none 0 0, .slice none 0 0, .int .i64 0, .int .i64 0]) rfl).puts 4 (.int .i64 (1 + vd)) (cs' := #[.int .i64 va, .int .i64 vo, .int .i64 1, .int .i64 (1 + vd), .int .i64 (1 + vd), .int .i64 0, .slice none 0 0, .slice none 0 0, .int .i64 0, .int .i64 0]) rfl).puts 5 (.int .i64 vs) (cs' := #[.int .i64 va, .int .i64 vo, .int .i64 1, .int .i64 (1 + vd), .int .i64 (1 + vd), .int .i64 vs, .slice none 0 0, .slice none 0 0, .int .i64 0, .int .i64 0]) rfl).puts 6 (.slice A n c) (cs' := #[.int .i64 va, .int .i64 vo, .int .i64 1, .int .i64 (1 + vd), .int .i64 (1 + vd), .int .i64 vs, .slice A n c, .slice none 0 0, .int .i64 0, .int .i64 0]) rfl).puts 7 (.slice none 0 0) (cs' := #[.int .i64 va, .int .i64 vo, .int .i64 1, .int .i64 (1 + vd), .int .i64 (1 + vd), .int .i64 vs, .slice A n c, .slice none 0 0, .int .i64 0, .int .i64 0]) rfl).puts 8 (.int .i64 0) (cs' := #[.int .i64 va, .int .i64 vo, .int .i64 1, .int .i64 (1 + vd), .int .i64 (1 + vd), .int .i64 vs, .slice A n c, .slice none 0 0, .int .i64 0, .int .i64 0]) rfl).puts 9 (.int .i64 0) (cs' := #[.int .i64 va, .int .i64 vo, .int .i64 1, .int .i64 (1 + vd), .int .i64 (1 + vd), .int .i64 vs, .slice A n c, .slice none 0 0, .int .i64 0, .int .i64 0]) rfl)
        replace HS := HS.only ho (by have := Y17.out; omega)
        replace HX5 := HX5.only ho (by have := Y17.out; omega)
        replace HO := HO.only ho (by have := Y17.out; omega)
        have Z16 : Hid (U16.heap.size = wr.heap.size) := Lib.hid (by rw [hU16]; simp [World.setCell]); clear ho
        have Y18 := Lib.hid (And.intro Y17.out Z16.out); clear Y17 Z16
        have q_0 := HX1.look 0
        have q_1 := HX1.look 1
        have q_2 := HX1.look 2
        have q_3 := HX1.look 3
        have q_4 := HX1.look 4
        have q_5 := HX1.look 5
        have q_6 := HX1.look 6
        have q_7 := HX1.look 7
        have q_8 := HX1.look 8
        have q_9 := HX1.look 9
        have fin : ∀ e, e = Ending.returned (.agg (lsaCells ⟨va, vo, 1, 1 + vd, 1 + vd, vs, ys, [], 0, 0⟩ A none n c 0 0)) → (DrawOut w g A0 n0 c0 cs (K + 40) e U16) := by rintro _ rfl; exact ⟨_, _, _, _, _, _, _, rfl, ⟨(OwnFK.widen HO (by have := Y18.out; omega) (by have := Y18.out; omega) (Nat.le_refl _)), (OwnFK.nil_ 2 1 icell _ (Nat.le_refl _)), .inl ⟨rfl, rfl, rfl, rfl⟩⟩, by omega, by omega, HS.more (by omega)⟩
        subst hU16
        exact bodyPost_ret (v := .agg (lsaCells ⟨va, vo, 1, 1 + vd, 1 + vd, vs, ys, [], 0, 0⟩ A none n c 0 0)) (by simp [results, Try.results58, go_sem, lsaCells, q_0, q_1, q_2, q_3, q_4, q_5, q_6, q_7, q_8, q_9]) rfl (fin _ rfl)
  · have c5_0 := HX5.look 2
    have f5_0 := HX5.free 2
    have l5_0 := HX1.bx.lt
    have l5_1 := HX5.bx.lt
    go_wp2_with fail
    clear c5_0 f5_0 l5_0 l5_1
    refine Calls.name ?_
    intro U9 hU9
    have ho : Only w6.heap.size (w6.heap.size + 1) w8 U9 := by rw [hU9]; exact ((Only.refl _ _ _).set (p := ⟨w6.heap.size, 2, none⟩) (Nat.le_refl _) (Nat.lt_succ_self _) _)
    replace HX5 : Kept w6.heap.size (w6.heap.size + 1) (BoxK w6.heap.size 29 #[.int .i64 va, .int .i64 vo, .int .i64 2, .int .i64 0, .int .i64 0, .int .i64 vs, .slice none 0 0, .slice none 0 0, .int .i64 0, .int .i64 0]) U9 := by rw [hU9]; exact Kept.box (HX5.bx.puts 2 (.int .i64 2) (cs' := #[.int .i64 va, .int .i64 vo, .int .i64 2, .int .i64 0, .int .i64 0, .int .i64 vs, .slice none 0 0, .slice none 0 0, .int .i64 0, .int .i64 0]) rfl)
    replace HS := HS.only ho (by have := Y8.out; omega)
    replace HX1 := HX1.only ho (by have := Y8.out; omega)
    have Z9 : Hid (U9.heap.size = w8.heap.size) := Lib.hid (by rw [hU9]; simp [World.setCell]); clear ho
    have Y9 := Lib.hid (And.intro Y8.out Z9.out); clear Y8 Z9
    clear hU9
    refine (dNext 4 HS.here (by omega) (by omega) (by omega)).mono ?_
    rintro e w10 ⟨vd, rfl, hvd0, hvd1, hs⟩
    have ho := hs.fr
    have Z10 := Lib.hid ho.size
    have Y10 := Lib.hid (And.intro Y9.out Z10.out); clear Y9 Z10
    replace HX1 := HX1.only ho (by have := Y10.out; omega)
    replace HX5 := HX5.only ho (by have := Y10.out; omega)
    replace HS := HS.next hs; clear ho hs
    have c6_0 := HX5.look 4
    have f6_0 := HX5.free 4
    have l6_0 := HX1.bx.lt
    have l6_1 := HX5.bx.lt
    go_wp2_with fail
    clear c6_0 f6_0 l6_0 l6_1
    obtain ⟨U11, hU11⟩ : ∃ W : World, W = (w10.setCell ⟨w6.heap.size, 4, none⟩ (.int .i64 (1 + vd))) := ⟨_, rfl⟩
    have ho : Only w6.heap.size (w6.heap.size + 1) w10 U11 := by rw [hU11]; exact ((Only.refl _ _ _).set (p := ⟨w6.heap.size, 4, none⟩) (Nat.le_refl _) (Nat.lt_succ_self _) _)
    replace HX5 : Kept w6.heap.size (w6.heap.size + 1) (BoxK w6.heap.size 29 #[.int .i64 va, .int .i64 vo, .int .i64 2, .int .i64 0, .int .i64 (1 + vd), .int .i64 vs, .slice none 0 0, .slice none 0 0, .int .i64 0, .int .i64 0]) U11 := by rw [hU11]; exact Kept.box (HX5.bx.puts 4 (.int .i64 (1 + vd)) (cs' := #[.int .i64 va, .int .i64 vo, .int .i64 2, .int .i64 0, .int .i64 (1 + vd), .int .i64 vs, .slice none 0 0, .slice none 0 0, .int .i64 0, .int .i64 0]) rfl)
    replace HS := HS.only ho (by have := Y10.out; omega)
    replace HX1 := HX1.only ho (by have := Y10.out; omega)
    have Z11 : Hid (U11.heap.size = w10.heap.size) := Lib.hid (by rw [hU11]; simp [World.setCell]); clear ho
    have Y11 := Lib.hid (And.intro Y10.out Z11.out); clear Y10 Z11
    refine Calls.name ?_
    intro U12 hU12
    have kU12 : U12 = (U11.alloc (.cells #[.int .i64 11, .int .i64 12, .int .i64 4294967295] 2)) := by rw [hU11]; exact hU12
    have hb : Below U11.heap.size U11 U12 := by rw [kU12]; exact ((Below.refl _ _).alloc (Nat.le_refl _) _)
    have zz : Hid (U11.heap.size + 1 = U12.heap.size) := Lib.hid (by rw [kU12]; simp)
    have HX7 : Kept w10.heap.size (w10.heap.size + 1) (BoxK w10.heap.size 2 #[.int .i64 11, .int .i64 12, .int .i64 4294967295]) U12 := by rw [kU12]; exact Kept.box (Box.made_at _ _ _ (by rw [hU11]; simp [World.setCell]))
    replace HS := HS.below hb
    replace HX1 := HX1.below hb
    replace HX5 := HX5.below hb
    clear hb
    have Z12 := zz; clear zz
    have Y12 := Lib.hid (And.intro Y11.out Z12.out); clear Y11 Z12
    clear kU12 hU12 hU11
    refine (dPick w10.heap.size 3 [11, 12, 4294967295] HS.here (by omega) HX7.bx rfl rfl (by omega) (by omega) (by have := Y12.out; omega)).mono ?_
    rintro e w13 ⟨vi, rfl, hv, hs⟩
    have ho := hs.fr
    have Z13 := Lib.hid ho.size
    have Y13 := Lib.hid (And.intro Y12.out Z13.out); clear Y12 Z13
    clear HX7
    replace HX1 := HX1.only ho (by have := Y13.out; omega)
    replace HX5 := HX5.only ho (by have := Y13.out; omega)
    replace HS := HS.next hs; clear ho hs
    clear hv
    have c7_0 := HX5.look 2
    have c7_1 := HX5.look 3
    have f7_0 := HX5.free 3
    have l7_0 := HX1.bx.lt
    have l7_1 := HX5.bx.lt
    go_wp2_with fail
    clear c7_0 c7_1 f7_0 l7_0 l7_1
    obtain ⟨U14, hU14⟩ : ∃ W : World, W = (w13.setCell ⟨w6.heap.size, 3, none⟩ (.int .i64 vi)) := ⟨_, rfl⟩
    have ho : Only w6.heap.size (w6.heap.size + 1) w13 U14 := by rw [hU14]; exact ((Only.refl _ _ _).set (p := ⟨w6.heap.size, 3, none⟩) (Nat.le_refl _) (Nat.lt_succ_self _) _)
    replace HX5 : Kept w6.heap.size (w6.heap.size + 1) (BoxK w6.heap.size 29 #[.int .i64 va, .int .i64 vo, .int .i64 2, .int .i64 vi, .int .i64 (1 + vd), .int .i64 vs, .slice none 0 0, .slice none 0 0, .int .i64 0, .int .i64 0]) U14 := by rw [hU14]; exact Kept.box (HX5.bx.puts 3 (.int .i64 vi) (cs' := #[.int .i64 va, .int .i64 vo, .int .i64 2, .int .i64 vi, .int .i64 (1 + vd), .int .i64 vs, .slice none 0 0, .slice none 0 0, .int .i64 0, .int .i64 0]) rfl)
    replace HS := HS.only ho (by have := Y13.out; omega)
    replace HX1 := HX1.only ho (by have := Y13.out; omega)
    have Z14 : Hid (U14.heap.size = w13.heap.size) := Lib.hid (by rw [hU14]; simp [World.setCell]); clear ho
    have Y14 := Lib.hid (And.intro Y13.out Z14.out); clear Y13 Z14
    refine Calls.name ?_
    intro U15 hU15
    have kU15 : U15 = (U14.alloc (.cells #[.int .i64 0, .int .i64 255, .int .i64 4294967295] 2)) := by rw [hU14]; exact hU15
    have hb : Below U14.heap.size U14 U15 := by rw [kU15]; exact ((Below.refl _ _).alloc (Nat.le_refl _) _)
    have zz : Hid (U14.heap.size + 1 = U15.heap.size) := Lib.hid (by rw [kU15]; simp)
    have HX8 : Kept w13.heap.size (w13.heap.size + 1) (BoxK w13.heap.size 2 #[.int .i64 0, .int .i64 255, .int .i64 4294967295]) U15 := by rw [kU15]; exact Kept.box (Box.made_at _ _ _ (by rw [hU14]; simp [World.setCell]))
    replace HS := HS.below hb
    replace HX1 := HX1.below hb
    replace HX5 := HX5.below hb
    clear hb
    have Z15 := zz; clear zz
    have Y15 := Lib.hid (And.intro Y14.out Z15.out); clear Y14 Z15
    clear kU15 hU15 hU14
    refine (dPick w13.heap.size 3 [0, 255, 4294967295] HS.here (by omega) HX8.bx rfl rfl (by omega) (by omega) (by have := Y15.out; omega)).mono ?_
    rintro e w16 ⟨vm, rfl, hv, hs⟩
    have ho := hs.fr
    have Z16 := Lib.hid ho.size
    have Y16 := Lib.hid (And.intro Y15.out Z16.out); clear Y15 Z16
    clear HX8
    replace HX1 := HX1.only ho (by have := Y16.out; omega)
    replace HX5 := HX5.only ho (by have := Y16.out; omega)
    replace HS := HS.next hs; clear ho hs
    clear hv
    have c8_0 := HX5.look 8
    have f8_0 := HX5.free 8
    have l8_0 := HX1.bx.lt
    have l8_1 := HX5.bx.lt
    go_wp2_with fail
    clear c8_0 f8_0 l8_0 l8_1
    refine Code.wp_name ?_
    intro U17 hU17
    have ho : Only w6.heap.size (w6.heap.size + 1) w16 U17 := by rw [hU17]; exact ((Only.refl _ _ _).set (p := ⟨w6.heap.size, 8, none⟩) (Nat.le_refl _) (Nat.lt_succ_self _) _)
    replace HX5 : Kept w6.heap.size (w6.heap.size + 1) (BoxK w6.heap.size 29 #[.int .i64 va, .int .i64 vo, .int .i64 2, .int .i64 vi, .int .i64 (1 + vd), .int .i64 vs, .slice none 0 0, .slice none 0 0, .int .i64 vm, .int .i64 0]) U17 := by rw [hU17]; exact Kept.box (HX5.bx.puts 8 (.int .i64 vm) (cs' := #[.int .i64 va, .int .i64 vo, .int .i64 2, .int .i64 vi, .int .i64 (1 + vd), .int .i64 vs, .slice none 0 0, .slice none 0 0, .int .i64 vm, .int .i64 0]) rfl)
    replace HS := HS.only ho (by have := Y16.out; omega)
    replace HX1 := HX1.only ho (by have := Y16.out; omega)
    have Z17 : Hid (U17.heap.size = w16.heap.size) := Lib.hid (by rw [hU17]; simp [World.setCell]); clear ho
    have Y17 := Lib.hid (And.intro Y16.out Z17.out); clear Y16 Z17
    clear hU17
    go_loopw [6] (fun t wr => ∃ (p : Int) (A : Option Addr) (n c : Nat) (ys : List Int) (K2 hi : Nat), t = .int .i64 p ∧ 1 ≤ p ∧ p ≤ 5 ∧ (n : Int) + 1 ≤ p ∧ (K2 : Int) + 5 * (5 - p) ≤ K + 30 ∧ Hid (U17.heap.size ≤ wr.heap.size) ∧ Dr w g A0 n0 c0 cs K2 wr ∧ Kept w.heap.size (w.heap.size + 1) (BoxK w.heap.size 29 #[.int .i64 0, .int .i64 0, .int .i64 0, .int .i64 0, .int .i64 0, .int .i64 0, .slice none 0 0, .slice none 0 0, .int .i64 0, .int .i64 0]) wr ∧ Kept w6.heap.size (w6.heap.size + 1) (BoxK w6.heap.size 29 #[.int .i64 va, .int .i64 vo, .int .i64 2, .int .i64 vi, .int .i64 (1 + vd), .int .i64 vs, .slice none 0 0, .slice A n c, .int .i64 vm, .int .i64 0]) wr ∧ Kept (U17.heap.size) hi (OwnFK 2 1 icell (U17.heap.size) hi A n c ys) wr) (fun t _ => (5 - intOf t).toNat)
    case atStart => exact ⟨1, none, 0, 0, [], _, U17.heap.size, rfl, by omega, by omega, by omega, by omega, Lib.hid (Nat.le_refl _), HS, HX1, HX5, OwnFK.nil_ _ _ _ _ (Nat.le_refl _)⟩
    case round =>
      clear HS HX1 HX5
      obtain ⟨p, A, n, c, ys, K2, hi, rfl, hp0, hp1, hp2, hp3, Zw, HS, HX1, HX5, HO⟩ := hrel
      have Y18 := Lib.hid (And.intro Y17.out Zw.out); clear Y17 Zw
      have Zo := Lib.hid HO.le
      have Y19 := Lib.hid (And.intro Y18.out Zo.out); clear Y18 Zo
      by_cases hp : p < 5
      · by_cases hq : p = 1 + vd
        · have hq' : (p == 1 + vd) = true := by rw [beq_iff_eq]; exact hq
          clear hq
          have c9_0 := HX5.look 4
          have c9_1 := HX5.look 7
          have l9_0 := HX1.bx.lt
          have l9_1 := HX5.bx.lt
          go_wp2_with (first | (at_builtin; refine wpList_name ?_; intro U18 hU18; have hb : Below wr.heap.size wr U18 := (by rw [hU18]; exact ((Below.refl _ _).alloc (Nat.le_refl _) _)); have zz : Hid (wr.heap.size + 1 = U18.heap.size) := Lib.hid (by rw [hU18]; simp); have HX9 : Kept wr.heap.size (wr.heap.size + 1) (BoxK wr.heap.size 2 #[.int .i64 p]) U18 := (by rw [hU18]; exact Kept.box (Box.made_at _ _ _ rfl)); replace HS := HS.below hb; replace HX1 := HX1.below hb; replace HX5 := HX5.below hb; replace HO := HO.below hb; clear hb; have Z18 := zz; clear zz; have Y20 := Lib.hid (And.intro Y19.out Z18.out); clear Y19 Z18; clear hU18; refine wpList_appF0 icell_len icell_one Try.underlying27 intInfo rfl (by decide) (by decide) rfl (.tmp 98) (.tmp 100) rfl (B := U17.heap.size) rfl HO.ownF rfl (InF.of_box HX9.bx [p] rfl rfl) (by omega) (by have := Y20.out; omega) ?_; intro A' c' w19 ho hg; have hq : Only U17.heap.size hi U18 w19 := Only.of_grown hg (fun r hr => by have := HO.ownF.block r hr; have := HO.lim r hr; omega); have Z19 := Lib.hid hq.size; have Y21 := Lib.hid (And.intro Y20.out Z19.out); clear Y20 Z19; clear HO; replace HS := HS.only hq (by have := Y21.out; omega); replace HX1 := HX1.only hq (by have := Y21.out; omega); replace HX5 := HX5.only hq (by have := Y21.out; omega); replace HX9 := HX9.only hq (by have := Y21.out; omega); clear hq hg; skip; have HO2 := ho.kept rfl; clear ho; have c10_0 := HX5.look 7; have f10_0 := HX5.free 7; have l10_0 := HX1.bx.lt; have l10_1 := HX5.bx.lt; have l10_2 := HX9.bx.lt))
          clear c9_0 c9_1 l9_0 l9_1 c10_0 f10_0 l10_0 l10_1 l10_2
          obtain ⟨U20, hU20⟩ : ∃ W : World, W = (w19.setCell ⟨w6.heap.size, 7, none⟩ (.slice A' (n + 1) c')) := ⟨_, rfl⟩
          have ho : Only w6.heap.size (w6.heap.size + 1) w19 U20 := by rw [hU20]; exact ((Only.refl _ _ _).set (p := ⟨w6.heap.size, 7, none⟩) (Nat.le_refl _) (Nat.lt_succ_self _) _)
          replace HX5 : Kept w6.heap.size (w6.heap.size + 1) (BoxK w6.heap.size 29 #[.int .i64 va, .int .i64 vo, .int .i64 2, .int .i64 vi, .int .i64 (1 + vd), .int .i64 vs, .slice none 0 0, .slice A' (n + 1) c', .int .i64 vm, .int .i64 0]) U20 := by rw [hU20]; exact Kept.box (HX5.bx.puts 7 (.slice A' (n + 1) c') (cs' := #[.int .i64 va, .int .i64 vo, .int .i64 2, .int .i64 vi, .int .i64 (1 + vd), .int .i64 vs, .slice none 0 0, .slice A' (n + 1) c', .int .i64 vm, .int .i64 0]) rfl)
          replace HS := HS.only ho (by have := Y21.out; omega)
          replace HX1 := HX1.only ho (by have := Y21.out; omega)
          replace HX9 := HX9.only ho (by have := Y21.out; omega)
          replace HO2 := HO2.only ho (by have := Y21.out; omega)
          have Z20 : Hid (U20.heap.size = w19.heap.size) := Lib.hid (by rw [hU20]; simp [World.setCell]); clear ho
          have Y22 := Lib.hid (And.intro Y21.out Z20.out); clear Y21 Z20
          subst hU20
          go_roundw
          case rel => exact ⟨p + 1, A', n + 1, c', _, _, _, by go_num, by omega, by omega, by omega, by omega, Lib.hid (by have := Y22.out; omega), HS, HX1, HX5, HO2⟩
          case measure => simp [intOf]; omega
        · have hq' : (p == 1 + vd) = false := by rw [beq_eq_false_iff_ne]; exact hq
          clear hq
          have c9_0 := HX5.look 4
          have l9_0 := HX1.bx.lt
          have l9_1 := HX5.bx.lt
          go_wp2_with fail
          clear c9_0 l9_0 l9_1
          refine (dChance 2 HS.here (by omega) (by omega)).mono ?_
          rintro e w18 ⟨vb, rfl, hs⟩
          have ho := hs.fr
          have Z18 := Lib.hid ho.size
          have Y20 := Lib.hid (And.intro Y19.out Z18.out); clear Y19 Z18
          replace HX1 := HX1.only ho (by have := Y20.out; omega)
          replace HX5 := HX5.only ho (by have := Y20.out; omega)
          replace HO := HO.only ho (by have := Y20.out; omega)
          replace HS := HS.next hs; clear ho hs
          cases vb
          · have l10_0 := HX1.bx.lt
            have l10_1 := HX5.bx.lt
            go_wp2
            clear l10_0 l10_1
            go_roundw
            case rel => exact ⟨p + 1, A, n, c, ys, _, hi, by go_num, by omega, by omega, by omega, by omega, Lib.hid (by have := Y20.out; omega), HS, HX1, HX5, HO⟩
            case measure => simp [intOf]; omega
          · have c10_0 := HX5.look 7
            have l10_0 := HX1.bx.lt
            have l10_1 := HX5.bx.lt
            go_wp2_with (first | (at_builtin; refine wpList_name ?_; intro U19 hU19; have hb : Below w18.heap.size w18 U19 := (by rw [hU19]; exact ((Below.refl _ _).alloc (Nat.le_refl _) _)); have zz : Hid (w18.heap.size + 1 = U19.heap.size) := Lib.hid (by rw [hU19]; simp); have HX9 : Kept w18.heap.size (w18.heap.size + 1) (BoxK w18.heap.size 2 #[.int .i64 p]) U19 := (by rw [hU19]; exact Kept.box (Box.made_at _ _ _ rfl)); replace HS := HS.below hb; replace HX1 := HX1.below hb; replace HX5 := HX5.below hb; replace HO := HO.below hb; clear hb; have Z19 := zz; clear zz; have Y21 := Lib.hid (And.intro Y20.out Z19.out); clear Y20 Z19; clear hU19; refine wpList_appF0 icell_len icell_one Try.underlying27 intInfo rfl (by decide) (by decide) rfl (.tmp 98) (.tmp 100) rfl (B := U17.heap.size) rfl HO.ownF rfl (InF.of_box HX9.bx [p] rfl rfl) (by omega) (by have := Y21.out; omega) ?_; intro A' c' w20 ho hg; have hq : Only U17.heap.size hi U19 w20 := Only.of_grown hg (fun r hr => by have := HO.ownF.block r hr; have := HO.lim r hr; omega); have Z20 := Lib.hid hq.size; have Y22 := Lib.hid (And.intro Y21.out Z20.out); clear Y21 Z20; clear HO; replace HS := HS.only hq (by have := Y22.out; omega); replace HX1 := HX1.only hq (by have := Y22.out; omega); replace HX5 := HX5.only hq (by have := Y22.out; omega); replace HX9 := HX9.only hq (by have := Y22.out; omega); clear hq hg; skip; have HO2 := ho.kept rfl; clear ho; have c11_0 := HX5.look 7; have f11_0 := HX5.free 7; have l11_0 := HX1.bx.lt; have l11_1 := HX5.bx.lt; have l11_2 := HX9.bx.lt))
            clear c10_0 l10_0 l10_1 c11_0 f11_0 l11_0 l11_1 l11_2
            obtain ⟨U21, hU21⟩ : ∃ W : World, W = (w20.setCell ⟨w6.heap.size, 7, none⟩ (.slice A' (n + 1) c')) := ⟨_, rfl⟩
            have ho : Only w6.heap.size (w6.heap.size + 1) w20 U21 := by rw [hU21]; exact ((Only.refl _ _ _).set (p := ⟨w6.heap.size, 7, none⟩) (Nat.le_refl _) (Nat.lt_succ_self _) _)
            replace HX5 : Kept w6.heap.size (w6.heap.size + 1) (BoxK w6.heap.size 29 #[.int .i64 va, .int .i64 vo, .int .i64 2, .int .i64 vi, .int .i64 (1 + vd), .int .i64 vs, .slice none 0 0, .slice A' (n + 1) c', .int .i64 vm, .int .i64 0]) U21 := by rw [hU21]; exact Kept.box (HX5.bx.puts 7 (.slice A' (n + 1) c') (cs' := #[.int .i64 va, .int .i64 vo, .int .i64 2, .int .i64 vi, .int .i64 (1 + vd), .int .i64 vs, .slice none 0 0, .slice A' (n + 1) c', .int .i64 vm, .int .i64 0]) rfl)
            replace HS := HS.only ho (by have := Y22.out; omega)
            replace HX1 := HX1.only ho (by have := Y22.out; omega)
            replace HX9 := HX9.only ho (by have := Y22.out; omega)
            replace HO2 := HO2.only ho (by have := Y22.out; omega)
            have Z21 : Hid (U21.heap.size = w20.heap.size) := Lib.hid (by rw [hU21]; simp [World.setCell]); clear ho
            have Y23 := Lib.hid (And.intro Y22.out Z21.out); clear Y22 Z21
            subst hU21
            go_roundw
            case rel => exact ⟨p + 1, A', n + 1, c', _, _, _, by go_num, by omega, by omega, by omega, by omega, Lib.hid (by have := Y23.out; omega), HS, HX1, HX5, HO2⟩
            case measure => simp [intOf]; omega
      · have c9_0 := HX1.look 0
        have c9_1 := HX1.look 1
        have c9_2 := HX1.look 2
        have c9_3 := HX1.look 3
        have c9_4 := HX1.look 4
        have c9_5 := HX1.look 5
        have c9_6 := HX1.look 6
        have c9_7 := HX1.look 7
        have c9_8 := HX1.look 8
        have c9_9 := HX1.look 9
        have c9_10 := HX5.look 0
        have c9_11 := HX5.look 1
        have c9_12 := HX5.look 2
        have c9_13 := HX5.look 3
        have c9_14 := HX5.look 4
        have c9_15 := HX5.look 5
        have c9_16 := HX5.look 6
        have c9_17 := HX5.look 7
        have c9_18 := HX5.look 8
        have c9_19 := HX5.look 9
        have f9_0 := HX1.free 0
        have f9_1 := HX1.free 1
        have f9_2 := HX1.free 2
        have f9_3 := HX1.free 3
        have f9_4 := HX1.free 4
        have f9_5 := HX1.free 5
        have f9_6 := HX1.free 6
        have f9_7 := HX1.free 7
        have f9_8 := HX1.free 8
        have f9_9 := HX1.free 9
        have l9_0 := HX1.bx.lt
        have l9_1 := HX5.bx.lt
        have n9_0_1 : ¬ w.heap.size = w6.heap.size := (by have := Y19.out; omega)
        have m9_0_1 : ¬ w6.heap.size = w.heap.size := (by have := Y19.out; omega)
        go_wp2
        clear c9_0 c9_1 c9_2 c9_3 c9_4 c9_5 c9_6 c9_7 c9_8 c9_9 c9_10 c9_11 c9_12 c9_13 c9_14 c9_15 c9_16 c9_17 c9_18 c9_19 f9_0 f9_1 f9_2 f9_3 f9_4 f9_5 f9_6 f9_7 f9_8 f9_9 l9_0 l9_1 n9_0_1 m9_0_1
        obtain ⟨U18, hU18⟩ : ∃ W : World, W = ((((((((((wr.setCell ⟨w.heap.size, 0, none⟩ (.int .i64 va)).setCell ⟨w.heap.size, 1, none⟩ (.int .i64 vo)).setCell ⟨w.heap.size, 2, none⟩ (.int .i64 2)).setCell ⟨w.heap.size, 3, none⟩ (.int .i64 vi)).setCell ⟨w.heap.size, 4, none⟩ (.int .i64 (1 + vd))).setCell ⟨w.heap.size, 5, none⟩ (.int .i64 vs)).setCell ⟨w.heap.size, 6, none⟩ (.slice none 0 0)).setCell ⟨w.heap.size, 7, none⟩ (.slice A n c)).setCell ⟨w.heap.size, 8, none⟩ (.int .i64 vm)).setCell ⟨w.heap.size, 9, none⟩ (.int .i64 0)) := ⟨_, rfl⟩
        have ho : Only w.heap.size (w.heap.size + 1) wr U18 := by rw [hU18]; exact (((((((((((Only.refl _ _ _).set (p := ⟨w.heap.size, 0, none⟩) (Nat.le_refl _) (Nat.lt_succ_self _) _).set (p := ⟨w.heap.size, 1, none⟩) (Nat.le_refl _) (Nat.lt_succ_self _) _).set (p := ⟨w.heap.size, 2, none⟩) (Nat.le_refl _) (Nat.lt_succ_self _) _).set (p := ⟨w.heap.size, 3, none⟩) (Nat.le_refl _) (Nat.lt_succ_self _) _).set (p := ⟨w.heap.size, 4, none⟩) (Nat.le_refl _) (Nat.lt_succ_self _) _).set (p := ⟨w.heap.size, 5, none⟩) (Nat.le_refl _) (Nat.lt_succ_self _) _).set (p := ⟨w.heap.size, 6, none⟩) (Nat.le_refl _) (Nat.lt_succ_self _) _).set (p := ⟨w.heap.size, 7, none⟩) (Nat.le_refl _) (Nat.lt_succ_self _) _).set (p := ⟨w.heap.size, 8, none⟩) (Nat.le_refl _) (Nat.lt_succ_self _) _).set (p := ⟨w.heap.size, 9, none⟩) (Nat.le_refl _) (Nat.lt_succ_self _) _)
        replace HX1 : Kept w.heap.size (w.heap.size + 1) (BoxK w.heap.size 29 #[.int .i64 va, .int .i64 vo, .int .i64 2, .int .i64 vi, .int .i64 (1 + vd), .int .i64 vs, .slice none 0 0, .slice A n c, .int .i64 vm, .int .i64 0]) U18 := by rw [hU18]; exact Kept.box ((((((((((HX1.bx.puts 0 (.int .i64 va) (cs' := #[.int .i64 va, .int .i64 0, .int .i64 0, .int .i64 0, .int .i64 0, .int .i64 0, .slice none 0 0, .slice none 0 0, .int .i64 0, .int .i64 0]) rfl).puts 1 (.int .i64 vo) (cs' := #[.int .i64 va, .int .i64 vo, .int .i64 0, .int .i64 0, .int .i64 0, .int .i64 0, .slice none 0 0, .slice none 0 0, .int .i64 0, .int .i64 0]) rfl).puts 2 (.int .i64 2) (cs' := #[.int .i64 va, .int .i64 vo, .int .i64 2, .int .i64 0, .int .i64 0, .int .i64 0, .slice none 0 0, .slice none 0 0, .int .i64 0, .int .i64 0]) rfl).puts 3 (.int .i64 vi) (cs' := #[.int .i64 va, .int .i64 vo, .int .i64 2, .int .i64 vi, .int .i64 0, .int .i64 0, .slice none 0 0, .slice none 0 0, .int .i64 0, .int .i64 0]) rfl).puts 4 (.int .i64 (1 + vd)) (cs' := #[.int .i64 va, .int .i64 vo, .int .i64 2, .int .i64 vi, .int .i64 (1 + vd), .int .i64 0, .slice none 0 0, .slice none 0 0, .int .i64 0, .int .i64 0]) rfl).puts 5 (.int .i64 vs) (cs' := #[.int .i64 va, .int .i64 vo, .int .i64 2, .int .i64 vi, .int .i64 (1 + vd), .int .i64 vs, .slice none 0 0, .slice none 0 0, .int .i64 0, .int .i64 0]) rfl).puts 6 (.slice none 0 0) (cs' := #[.int .i64 va, .int .i64 vo, .int .i64 2, .int .i64 vi, .int .i64 (1 + vd), .int .i64 vs, .slice none 0 0, .slice none 0 0, .int .i64 0, .int .i64 0]) rfl).puts 7 (.slice A n c) (cs' := #[.int .i64 va, .int .i64 vo, .int .i64 2, .int .i64 vi, .int .i64 (1 + vd), .int .i64 vs, .slice none 0 0, .slice A n c, .int .i64 0, .int .i64 0]) rfl).puts 8 (.int .i64 vm) (cs' := #[.int .i64 va, .int .i64 vo, .int .i64 2, .int .i64 vi, .int .i64 (1 + vd), .int .i64 vs, .slice none 0 0, .slice A n c, .int .i64 vm, .int .i64 0]) rfl).puts 9 (.int .i64 0) (cs' := #[.int .i64 va, .int .i64 vo, .int .i64 2, .int .i64 vi, .int .i64 (1 + vd), .int .i64 vs, .slice none 0 0, .slice A n c, .int .i64 vm, .int .i64 0]) rfl)
        replace HS := HS.only ho (by have := Y19.out; omega)
        replace HX5 := HX5.only ho (by have := Y19.out; omega)
        replace HO := HO.only ho (by have := Y19.out; omega)
        have Z18 : Hid (U18.heap.size = wr.heap.size) := Lib.hid (by rw [hU18]; simp [World.setCell]); clear ho
        have Y20 := Lib.hid (And.intro Y19.out Z18.out); clear Y19 Z18
        have q_0 := HX1.look 0
        have q_1 := HX1.look 1
        have q_2 := HX1.look 2
        have q_3 := HX1.look 3
        have q_4 := HX1.look 4
        have q_5 := HX1.look 5
        have q_6 := HX1.look 6
        have q_7 := HX1.look 7
        have q_8 := HX1.look 8
        have q_9 := HX1.look 9
        have fin : ∀ e, e = Ending.returned (.agg (lsaCells ⟨va, vo, 2, vi, 1 + vd, vs, [], ys, vm, 0⟩ none A 0 0 n c)) → (DrawOut w g A0 n0 c0 cs (K + 40) e U18) := by rintro _ rfl; exact ⟨_, _, _, _, _, _, _, rfl, ⟨(OwnFK.nil_ 101 4 lcell _ (Nat.le_refl _)), (OwnFK.widen HO (by have := Y20.out; omega) (by have := Y20.out; omega) (Nat.le_refl _)), .inr ⟨rfl, rfl, rfl, rfl⟩⟩, by omega, by omega, HS.more (by omega)⟩
        subst hU18
        exact bodyPost_ret (v := .agg (lsaCells ⟨va, vo, 2, vi, 1 + vd, vs, [], ys, vm, 0⟩ none A 0 0 n c)) (by simp [results, Try.results58, go_sem, lsaCells, q_0, q_1, q_2, q_3, q_4, q_5, q_6, q_7, q_8, q_9]) rfl (fin _ rfl)
  · have c5_0 := HX5.look 2
    have f5_0 := HX5.free 2
    have l5_0 := HX1.bx.lt
    have l5_1 := HX5.bx.lt
    go_wp2_with fail
    clear c5_0 f5_0 l5_0 l5_1
    refine Calls.name ?_
    intro U9 hU9
    have ho : Only w6.heap.size (w6.heap.size + 1) w8 U9 := by rw [hU9]; exact ((Only.refl _ _ _).set (p := ⟨w6.heap.size, 2, none⟩) (Nat.le_refl _) (Nat.lt_succ_self _) _)
    replace HX5 : Kept w6.heap.size (w6.heap.size + 1) (BoxK w6.heap.size 29 #[.int .i64 va, .int .i64 vo, .int .i64 3, .int .i64 0, .int .i64 0, .int .i64 vs, .slice none 0 0, .slice none 0 0, .int .i64 0, .int .i64 0]) U9 := by rw [hU9]; exact Kept.box (HX5.bx.puts 2 (.int .i64 3) (cs' := #[.int .i64 va, .int .i64 vo, .int .i64 3, .int .i64 0, .int .i64 0, .int .i64 vs, .slice none 0 0, .slice none 0 0, .int .i64 0, .int .i64 0]) rfl)
    replace HS := HS.only ho (by have := Y8.out; omega)
    replace HX1 := HX1.only ho (by have := Y8.out; omega)
    have Z9 : Hid (U9.heap.size = w8.heap.size) := Lib.hid (by rw [hU9]; simp [World.setCell]); clear ho
    have Y9 := Lib.hid (And.intro Y8.out Z9.out); clear Y8 Z9
    clear hU9
    refine (dNext 4 HS.here (by omega) (by omega) (by omega)).mono ?_
    rintro e w10 ⟨vd, rfl, hvd0, hvd1, hs⟩
    have ho := hs.fr
    have Z10 := Lib.hid ho.size
    have Y10 := Lib.hid (And.intro Y9.out Z10.out); clear Y9 Z10
    replace HX1 := HX1.only ho (by have := Y10.out; omega)
    replace HX5 := HX5.only ho (by have := Y10.out; omega)
    replace HS := HS.next hs; clear ho hs
    have c6_0 := HX5.look 4
    have f6_0 := HX5.free 4
    have l6_0 := HX1.bx.lt
    have l6_1 := HX5.bx.lt
    go_wp2_with fail
    clear c6_0 f6_0 l6_0 l6_1
    obtain ⟨U11, hU11⟩ : ∃ W : World, W = (w10.setCell ⟨w6.heap.size, 4, none⟩ (.int .i64 (1 + vd))) := ⟨_, rfl⟩
    have ho : Only w6.heap.size (w6.heap.size + 1) w10 U11 := by rw [hU11]; exact ((Only.refl _ _ _).set (p := ⟨w6.heap.size, 4, none⟩) (Nat.le_refl _) (Nat.lt_succ_self _) _)
    replace HX5 : Kept w6.heap.size (w6.heap.size + 1) (BoxK w6.heap.size 29 #[.int .i64 va, .int .i64 vo, .int .i64 3, .int .i64 0, .int .i64 (1 + vd), .int .i64 vs, .slice none 0 0, .slice none 0 0, .int .i64 0, .int .i64 0]) U11 := by rw [hU11]; exact Kept.box (HX5.bx.puts 4 (.int .i64 (1 + vd)) (cs' := #[.int .i64 va, .int .i64 vo, .int .i64 3, .int .i64 0, .int .i64 (1 + vd), .int .i64 vs, .slice none 0 0, .slice none 0 0, .int .i64 0, .int .i64 0]) rfl)
    replace HS := HS.only ho (by have := Y10.out; omega)
    replace HX1 := HX1.only ho (by have := Y10.out; omega)
    have Z11 : Hid (U11.heap.size = w10.heap.size) := Lib.hid (by rw [hU11]; simp [World.setCell]); clear ho
    have Y11 := Lib.hid (And.intro Y10.out Z11.out); clear Y10 Z11
    refine Calls.name ?_
    intro U12 hU12
    have kU12 : U12 = (U11.alloc (.cells #[.int .i64 11, .int .i64 12, .int .i64 4294967295] 2)) := by rw [hU11]; exact hU12
    have hb : Below U11.heap.size U11 U12 := by rw [kU12]; exact ((Below.refl _ _).alloc (Nat.le_refl _) _)
    have zz : Hid (U11.heap.size + 1 = U12.heap.size) := Lib.hid (by rw [kU12]; simp)
    have HX7 : Kept w10.heap.size (w10.heap.size + 1) (BoxK w10.heap.size 2 #[.int .i64 11, .int .i64 12, .int .i64 4294967295]) U12 := by rw [kU12]; exact Kept.box (Box.made_at _ _ _ (by rw [hU11]; simp [World.setCell]))
    replace HS := HS.below hb
    replace HX1 := HX1.below hb
    replace HX5 := HX5.below hb
    clear hb
    have Z12 := zz; clear zz
    have Y12 := Lib.hid (And.intro Y11.out Z12.out); clear Y11 Z12
    clear kU12 hU12 hU11
    refine (dPick w10.heap.size 3 [11, 12, 4294967295] HS.here (by omega) HX7.bx rfl rfl (by omega) (by omega) (by have := Y12.out; omega)).mono ?_
    rintro e w13 ⟨vi, rfl, hv, hs⟩
    have ho := hs.fr
    have Z13 := Lib.hid ho.size
    have Y13 := Lib.hid (And.intro Y12.out Z13.out); clear Y12 Z13
    clear HX7
    replace HX1 := HX1.only ho (by have := Y13.out; omega)
    replace HX5 := HX5.only ho (by have := Y13.out; omega)
    replace HS := HS.next hs; clear ho hs
    clear hv
    have c7_0 := HX5.look 2
    have c7_1 := HX5.look 3
    have f7_0 := HX5.free 3
    have l7_0 := HX1.bx.lt
    have l7_1 := HX5.bx.lt
    go_wp2_with fail
    clear c7_0 c7_1 f7_0 l7_0 l7_1
    obtain ⟨U14, hU14⟩ : ∃ W : World, W = (w13.setCell ⟨w6.heap.size, 3, none⟩ (.int .i64 vi)) := ⟨_, rfl⟩
    have ho : Only w6.heap.size (w6.heap.size + 1) w13 U14 := by rw [hU14]; exact ((Only.refl _ _ _).set (p := ⟨w6.heap.size, 3, none⟩) (Nat.le_refl _) (Nat.lt_succ_self _) _)
    replace HX5 : Kept w6.heap.size (w6.heap.size + 1) (BoxK w6.heap.size 29 #[.int .i64 va, .int .i64 vo, .int .i64 3, .int .i64 vi, .int .i64 (1 + vd), .int .i64 vs, .slice none 0 0, .slice none 0 0, .int .i64 0, .int .i64 0]) U14 := by rw [hU14]; exact Kept.box (HX5.bx.puts 3 (.int .i64 vi) (cs' := #[.int .i64 va, .int .i64 vo, .int .i64 3, .int .i64 vi, .int .i64 (1 + vd), .int .i64 vs, .slice none 0 0, .slice none 0 0, .int .i64 0, .int .i64 0]) rfl)
    replace HS := HS.only ho (by have := Y13.out; omega)
    replace HX1 := HX1.only ho (by have := Y13.out; omega)
    have Z14 : Hid (U14.heap.size = w13.heap.size) := Lib.hid (by rw [hU14]; simp [World.setCell]); clear ho
    have Y14 := Lib.hid (And.intro Y13.out Z14.out); clear Y13 Z14
    refine Calls.name ?_
    intro U15 hU15
    have kU15 : U15 = (U14.alloc (.cells #[.int .i64 0, .int .i64 255, .int .i64 4294967295] 2)) := by rw [hU14]; exact hU15
    have hb : Below U14.heap.size U14 U15 := by rw [kU15]; exact ((Below.refl _ _).alloc (Nat.le_refl _) _)
    have zz : Hid (U14.heap.size + 1 = U15.heap.size) := Lib.hid (by rw [kU15]; simp)
    have HX8 : Kept w13.heap.size (w13.heap.size + 1) (BoxK w13.heap.size 2 #[.int .i64 0, .int .i64 255, .int .i64 4294967295]) U15 := by rw [kU15]; exact Kept.box (Box.made_at _ _ _ (by rw [hU14]; simp [World.setCell]))
    replace HS := HS.below hb
    replace HX1 := HX1.below hb
    replace HX5 := HX5.below hb
    clear hb
    have Z15 := zz; clear zz
    have Y15 := Lib.hid (And.intro Y14.out Z15.out); clear Y14 Z15
    clear kU15 hU15 hU14
    refine (dPick w13.heap.size 3 [0, 255, 4294967295] HS.here (by omega) HX8.bx rfl rfl (by omega) (by omega) (by have := Y15.out; omega)).mono ?_
    rintro e w16 ⟨vm, rfl, hv, hs⟩
    have ho := hs.fr
    have Z16 := Lib.hid ho.size
    have Y16 := Lib.hid (And.intro Y15.out Z16.out); clear Y15 Z16
    clear HX8
    replace HX1 := HX1.only ho (by have := Y16.out; omega)
    replace HX5 := HX5.only ho (by have := Y16.out; omega)
    replace HS := HS.next hs; clear ho hs
    clear hv
    have c8_0 := HX5.look 8
    have f8_0 := HX5.free 8
    have l8_0 := HX1.bx.lt
    have l8_1 := HX5.bx.lt
    go_wp2_with fail
    clear c8_0 f8_0 l8_0 l8_1
    obtain ⟨U17, hU17⟩ : ∃ W : World, W = (w16.setCell ⟨w6.heap.size, 8, none⟩ (.int .i64 vm)) := ⟨_, rfl⟩
    have ho : Only w6.heap.size (w6.heap.size + 1) w16 U17 := by rw [hU17]; exact ((Only.refl _ _ _).set (p := ⟨w6.heap.size, 8, none⟩) (Nat.le_refl _) (Nat.lt_succ_self _) _)
    replace HX5 : Kept w6.heap.size (w6.heap.size + 1) (BoxK w6.heap.size 29 #[.int .i64 va, .int .i64 vo, .int .i64 3, .int .i64 vi, .int .i64 (1 + vd), .int .i64 vs, .slice none 0 0, .slice none 0 0, .int .i64 vm, .int .i64 0]) U17 := by rw [hU17]; exact Kept.box (HX5.bx.puts 8 (.int .i64 vm) (cs' := #[.int .i64 va, .int .i64 vo, .int .i64 3, .int .i64 vi, .int .i64 (1 + vd), .int .i64 vs, .slice none 0 0, .slice none 0 0, .int .i64 vm, .int .i64 0]) rfl)
    replace HS := HS.only ho (by have := Y16.out; omega)
    replace HX1 := HX1.only ho (by have := Y16.out; omega)
    have Z17 : Hid (U17.heap.size = w16.heap.size) := Lib.hid (by rw [hU17]; simp [World.setCell]); clear ho
    have Y17 := Lib.hid (And.intro Y16.out Z17.out); clear Y16 Z17
    refine Calls.name ?_
    intro U18 hU18
    have kU18 : U18 = (U17.alloc (.cells #[.int .i64 0, .int .i64 7, .int .i64 16777215] 2)) := by rw [hU17]; exact hU18
    have hb : Below U17.heap.size U17 U18 := by rw [kU18]; exact ((Below.refl _ _).alloc (Nat.le_refl _) _)
    have zz : Hid (U17.heap.size + 1 = U18.heap.size) := Lib.hid (by rw [kU18]; simp)
    have HX9 : Kept w16.heap.size (w16.heap.size + 1) (BoxK w16.heap.size 2 #[.int .i64 0, .int .i64 7, .int .i64 16777215]) U18 := by rw [kU18]; exact Kept.box (Box.made_at _ _ _ (by rw [hU17]; simp [World.setCell]))
    replace HS := HS.below hb
    replace HX1 := HX1.below hb
    replace HX5 := HX5.below hb
    clear hb
    have Z18 := zz; clear zz
    have Y18 := Lib.hid (And.intro Y17.out Z18.out); clear Y17 Z18
    clear kU18 hU18 hU17
    refine (dPick w16.heap.size 3 [0, 7, 16777215] HS.here (by omega) HX9.bx rfl rfl (by omega) (by omega) (by have := Y18.out; omega)).mono ?_
    rintro e w19 ⟨vc, rfl, hv, hs⟩
    have ho := hs.fr
    have Z19 := Lib.hid ho.size
    have Y19 := Lib.hid (And.intro Y18.out Z19.out); clear Y18 Z19
    clear HX9
    replace HX1 := HX1.only ho (by have := Y19.out; omega)
    replace HX5 := HX5.only ho (by have := Y19.out; omega)
    replace HS := HS.next hs; clear ho hs
    clear hv
    have c9_0 := HX1.look 0
    have c9_1 := HX1.look 1
    have c9_2 := HX1.look 2
    have c9_3 := HX1.look 3
    have c9_4 := HX1.look 4
    have c9_5 := HX1.look 5
    have c9_6 := HX1.look 6
    have c9_7 := HX1.look 7
    have c9_8 := HX1.look 8
    have c9_9 := HX1.look 9
    have c9_10 := HX5.look 0
    have c9_11 := HX5.look 1
    have c9_12 := HX5.look 2
    have c9_13 := HX5.look 3
    have c9_14 := HX5.look 4
    have c9_15 := HX5.look 5
    have c9_16 := HX5.look 6
    have c9_17 := HX5.look 7
    have c9_18 := HX5.look 8
    have c9_19 := HX5.look 9
    have f9_0 := HX1.free 0
    have f9_1 := HX1.free 1
    have f9_2 := HX1.free 2
    have f9_3 := HX1.free 3
    have f9_4 := HX1.free 4
    have f9_5 := HX1.free 5
    have f9_6 := HX1.free 6
    have f9_7 := HX1.free 7
    have f9_8 := HX1.free 8
    have f9_9 := HX1.free 9
    have f9_10 := HX5.free 9
    have l9_0 := HX1.bx.lt
    have l9_1 := HX5.bx.lt
    have n9_0_1 : ¬ w.heap.size = w6.heap.size := (by have := Y19.out; omega)
    have m9_0_1 : ¬ w6.heap.size = w.heap.size := (by have := Y19.out; omega)
    go_wp2
    clear c9_0 c9_1 c9_2 c9_3 c9_4 c9_5 c9_6 c9_7 c9_8 c9_9 c9_10 c9_11 c9_12 c9_13 c9_14 c9_15 c9_16 c9_17 c9_18 c9_19 f9_0 f9_1 f9_2 f9_3 f9_4 f9_5 f9_6 f9_7 f9_8 f9_9 f9_10 l9_0 l9_1 n9_0_1 m9_0_1
    obtain ⟨U20, hU20⟩ : ∃ W : World, W = (w19.setCell ⟨w6.heap.size, 9, none⟩ (.int .i64 vc)) := ⟨_, rfl⟩
    have ho : Only w6.heap.size (w6.heap.size + 1) w19 U20 := by rw [hU20]; exact ((Only.refl _ _ _).set (p := ⟨w6.heap.size, 9, none⟩) (Nat.le_refl _) (Nat.lt_succ_self _) _)
    replace HX5 : Kept w6.heap.size (w6.heap.size + 1) (BoxK w6.heap.size 29 #[.int .i64 va, .int .i64 vo, .int .i64 3, .int .i64 vi, .int .i64 (1 + vd), .int .i64 vs, .slice none 0 0, .slice none 0 0, .int .i64 vm, .int .i64 vc]) U20 := by rw [hU20]; exact Kept.box (HX5.bx.puts 9 (.int .i64 vc) (cs' := #[.int .i64 va, .int .i64 vo, .int .i64 3, .int .i64 vi, .int .i64 (1 + vd), .int .i64 vs, .slice none 0 0, .slice none 0 0, .int .i64 vm, .int .i64 vc]) rfl)
    replace HS := HS.only ho (by have := Y19.out; omega)
    replace HX1 := HX1.only ho (by have := Y19.out; omega)
    have Z20 : Hid (U20.heap.size = w19.heap.size) := Lib.hid (by rw [hU20]; simp [World.setCell]); clear ho
    have Y20 := Lib.hid (And.intro Y19.out Z20.out); clear Y19 Z20
    obtain ⟨U21, hU21⟩ : ∃ W : World, W = ((((((((((U20.setCell ⟨w.heap.size, 0, none⟩ (.int .i64 va)).setCell ⟨w.heap.size, 1, none⟩ (.int .i64 vo)).setCell ⟨w.heap.size, 2, none⟩ (.int .i64 3)).setCell ⟨w.heap.size, 3, none⟩ (.int .i64 vi)).setCell ⟨w.heap.size, 4, none⟩ (.int .i64 (1 + vd))).setCell ⟨w.heap.size, 5, none⟩ (.int .i64 vs)).setCell ⟨w.heap.size, 6, none⟩ (.slice none 0 0)).setCell ⟨w.heap.size, 7, none⟩ (.slice none 0 0)).setCell ⟨w.heap.size, 8, none⟩ (.int .i64 vm)).setCell ⟨w.heap.size, 9, none⟩ (.int .i64 vc)) := ⟨_, rfl⟩
    have ho : Only w.heap.size (w.heap.size + 1) U20 U21 := by rw [hU21]; exact (((((((((((Only.refl _ _ _).set (p := ⟨w.heap.size, 0, none⟩) (Nat.le_refl _) (Nat.lt_succ_self _) _).set (p := ⟨w.heap.size, 1, none⟩) (Nat.le_refl _) (Nat.lt_succ_self _) _).set (p := ⟨w.heap.size, 2, none⟩) (Nat.le_refl _) (Nat.lt_succ_self _) _).set (p := ⟨w.heap.size, 3, none⟩) (Nat.le_refl _) (Nat.lt_succ_self _) _).set (p := ⟨w.heap.size, 4, none⟩) (Nat.le_refl _) (Nat.lt_succ_self _) _).set (p := ⟨w.heap.size, 5, none⟩) (Nat.le_refl _) (Nat.lt_succ_self _) _).set (p := ⟨w.heap.size, 6, none⟩) (Nat.le_refl _) (Nat.lt_succ_self _) _).set (p := ⟨w.heap.size, 7, none⟩) (Nat.le_refl _) (Nat.lt_succ_self _) _).set (p := ⟨w.heap.size, 8, none⟩) (Nat.le_refl _) (Nat.lt_succ_self _) _).set (p := ⟨w.heap.size, 9, none⟩) (Nat.le_refl _) (Nat.lt_succ_self _) _)
    replace HX1 : Kept w.heap.size (w.heap.size + 1) (BoxK w.heap.size 29 #[.int .i64 va, .int .i64 vo, .int .i64 3, .int .i64 vi, .int .i64 (1 + vd), .int .i64 vs, .slice none 0 0, .slice none 0 0, .int .i64 vm, .int .i64 vc]) U21 := by rw [hU21]; exact Kept.box ((((((((((HX1.bx.puts 0 (.int .i64 va) (cs' := #[.int .i64 va, .int .i64 0, .int .i64 0, .int .i64 0, .int .i64 0, .int .i64 0, .slice none 0 0, .slice none 0 0, .int .i64 0, .int .i64 0]) rfl).puts 1 (.int .i64 vo) (cs' := #[.int .i64 va, .int .i64 vo, .int .i64 0, .int .i64 0, .int .i64 0, .int .i64 0, .slice none 0 0, .slice none 0 0, .int .i64 0, .int .i64 0]) rfl).puts 2 (.int .i64 3) (cs' := #[.int .i64 va, .int .i64 vo, .int .i64 3, .int .i64 0, .int .i64 0, .int .i64 0, .slice none 0 0, .slice none 0 0, .int .i64 0, .int .i64 0]) rfl).puts 3 (.int .i64 vi) (cs' := #[.int .i64 va, .int .i64 vo, .int .i64 3, .int .i64 vi, .int .i64 0, .int .i64 0, .slice none 0 0, .slice none 0 0, .int .i64 0, .int .i64 0]) rfl).puts 4 (.int .i64 (1 + vd)) (cs' := #[.int .i64 va, .int .i64 vo, .int .i64 3, .int .i64 vi, .int .i64 (1 + vd), .int .i64 0, .slice none 0 0, .slice none 0 0, .int .i64 0, .int .i64 0]) rfl).puts 5 (.int .i64 vs) (cs' := #[.int .i64 va, .int .i64 vo, .int .i64 3, .int .i64 vi, .int .i64 (1 + vd), .int .i64 vs, .slice none 0 0, .slice none 0 0, .int .i64 0, .int .i64 0]) rfl).puts 6 (.slice none 0 0) (cs' := #[.int .i64 va, .int .i64 vo, .int .i64 3, .int .i64 vi, .int .i64 (1 + vd), .int .i64 vs, .slice none 0 0, .slice none 0 0, .int .i64 0, .int .i64 0]) rfl).puts 7 (.slice none 0 0) (cs' := #[.int .i64 va, .int .i64 vo, .int .i64 3, .int .i64 vi, .int .i64 (1 + vd), .int .i64 vs, .slice none 0 0, .slice none 0 0, .int .i64 0, .int .i64 0]) rfl).puts 8 (.int .i64 vm) (cs' := #[.int .i64 va, .int .i64 vo, .int .i64 3, .int .i64 vi, .int .i64 (1 + vd), .int .i64 vs, .slice none 0 0, .slice none 0 0, .int .i64 vm, .int .i64 0]) rfl).puts 9 (.int .i64 vc) (cs' := #[.int .i64 va, .int .i64 vo, .int .i64 3, .int .i64 vi, .int .i64 (1 + vd), .int .i64 vs, .slice none 0 0, .slice none 0 0, .int .i64 vm, .int .i64 vc]) rfl)
    replace HS := HS.only ho (by have := Y20.out; omega)
    replace HX5 := HX5.only ho (by have := Y20.out; omega)
    have Z21 : Hid (U21.heap.size = U20.heap.size) := Lib.hid (by rw [hU21]; simp [World.setCell]); clear ho
    have Y21 := Lib.hid (And.intro Y20.out Z21.out); clear Y20 Z21
    have q_0 := HX1.look 0
    have q_1 := HX1.look 1
    have q_2 := HX1.look 2
    have q_3 := HX1.look 3
    have q_4 := HX1.look 4
    have q_5 := HX1.look 5
    have q_6 := HX1.look 6
    have q_7 := HX1.look 7
    have q_8 := HX1.look 8
    have q_9 := HX1.look 9
    have fin : ∀ e, e = Ending.returned (.agg (lsaCells ⟨va, vo, 3, vi, 1 + vd, vs, [], [], vm, vc⟩ none none 0 0 0 0)) → (DrawOut w g A0 n0 c0 cs (K + 40) e U21) := by rintro _ rfl; exact ⟨_, _, _, _, _, _, _, rfl, ⟨(OwnFK.nil_ 101 4 lcell _ (Nat.le_refl _)), (OwnFK.nil_ 2 1 icell _ (Nat.le_refl _)), .inl ⟨rfl, rfl, rfl, rfl⟩⟩, by omega, by omega, HS.more (by omega)⟩
    subst hU21 hU20
    exact bodyPost_ret (v := .agg (lsaCells ⟨va, vo, 3, vi, 1 + vd, vs, [], [], vm, vc⟩ none none 0 0 0 0)) (by simp [results, Try.results58, go_sem, lsaCells, q_0, q_1, q_2, q_3, q_4, q_5, q_6, q_7, q_8, q_9]) rfl (fin _ rfl)


end Go.Proofs.Ytamclkjofojhmaa

