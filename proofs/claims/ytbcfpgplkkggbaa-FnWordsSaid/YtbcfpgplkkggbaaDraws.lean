/-
  Walks of l1Data and of what the law FnWords draws. No statement is proved here.
-/
import Derived.Test.YtbcfpgplkkggbaaSome
import Derived.Test.YtbcfpgplkkggbaaSeal
namespace Go.Proofs.Ytbcfpgplkkggbaa
open Go.RowKit

theorem Box.ints {w : World} {g : Nat} {t : TypeId} {zs : List Int} (h : Box w g t (zs.map (Value.int .i64)).toArray) : ∀ i, i < zs.length → w.cell? ⟨g, 0 + i, none⟩ = some (.int .i64 (zs.getD i 0)) := by
  intro i hi
  rw [Nat.zero_add, h.look i]
  simp [List.getD, hi]

theorem grown_below_step {a b c : World} {g : Nat} (h : Below a.heap.size a b) (hg : b.grownBy c (some g)) : a.grownBy c (some g) := grown_trans (grownBy_of_below h _) hg

theorem l1Pick_lit (g : Nat) (A : Option Addr) (n c : Nat) (cs : List Int) (k : Nat) (zs : List Int) (m : Nat) (arr : Array Value) (W : World) (ha : arr = (zs.map (Value.int .i64)).toArray) (hm : zs.length = m) (hm0 : 0 < m) (hm1 : m ≤ 1000) (hs : Src W g A n c cs k) (hk : k ≤ 1000000) :
    Calls Try.prog 40 #[.pointer (some ⟨g, 0, none⟩), .slice (some ⟨W.heap.size, 0, none⟩) m m] (W.alloc (.cells arr 2)) fun e w' => ∃ v : Int, e = .returned (.int .i64 v) ∧ v ∈ zs ∧ Src w' g A n c cs (k + 1) ∧ W.grownBy w' (some g) := by
  have hb : Below W.heap.size W (W.alloc (.cells arr 2)) := (Below.refl _ _).alloc (Nat.le_refl _) _
  have hx : Box (W.alloc (.cells arr 2)) W.heap.size 2 (zs.map (Value.int .i64)).toArray := by rw [ha]; exact Box.made _ _ _
  refine (l1Pick_any g A n c cs k W.heap.size m m zs _ (hs.below hb) hk hm hm0 hm1 (fun i hi => hx.ints i (by omega)) (by have := hs.box.lt; omega)).mono ?_
  rintro e w' ⟨v, h1, h2, h3, h4⟩
  exact ⟨v, h1, h2, h3, grown_below_step hb h4⟩

set_option maxHeartbeats 800000 in
theorem l1Data_any (g : Nat) (A : Option Addr) (n c : Nat) (cs : List Int) (k : Nat) (w : World) (hs : Src w g A n c cs k) (hk : k ≤ 100000) :
    Calls Try.prog 46 #[.pointer (some ⟨g, 0, none⟩)] w fun e w' => ∃ B m d zs k', e = .returned (.slice (some B) m d) ∧ m ≤ 401 ∧ Own w' w.heap.size (some B) m d zs ∧ Bytes zs ∧ k' ≤ k + 1000 ∧ Src w' g A n c cs k' ∧ w.grownBy w' (some g) := by
  have HS := Lib.hid hs
  have hgl := hs.box.lt
  clear hs
  go_enter Try.func46, Try.ntmps46
  go_wp2_with fail
  refine (l1Pick_lit g A n c cs k [0, 1, 2, 9, 30] 5 _ _ rfl rfl (by omega) (by omega) HS.out (by omega)).mono ?_
  rintro e w1 ⟨v, rfl, hv, h1, h2⟩
  have hv1 : 0 ≤ v ∧ v ≤ 401 := by simp at hv; omega
  have HS1 := Lib.hid h1
  have HG1 := Lib.hid h2
  clear h1 h2 hv HS
  go_wp2_with fail
  refine (l1Chance_any g A n c cs (k + 1) 25 _ HS1.out (by omega) (by omega)).mono ?_
  rintro e w2 ⟨v2, rfl, h1, h2⟩
  have HS2 := Lib.hid h1
  have HG2 := Lib.hid (grown_trans HG1.out h2)
  clear h1 h2 HS1 HG1
  obtain ⟨p, rfl⟩ := Int.eq_ofNat_of_zero_le hv1.1
  have hp := hv1.2
  clear hv1
  cases v2
  · go_wp2_with fail
    refine (l1Some_any g A n c cs (k + 1 + 1) p _ HS2.out (by omega)).mono ?_
    rintro e w3 ⟨B, d, zs, rfl, h1, h2, h3, h4⟩
    have H1 := Lib.hid h1
    have H2 := Lib.hid h2
    have H3 := Lib.hid h3
    have H4 := Lib.hid h4
    clear h1 h2 h3 h4
    go_wp2
    go_ret
    exact ⟨B, p, d, zs, _, rfl, by omega, H1.out.mono HG2.out.size, H2.out, by omega, H3.out, grown_trans HG2.out H4.out⟩
  · go_wp2_with fail
    refine (l1Pick_lit g A n c cs (k + 1 + 1) [400, 401] 2 _ _ rfl rfl (by omega) (by omega) HS2.out (by omega)).mono ?_
    rintro e w3 ⟨v, rfl, hv, h1, h2⟩
    have hv1 : 0 ≤ v ∧ v ≤ 401 := by simp at hv; omega
    have HS3 := Lib.hid h1
    have HG3 := Lib.hid (grown_trans HG2.out h2)
    clear h1 h2 hv HS2 HG2 hp
    obtain ⟨r, rfl⟩ := Int.eq_ofNat_of_zero_le hv1.1
    have hp := hv1.2
    clear hv1
    go_wp2_with fail
    refine (l1Some_any g A n c cs (k + 1 + 1 + 1) r _ HS3.out (by omega)).mono ?_
    rintro e w4 ⟨B, d, zs, rfl, h1, h2, h3, h4⟩
    have H1 := Lib.hid h1
    have H2 := Lib.hid h2
    have H3 := Lib.hid h3
    have H4 := Lib.hid h4
    clear h1 h2 h3 h4
    go_wp2
    go_ret
    exact ⟨B, r, d, zs, _, rfl, by omega, H1.out.mono HG3.out.size, H2.out, by omega, H3.out, grown_trans HG3.out H4.out⟩

/-- Behind a source of the call's own: what lay there before the call is as it was. -/
theorem below_of_src {a b c : World} {g : Nat} (h : Below a.heap.size a b) (hg : b.grownBy c (some g)) (hl : a.heap.size ≤ g) : Below a.heap.size a c := grown_step h hg (fun k hk => by injection hk with hk; omega)

theorem drawFletcher_any (A : Option Addr) (n c : Nat) (cs : List Int) (w : World) (ha : BIn w A n cs) (hb : Bytes cs) (hn : n ≤ 1048576) :
    Calls Try.prog 19 #[.slice A n c] w fun e w' => ∃ B m d zs, e = .returned (.slice (some B) m d) ∧ m ≤ 401 ∧ Own w' w.heap.size (some B) m d zs ∧ Bytes zs ∧ Below w.heap.size w w' := by
  have HA := Lib.hid ha
  clear ha
  go_enter Try.func19, Try.ntmps19
  go_wp2_with fail
  refine (l1Source_any A n c cs _ HA.out hb hn).mono ?_
  rintro e w1 ⟨rfl, h1, h2⟩
  have HS := Lib.hid h1
  have HB := Lib.hid h2
  clear h1 h2
  go_wp2_with fail
  refine (l1Data_any _ A n c cs 0 _ HS.out (by omega)).mono ?_
  rintro e w2 ⟨B, m, d, zs, k', rfl, hm, h1, h2, _, _, h3⟩
  have H1 := Lib.hid h1
  have H2 := Lib.hid h2
  have H3 := Lib.hid h3
  clear h1 h2 h3
  go_wp2
  go_ret
  exact ⟨B, m, d, zs, rfl, hm, H1.out.mono HB.out.size, H2.out, below_of_src HB.out H3.out (Nat.le_refl _)⟩

theorem drawSeal_any (A : Option Addr) (n c : Nat) (cs : List Int) (w : World) (ha : BIn w A n cs) (hb : Bytes cs) (hn : n ≤ 1048576) :
    Calls Try.prog 16 #[.slice A n c] w fun e w' => ∃ B m d zs a, e = .returned (.tuple #[.slice (some B) m d, .int .i64 a]) ∧ m ≤ 401 ∧ Own w' w.heap.size (some B) m d zs ∧ Bytes zs ∧ Below w.heap.size w w' := by
  have HA := Lib.hid ha
  clear ha
  go_enter Try.func16, Try.ntmps16
  go_wp2_with fail
  refine (l1Source_any A n c cs _ HA.out hb hn).mono ?_
  rintro e w1 ⟨rfl, h1, h2⟩
  have HS := Lib.hid h1
  have HB := Lib.hid h2
  clear h1 h2
  go_wp2_with fail
  refine (l1Data_any _ A n c cs 0 _ HS.out (by omega)).mono ?_
  rintro e w2 ⟨B, m, d, zs, k', rfl, hm, h1, h2, hk, hs, h3⟩
  have H1 := Lib.hid h1
  have H2 := Lib.hid h2
  have H3 := Lib.hid h3
  have HS2 := Lib.hid hs
  clear h1 h2 h3 hs
  go_wp2_with fail
  refine (l1Pick_lit _ A n c cs k' [0, 0, 1, 7, 28, -1, 29, 9223372036854775807] 8 _ _ rfl rfl (by omega) (by omega) HS2.out (by omega)).mono ?_
  rintro e w3 ⟨v, rfl, _, _, h4⟩
  have H4 := Lib.hid h4
  clear h4
  go_wp2
  go_ret2
  exact ⟨B, m, d, zs, v, rfl, hm, (H1.out.grown H4.out (.inr (fun e => by have := (H1.out.block B.block rfl).1; have := HS.out.box.lt; simp only [Option.map_some, Option.some.injEq] at e; omega))).mono HB.out.size, H2.out, below_of_src (below_of_src HB.out H3.out (Nat.le_refl _)) H4.out (Nat.le_refl _)⟩

theorem drawPack_any (A : Option Addr) (n c : Nat) (cs : List Int) (w : World) (ha : BIn w A n cs) (hb : Bytes cs) (hn : n ≤ 1048576) :
    Calls Try.prog 11 #[.slice A n c] w fun e w' => ∃ m s, e = .returned (.tuple #[.int .i64 m, .int .i64 s]) ∧ m ≤ 281474976710656 ∧ Below w.heap.size w w' := by
  have HA := Lib.hid ha
  clear ha
  go_enter Try.func11, Try.ntmps11
  go_wp2_with fail
  refine (l1Source_any A n c cs _ HA.out hb hn).mono ?_
  rintro e w1 ⟨rfl, h1, h2⟩
  have HS := Lib.hid h1
  have HB := Lib.hid h2
  clear h1 h2
  go_wp2_with fail
  refine (l1Pick_lit _ A n c cs 0 [0, 1, 255, 256, 65535, 65536, 281474976710655, 281474976710656, -1] 9 _ _ rfl rfl (by omega) (by omega) HS.out (by omega)).mono ?_
  rintro e w2 ⟨m, rfl, hm, hs, h3⟩
  have hm1 : m ≤ 281474976710656 := by simp at hm; omega
  have HS2 := Lib.hid hs
  have H3 := Lib.hid h3
  clear hs h3 hm
  go_wp2_with fail
  refine (l1Pick_lit _ A n c cs _ [1, 2, 4, 6, 0, 7] 6 _ _ rfl rfl (by omega) (by omega) HS2.out (by omega)).mono ?_
  rintro e w3 ⟨v, rfl, _, _, h4⟩
  have H4 := Lib.hid h4
  clear h4
  go_wp2
  go_ret2
  exact ⟨m, v, rfl, hm1, below_of_src (below_of_src HB.out H3.out (Nat.le_refl _)) H4.out (Nat.le_refl _)⟩

theorem drawRead_any (A : Option Addr) (n c : Nat) (cs : List Int) (w : World) (ha : BIn w A n cs) (hb : Bytes cs) (hn : n ≤ 1048576) :
    Calls Try.prog 13 #[.slice A n c] w fun e w' => ∃ B m d zs a s, e = .returned (.tuple #[.slice (some B) m d, .int .i64 a, .int .i64 s]) ∧ m ≤ 401 ∧ Own w' w.heap.size (some B) m d zs ∧ Bytes zs ∧ Below w.heap.size w w' := by
  have HA := Lib.hid ha
  clear ha
  go_enter Try.func13, Try.ntmps13
  go_wp2_with fail
  refine (l1Source_any A n c cs _ HA.out hb hn).mono ?_
  rintro e w1 ⟨rfl, h1, h2⟩
  have HS := Lib.hid h1
  have HB := Lib.hid h2
  clear h1 h2
  go_wp2_with fail
  refine (l1Pick_lit _ A n c cs 0 [0, 1, 4, 8, 12] 5 _ _ rfl rfl (by omega) (by omega) HS.out (by omega)).mono ?_
  rintro e w2 ⟨p, rfl, hp, hs, h3⟩
  have hp1 : 0 ≤ p ∧ p ≤ 12 := by simp at hp; omega
  obtain ⟨m, rfl⟩ := Int.eq_ofNat_of_zero_le hp1.1
  have hm := hp1.2
  have HS2 := Lib.hid hs
  have H3 := Lib.hid h3
  clear hs h3 hp hp1
  go_wp2_with fail
  refine (l1Some_any _ A n c cs _ m _ HS2.out (by omega)).mono ?_
  rintro e w3 ⟨B, d, zs, rfl, h1, h2, h3, h4⟩
  have HO3 := Lib.hid h1
  have HZ := Lib.hid h2
  have HS3 := Lib.hid h3
  have H4 := Lib.hid h4
  have hbb : w1.heap.size ≤ B.block := by have := (h1.block B.block rfl).1; have := H3.out.size; omega
  have HBB := Lib.hid hbb
  clear h1 h2 h3 h4 hbb
  go_wp2_with fail
  refine (l1Pick_lit _ A n c cs _ [0, 0, 1, 4, -1, 9223372036854775807] 6 _ _ rfl rfl (by omega) (by omega) HS3.out (by omega)).mono ?_
  rintro e w4 ⟨a, rfl, _, hs, h5⟩
  have HS4 := Lib.hid hs
  have H5 := Lib.hid h5
  clear hs h5
  go_wp2_with fail
  refine (l1Pick_lit _ A n c cs _ [1, 2, 4, 6, 0, 7] 6 _ _ rfl rfl (by omega) (by omega) HS4.out (by omega)).mono ?_
  rintro e w5 ⟨s, rfl, _, _, h6⟩
  have H6 := Lib.hid h6
  clear h6
  have hne : (some B : Option Addr).map (·.block) = none ∨ (some B : Option Addr).map (·.block) ≠ some w.heap.size := .inr (fun e => by have := HBB.out; have := HS.out.box.lt; simp only [Option.map_some, Option.some.injEq] at e; omega)
  have HNE := Lib.hid hne
  clear hne
  go_wp2
  go_ret3
  exact ⟨B, m, d, zs, a, s, rfl, by omega, ((HO3.out.grown H5.out HNE.out).grown H6.out HNE.out).mono (by have := HB.out.size; have := H3.out.size; omega), HZ.out,
    below_of_src (below_of_src (below_of_src (below_of_src HB.out H3.out (Nat.le_refl _)) H4.out (Nat.le_refl _)) H5.out (Nat.le_refl _)) H6.out (Nat.le_refl _)⟩

/-- A slice of bytes that was drawn, in new memory. -/
def SliceOut (w : World) (e : Ending) (w' : World) : Prop := ∃ B m d zs, e = .returned (.slice (some B) m d) ∧ m ≤ 401 ∧ Own w' w.heap.size (some B) m d zs ∧ Bytes zs ∧ Below w.heap.size w w'

set_option maxHeartbeats 800000 in
theorem drawSealed_any (A : Option Addr) (n c : Nat) (cs : List Int) (w : World) (ha : BIn w A n cs) (hb : Bytes cs) (hn : n ≤ 1048576) :
    Calls Try.prog 18 #[.slice A n c] w (SliceOut w) := by
  have HA := Lib.hid ha
  clear ha
  go_enter Try.func18, Try.ntmps18
  go_wp2_with fail
  refine (l1Source_any A n c cs _ HA.out hb hn).mono ?_
  rintro e w1 ⟨rfl, h1, h2⟩
  have HS := Lib.hid h1
  have HB := Lib.hid h2
  clear h1 h2
  go_wp2_with fail
  refine (l1Data_any _ A n c cs 0 _ HS.out (by omega)).mono ?_
  rintro e w2 ⟨B, m, d, zs, k', rfl, hm, h1, h2, hk, hs, h3⟩
  have hbb : w1.heap.size ≤ B.block := (h1.block B.block rfl).1
  have hgl := HS.out.box.lt
  have H1 := Lib.hid h1
  have H2 := Lib.hid h2
  have H3 := Lib.hid h3
  have HS2 := Lib.hid hs
  have HBW := Lib.hid (below_of_src HB.out h3 (Nat.le_refl _))
  have HOW := Lib.hid (h1.mono (B' := w.heap.size) HB.out.size)
  clear h1 h2 h3 hs
  by_cases h9 : m ≤ 9
  · have h9' : ¬ (9 : Int) < m := by omega
    go_wp2
    go_ret
    exact ⟨B, m, d, zs, rfl, hm, HOW.out, H2.out, HBW.out⟩
  · have h9' : (9 : Int) < m := by omega
    go_wp2_with fail
    refine (l1Chance_any _ A n c cs k' 4 _ HS2.out (by omega) (by omega)).mono ?_
    rintro e w3 ⟨v, rfl, _, h4⟩
    have HO3 := Lib.hid (HOW.out.grown h4 (.inr (fun e => by simp only [Option.map_some, Option.some.injEq] at e; omega)))
    have HB3 := Lib.hid (below_of_src HBW.out h4 (Nat.le_refl _))
    clear h4
    cases v
    · go_wp2_with fail
      refine (l1Seal_any _ _ _ _ zs 5 _ HO3.out H2.out (by omega) (by omega)).mono ?_
      rintro e w4 ⟨rfl, h5, h6⟩
      have H5 := Lib.hid h5
      have HB4 := Lib.hid (HB3.out.grown h6 HB3.out.size (fun r hr => (HO3.out.block r hr).1))
      clear h5 h6
      go_wp2
      go_ret
      exact ⟨B, m, d, _, rfl, hm, H5.out, sealN_bytes H2.out 5, HB4.out⟩
    · go_wp2
      go_ret
      exact ⟨B, m, d, zs, rfl, hm, HO3.out, H2.out, HB3.out⟩

theorem xor_one (v : Int) : 0 ≤ bits .xor .u8 v 1 ∧ bits .xor .u8 v 1 < 256 := by
  unfold bits
  rw [IntKind.wrap_u8]
  dsimp only
  omega

/-- Two slices of bytes that were drawn, in new memory. -/
def TwoOut (w : World) (e : Ending) (w' : World) : Prop := ∃ B m d zs B' m' d' zs', e = .returned (.tuple #[.slice B m d, .slice B' m' d']) ∧ m ≤ 401 ∧ m' ≤ 401 ∧ Own w' w.heap.size B m d zs ∧ Bytes zs ∧ Own w' w.heap.size B' m' d' zs' ∧ Bytes zs' ∧ Below w.heap.size w w'

set_option maxHeartbeats 1600000 in
theorem drawSame_any (A : Option Addr) (n c : Nat) (cs : List Int) (w : World) (ha : BIn w A n cs) (hb : Bytes cs) (hn : n ≤ 1048576) :
    Calls Try.prog 15 #[.slice A n c] w (TwoOut w) := by
  have HA := Lib.hid ha
  clear ha
  go_enter Try.func15, Try.ntmps15
  go_wp2_with fail
  refine (l1Source_any A n c cs _ HA.out hb hn).mono ?_
  rintro e w1 ⟨rfl, h1, h2⟩
  have HS := Lib.hid h1
  have HB := Lib.hid h2
  clear h1 h2
  go_wp2_with fail
  refine (l1Next_any _ A n c cs 0 9 _ HS.out (by omega) (by omega)).mono ?_
  rintro e w2 ⟨v, rfl, hv, hs, h3⟩
  obtain ⟨v0, v1⟩ := hv.2 (by omega)
  obtain ⟨m, rfl⟩ := Int.eq_ofNat_of_zero_le v0
  have hm : m < 9 := by omega
  have hgl := HS.out.box.lt
  have HS2 := Lib.hid hs
  have H3 := Lib.hid h3
  clear hs h3 hv v0 v1
  go_wp2_with fail
  refine (l1Some_any _ A n c cs _ m _ HS2.out (by omega)).mono ?_
  rintro e w3 ⟨B, d, zs, rfl, h1, h2, h3, h4⟩
  have hbb : w1.heap.size ≤ B.block := by have := (h1.block B.block rfl).1; have := H3.out.size; omega
  have HB3 := Lib.hid (below_of_src (below_of_src HB.out H3.out (Nat.le_refl _)) h4 (Nat.le_refl _))
  have HO3 := Lib.hid (h1.mono (B' := w.heap.size) (by have := HB.out.size; have := H3.out.size; omega))
  have HZ := Lib.hid h2
  have HS3 := Lib.hid h3
  clear h1 h2 h3 h4
  go_wp2_with fail
  refine (l1Copy_some B m d zs _ HO3.out.bin (by omega)).mono ?_
  rintro e w4 ⟨B', d', rfl, h1, h2⟩
  have HP4 := Lib.hid h1
  have hlt : B.block < w3.heap.size := (HO3.out.block B.block rfl).2
  have HO4 := Lib.hid (HO3.out.below h2)
  have HS4 := Lib.hid (HS3.out.below h2)
  have HB4 := Lib.hid (below_step HB3.out h2)
  have hw3 := HB3.out.size
  have hgl3 := HS3.out.box.lt
  clear h1 h2 HO3 HS3 HB3
  by_cases hm0 : m = 0
  · have h0' : ¬ (0 : Int) < m := by omega
    clear hm0
    go_wp2_with fail
    go_ret2
    exact ⟨_, m, d, zs, B', m, d', zs, rfl, by omega, by omega, HO4.out, HZ.out, HP4.out.mono hw3, HZ.out, HB4.out⟩
  · have h0' : (0 : Int) < m := by omega
    go_wp2_with fail
    refine (l1Chance_any _ A n c cs _ 2 _ HS4.out (by omega) (by omega)).mono ?_
    rintro e w5 ⟨v, rfl, h5, h6⟩
    obtain ⟨g', rfl, hg', _⟩ := HP4.out.form (by omega)
    have HO5 := Lib.hid (HO4.out.grown h6 (.inr (fun e => by simp only [Option.map_some, Option.some.injEq] at e; omega)))
    have HP5 := Lib.hid (HP4.out.grown h6 (.inr (fun e => by simp only [Option.map_some, Option.some.injEq] at e; omega)))
    have HB5 := Lib.hid (below_of_src HB4.out h6 (by have := HB.out.size; omega))
    have HS5 := Lib.hid h5
    clear h5 h6 HO4 HP4 HS4 HB4
    cases v
    · go_wp2_with fail
      go_ret2
      exact ⟨_, m, d, zs, _, m, d', zs, rfl, by omega, by omega, HO5.out, HZ.out, HP5.out.mono hw3, HZ.out, HB5.out⟩
    · go_wp2_with fail
      refine (l1Next_any _ A n c cs _ m _ HS5.out (by omega) (by omega)).mono ?_
      rintro e w6 ⟨v, rfl, hv, h5, h6⟩
      obtain ⟨v0, v1⟩ := hv.2 (by omega)
      obtain ⟨j, rfl⟩ := Int.eq_ofNat_of_zero_le v0
      have HO6 := Lib.hid (HO5.out.grown h6 (.inr (fun e => by simp only [Option.map_some, Option.some.injEq] at e; omega)))
      have HP6 := Lib.hid (HP5.out.grown h6 (.inr (fun e => by simp only [Option.map_some, Option.some.injEq] at e; omega)))
      have HB6 := Lib.hid (below_of_src HB5.out h6 (by have := HB.out.size; omega))
      clear h5 h6 hv HO5 HP5 HS5 HB5 v0
      have hc := HP6.out.cell (j := j) (by omega)
      have hf := HP6.out.frozen j
      have hz := HZ.out.at_ j
      obtain ⟨z, hze⟩ : ∃ z, zs.getD j 0 = z := ⟨_, rfl⟩
      rw [hze] at hc hz
      clear hze
      have hx := xor_one z
      obtain ⟨x, hxe⟩ : ∃ x, bits .xor .u8 z 1 = x := ⟨_, rfl⟩
      rw [hxe] at hx
      obtain ⟨ho7, hg7⟩ := HP6.out.stored j x
      have HP7 := Lib.hid ho7
      have HO7 := Lib.hid (HO6.out.grown hg7 (.inr (fun e => by simp only [Option.map_some, Option.some.injEq] at e; omega)))
      have HB7 := Lib.hid (HB6.out.grown hg7 HB6.out.size (fun r hr => by injection hr with hr; omega))
      clear ho7 hg7
      go_wp2
      go_ret2
      exact ⟨_, m, d, zs, _, m, d', _, rfl, by omega, by omega, HO7.out, HZ.out, HP7.out.mono hw3, HZ.out.set j x hx.1 hx.2, HB7.out⟩

end Go.Proofs.Ytbcfpgplkkggbaa
