/-
  Walks of both SealFletcher. No statement is proved here.
-/
import Derived.Test.YtamclkjofojhmaaCopy
import Derived.Test.YtamclkjofojhmaaSum
namespace Go.Proofs.Ytamclkjofojhmaa
open Go.RowKit

/-- The bytes with two zeros from p on; the two that seal them; all of them, sealed. -/
def zeroed (zs : List Int) (p : Nat) : List Int := (zs.set p 0).set (p + 1) 0
def sealX (zs : List Int) (p : Nat) : Int := (((zs.length : Int) - p - 2 + 1) * ((sums (zeroed zs p)).1 % 255) - (sums (zeroed zs p)).2 % 255) % 255
def sealY (zs : List Int) (p : Nat) : Int := ((sums (zeroed zs p)).2 % 255 - ((zs.length : Int) - p) * ((sums (zeroed zs p)).1 % 255)) % 255
def sealN (zs : List Int) (p : Nat) : List Int := ((zeroed zs p).set p (sealX zs p)).set (p + 1) (sealY zs p)

theorem Bytes.set {zs : List Int} (h : Bytes zs) (k : Nat) (u : Int) (h0 : 0 ≤ u) (h1 : u < 256) : Bytes (zs.set k u) := by
  intro z hz
  rcases List.mem_or_eq_of_mem_set hz with hm | rfl
  · exact h z hm
  · exact ⟨h0, h1⟩
theorem Bytes.zeroed {zs : List Int} (h : Bytes zs) (p : Nat) : Bytes (zeroed zs p) := (h.set p 0 (by omega) (by omega)).set (p + 1) 0 (by omega) (by omega)
theorem zeroed_len (zs : List Int) (p : Nat) : (zeroed zs p).length = zs.length := by simp [zeroed]
theorem sealN_len (zs : List Int) (p : Nat) : (sealN zs p).length = zs.length := by simp [sealN, zeroed]
theorem sealN_bytes {zs : List Int} (h : Bytes zs) (p : Nat) : Bytes (sealN zs p) :=
  ((h.zeroed p).set p _ (by unfold sealX; omega) (by unfold sealX; omega)).set (p + 1) _ (by unfold sealY; omega) (by unfold sealY; omega)

theorem mul_bd (a b : Int) (ha : 0 ≤ a) (ha' : a ≤ 402) (hb : 0 ≤ b) (hb' : b < 255) : 0 ≤ a * b ∧ a * b ≤ 102510 := by
  have h1 := Int.mul_nonneg ha hb
  have h2 : a * b ≤ 402 * b := Int.mul_le_mul_of_nonneg_right ha' hb
  omega
theorem wrap_id (x : Int) (h : -4611686018427387904 ≤ x) (h' : x ≤ 4611686018427387904) : wrap64 x = x := by unfold wrap64; omega
theorem wrapX (a b h : Int) (ha : 0 ≤ a) (ha' : a ≤ 402) (hb : 0 ≤ b) (hb' : b < 255) (hh : 0 ≤ h) (hh' : h < 255) : wrap64 (wrap64 (a * b) - h) = a * b - h := by
  have := mul_bd a b ha ha' hb hb'
  rw [wrap_id (a * b) (by omega) (by omega), wrap_id _ (by omega) (by omega)]
theorem wrapY (a b h : Int) (ha : 0 ≤ a) (ha' : a ≤ 402) (hb : 0 ≤ b) (hb' : b < 255) (hh : 0 ≤ h) (hh' : h < 255) : wrap64 (h - wrap64 (a * b)) = h - a * b := by
  have := mul_bd a b ha ha' hb hb'
  rw [wrap_id (a * b) (by omega) (by omega), wrap_id _ (by omega) (by omega)]

set_option maxHeartbeats 800000 in
theorem l1Seal_any (A : Option Addr) (B n c : Nat) (zs : List Int) (p : Nat) (w : World) (ho : Own w B A n c zs) (hb : Bytes zs) (hn : n ≤ 402) (hp : p + 2 ≤ n) :
    Calls Try.prog 63 #[.slice A n c, .int .i64 p] w fun e w' => e = .returned (.slice A n c) ∧ Own w' B A n c (sealN zs p) ∧ w.grownBy w' (A.map (·.block)) := by
  obtain ⟨g, rfl, hg, hgl⟩ := ho.form (by omega)
  have hl := ho.len
  have hc1 := ho.cell (j := p) (by omega)
  have hf1 := ho.frozen p
  obtain ⟨ho1, hg1⟩ := ho.stored p 0
  have hc2 := ho1.cell (j := p + 1) (by omega)
  have hf2 := ho1.frozen (p + 1)
  obtain ⟨ho2, hg2⟩ := ho1.stored (p + 1) 0
  have HO2 : Hid (Own _ B (some ⟨g, 0, none⟩) n c (zeroed zs p)) := Lib.hid ho2
  have HG2 := Lib.hid (grown_trans hg1 hg2)
  have HL := Lib.hid hl
  have hp0 : (0 : Int) ≤ p := by omega
  have hp1 : (p : Int) < n := by omega
  have hp2 : (p : Int) + 1 < n := by omega
  have hpt : ((p : Int) + 1).toNat = p + 1 := by omega
  clear ho ho1 ho2 hg1 hg2 hl
  go_enter Try.func63, Try.ntmps63
  go_wp2_with fail
  refine (l1Sum_any _ _ _ (zeroed zs p) _ HO2.out.bin (hb.zeroed p) (by omega)).mono ?_
  rintro e w1 ⟨rfl, rfl⟩
  go_wp2_with fail
  rw [wrapX _ _ _ (by omega) (by omega) (by omega) (by omega) (by omega) (by omega)]
  refine (l1Left_any _ _).mono ?_
  rintro e w1 ⟨rfl, rfl⟩
  obtain ⟨X, hX⟩ : ∃ X, (((n : Int) - p - 2 + 1) * ((sums (zeroed zs p)).1 % 255) - (sums (zeroed zs p)).2 % 255) % 255 = X := ⟨_, rfl⟩
  have hX0 : 0 ≤ X := by omega
  have hX1 : X < 255 := by omega
  rw [hX]
  have HX : Hid (sealX zs p = X) := by unfold Hid sealX; rw [HL.out]; exact hX
  clear hX
  obtain ⟨W, hW⟩ : ∃ W, W = (w.setCell ⟨g, p, none⟩ (.int .u8 0)).setCell ⟨g, p + 1, none⟩ (.int .u8 0) := ⟨_, rfl⟩
  rw [← hW]
  have HO3 : Hid (Own W B (some ⟨g, 0, none⟩) n c (zeroed zs p)) := by rw [hW]; exact HO2.out
  have HG3 : Hid (w.grownBy W (some g)) := by rw [hW]; exact HG2.out
  clear HO2 HG2 hc1 hf1 hc2 hf2 hW
  have hc3 := HO3.out.cell (j := p) (by omega)
  have hf3 := HO3.out.frozen p
  go_wp2_with fail
  obtain ⟨ho4, hg4⟩ := HO3.out.stored p X
  obtain ⟨V, hV⟩ : ∃ V, V = W.setCell ⟨g, p, none⟩ (.int .u8 X) := ⟨_, rfl⟩
  rw [← hV] at ho4 hg4 ⊢
  have HO4 := Lib.hid ho4
  have HG4 := Lib.hid (grown_trans HG3.out hg4)
  clear HO3 HG3 ho4 hg4 hV hc3 hf3
  rw [wrapY _ _ _ (by omega) (by omega) (by omega) (by omega) (by omega) (by omega)]
  refine (l1Left_any _ _).mono ?_
  rintro e w1 ⟨rfl, rfl⟩
  obtain ⟨Y, hY⟩ : ∃ Y, ((sums (zeroed zs p)).2 % 255 - ((n : Int) - p) * ((sums (zeroed zs p)).1 % 255)) % 255 = Y := ⟨_, rfl⟩
  have hY0 : 0 ≤ Y := by omega
  have hY1 : Y < 255 := by omega
  rw [hY]
  have HY : Hid (sealY zs p = Y) := by unfold Hid sealY; rw [HL.out]; exact hY
  clear hY
  have hc5 := HO4.out.cell (j := p + 1) (by omega)
  have hf5 := HO4.out.frozen (p + 1)
  go_wp2
  go_ret
  obtain ⟨ho6, hg6⟩ := HO4.out.stored (p + 1) Y
  refine ⟨rfl, ?_, grown_trans HG4.out hg6⟩
  unfold sealN
  rw [HX.out, HY.out]
  exact ho6

theorem seal_many (A : Option Addr) (n c : Nat) (a : Int) (w : World) (h : 400 < n) (hn : n ≤ 1048576) :
    Calls Try.prog 56 #[.slice A n c, .int .i64 a] w fun e w' => e = .returned (.agg #[.int .i64 2, .slice none 0 0]) ∧ Below w.heap.size w w' := by
  have h1 : (400 : Int) < n := by omega
  go_enter Try.func56, Try.ntmps56
  go_wp2_with fail
  exact bodyPost_ret (v := .agg #[.int .i64 2, .slice none 0 0]) (by simp [results, Try.results56, go_sem]) rfl ⟨rfl, (Below.refl _ _).alloc (Nat.le_refl _) _⟩

theorem seal_no (A : Option Addr) (n c : Nat) (a : Int) (w : World) (hn : n ≤ 400) (h : ¬ (0 ≤ a ∧ a ≤ (n : Int) - 2)) :
    Calls Try.prog 56 #[.slice A n c, .int .i64 a] w fun e w' => e = .returned (.agg #[.int .i64 3, .slice none 0 0]) ∧ Below w.heap.size w w' := by
  have h1 : ¬ (400 : Int) < n := by omega
  have HA := Lib.hid (allIn_one_no (lo := 0) (hi := (n : Int) - 2) (v := a) h)
  clear h
  go_enter Try.func56, Try.ntmps56
  go_wp2_with fail
  refine (allWithin_one _ _ _ a _ (by go_simp)).mono ?_
  rw [HA.out]
  rintro e w1 ⟨rfl, rfl⟩
  go_wp2_with fail
  exact bodyPost_ret (v := .agg #[.int .i64 3, .slice none 0 0]) (by simp [results, Try.results56, go_sem]) rfl ⟨rfl, ((Below.refl _ _).alloc (Nat.le_refl _) _).alloc (by simp) _⟩

set_option maxHeartbeats 1600000 in
theorem seal_yes (A : Option Addr) (n c : Nat) (zs : List Int) (p : Nat) (w : World) (ha : BIn w A n zs) (hb : Bytes zs) (hn : n ≤ 400) (hp : p + 2 ≤ n) :
    Calls Try.prog 56 #[.slice A n c, .int .i64 p] w fun e w' => ∃ A' c', e = .returned (.agg #[.int .i64 0, .slice A' n c']) ∧ Own w' w.heap.size A' n c' (sealN zs p) ∧ Below w.heap.size w w' := by
  have h1 : ¬ (400 : Int) < n := by omega
  have HA := Lib.hid (allIn_one_yes (lo := 0) (hi := (n : Int) - 2) (v := (p : Int)) (by omega) (by omega))
  have HI := Lib.hid ha
  have hp0 : (0 : Int) ≤ p := by omega
  have hp1 : (p : Int) < n := by omega
  have hp2 : (p : Int) + 1 < n := by omega
  have hpt : ((p : Int) + 1).toNat = p + 1 := by omega
  have HL := Lib.hid ha.1
  clear ha
  go_enter Try.func56, Try.ntmps56
  go_wp2_with fail
  refine (allWithin_one _ _ _ (p : Int) _ (by go_simp)).mono ?_
  rw [HA.out]
  rintro e w1 ⟨rfl, rfl⟩
  go_wp2_with fail
  obtain ⟨W0, hW0⟩ : ∃ W0 : World, W0 = (w.alloc (.cells #[.int .i64 0, .slice none 0 0] 32)).alloc (.cells #[.int .i64 (p : Int)] 2) := ⟨_, rfl⟩
  have HB0 : Hid (Below w.heap.size w W0) := by rw [hW0]; exact ((Below.refl _ _).alloc (Nat.le_refl _) _).alloc (by simp) _
  have HX0 : Hid (Box W0 w.heap.size 32 #[.int .i64 0, .slice none 0 0]) := by rw [hW0]; exact (Box.made w _ _).below ((Below.refl _ _).alloc (Nat.le_refl _) _)
  have HI0 := Lib.hid (HI.out.below HB0.out)
  rw [← hW0]
  clear hW0 HI
  refine (clone_any _ _ _ zs _ HI0.out (by omega) (by omega)).mono ?_
  rintro e w1 ⟨A', c', rfl, ho1, hb1⟩
  have HX1 := Lib.hid (HX0.out.below hb1)
  have HB1 := Lib.hid (below_step HB0.out hb1)
  have hlo : w.heap.size < W0.heap.size := HX0.out.lt
  obtain ⟨g, rfl, hg, hgl⟩ := ho1.form (by omega)
  have hgw : w.heap.size < g := by omega
  have ho1 := ho1.mono (B' := w.heap.size) (by omega)
  clear HX0 HB0 HI0 hb1 hg hgl hlo
  have hc1 := ho1.cell (j := p) (by omega)
  have hf1 := ho1.frozen p
  obtain ⟨ho2, hg2⟩ := ho1.stored p 0
  have hc2 := ho2.cell (j := p + 1) (by omega)
  have hf2 := ho2.frozen (p + 1)
  obtain ⟨ho3, hg3⟩ := ho2.stored (p + 1) 0
  have HO3 : Hid (Own _ w.heap.size (some ⟨g, 0, none⟩) n c' (zeroed zs p)) := Lib.hid ho3
  have hg23 := grown_trans hg2 hg3
  have HX3 := Lib.hid (HX1.out.grown hg23 (by simp; omega))
  have HB3 := Lib.hid (HB1.out.grown hg23 HB1.out.size (fun r hr => by injection hr with hr; omega))
  clear ho1 ho2 ho3 hg2 hg3 hg23 HX1 HB1
  go_wp2_with fail
  obtain ⟨W4, hW4⟩ : ∃ W4 : World, W4 = (w1.setCell ⟨g, p, none⟩ (.int .u8 0)).setCell ⟨g, p + 1, none⟩ (.int .u8 0) := ⟨_, rfl⟩
  rw [← hW4] at HO3 HX3 HB3 ⊢
  clear hW4 hc1 hf1 hc2 hf2
  refine (fletcher_any _ _ _ (zeroed zs p) _ HO3.out.bin (hb.zeroed p) (by omega)).mono ?_
  rintro e w5 ⟨rfl, hb5⟩
  have HO5 := Lib.hid (HO3.out.below hb5)
  have HX5 := Lib.hid (HX3.out.below hb5)
  have HB5 := Lib.hid (below_step HB3.out hb5)
  clear HO3 HX3 HB3 hb5
  have hfl : flow (zeroed zs p) = (sums (zeroed zs p)).1 % 255 := by unfold flow; rw [if_pos (by rw [zeroed_len, HL.out]; omega)]
  have hfh : fhigh (zeroed zs p) = (sums (zeroed zs p)).2 % 255 := by unfold fhigh; rw [if_pos (by rw [zeroed_len, HL.out]; omega)]
  obtain ⟨L, hL⟩ : ∃ L, flow (zeroed zs p) = L := ⟨_, rfl⟩
  obtain ⟨H, hH⟩ : ∃ H, fhigh (zeroed zs p) = H := ⟨_, rfl⟩
  rw [hL, hH]
  rw [hL] at hfl
  rw [hH] at hfh
  have hL0 : 0 ≤ L := by omega
  have hL1 : L < 255 := by omega
  have hH0 : 0 ≤ H := by omega
  have hH1 : H < 255 := by omega
  have HFL := Lib.hid hfl
  have HFH := Lib.hid hfh
  clear hfl hfh hL hH
  go_wp2_with fail
  rw [wrapX _ _ _ (by omega) (by omega) (by omega) (by omega) (by omega) (by omega)]
  refine (sumRest_any _ _).mono ?_
  rintro e w6 ⟨rfl, rfl⟩
  obtain ⟨X, hX⟩ : ∃ X, (((n : Int) - p - 2 + 1) * L - H) % 255 = X := ⟨_, rfl⟩
  have hX0 : 0 ≤ X := by omega
  have hX1 : X < 255 := by omega
  rw [hX]
  have HXE : Hid (sealX zs p = X) := by unfold Hid sealX; rw [HL.out, ← HFL.out, ← HFH.out]; exact hX
  clear hX
  obtain ⟨W6, hW6⟩ : ∃ W6 : World, W6 = w5.alloc (.cells #[.int .i64 (fcode (zeroed zs p)), .int .i64 L, .int .i64 H] 124) := ⟨_, rfl⟩
  have hbA : Below w5.heap.size w5 W6 := by rw [hW6]; exact (Below.refl _ _).alloc (Nat.le_refl _) _
  have hY6 : Box W6 w5.heap.size 124 #[.int .i64 (fcode (zeroed zs p)), .int .i64 L, .int .i64 H] := by rw [hW6]; exact Box.made _ _ _
  have HO6 := Lib.hid (HO5.out.below hbA)
  have HX6 := Lib.hid (HX5.out.below hbA)
  have HB6 := Lib.hid (below_step HB5.out hbA)
  have hne : w5.heap.size ≠ w.heap.size := by have := HX5.out.lt; omega
  have HNE := Lib.hid hne
  have HY6 := Lib.hid hY6
  rw [← hW6]
  clear hW6 hbA HO5 HX5 HB5 hY6 hne
  have hc6 := HO6.out.cell (j := p) (by omega)
  have hf6 := HO6.out.frozen p
  obtain ⟨ho7, hg7⟩ := HO6.out.stored p X
  have hg5 := HO6.out.ne_box HY6.out (by decide)
  have hY7 : Box (W6.setCell ⟨g, p, none⟩ (.int .u8 X)) w5.heap.size 124 #[.int .i64 (fcode (zeroed zs p)), .int .i64 L, .int .i64 H] := HY6.out.grown hg7 (by simpa using hg5)
  have HY7 := Lib.hid hY7
  have HX7 := Lib.hid (HX6.out.grown hg7 (by simp; omega))
  have HB7 := Lib.hid (HB6.out.grown hg7 HB6.out.size (fun r hr => by injection hr with hr; omega))
  have HO7 := Lib.hid ho7
  have j1 := HY6.out.look 1
  have j2 := HY6.out.look 2
  have k1 := hY7.look 1
  have k2 := hY7.look 2
  clear ho7 hg7 hg5 hY7
  go_wp2_with fail
  obtain ⟨W7, hW7⟩ : ∃ W7 : World, W7 = (W6.setCell ⟨g, p, none⟩ (.int .u8 X)) := ⟨_, rfl⟩
  rw [← hW7] at HY7 HX7 HB7 HO7 ⊢
  clear hW7 hc6 hf6 j1 j2 k1 k2
  rw [wrapY _ _ _ (by omega) (by omega) (by omega) (by omega) (by omega) (by omega)]
  refine (sumRest_any _ _).mono ?_
  rintro e w8 ⟨rfl, rfl⟩
  obtain ⟨Y, hY⟩ : ∃ Y, (H - ((n : Int) - p) * L) % 255 = Y := ⟨_, rfl⟩
  have hY0 : 0 ≤ Y := by omega
  have hY1 : Y < 255 := by omega
  rw [hY]
  have HYE : Hid (sealY zs p = Y) := by unfold Hid sealY; rw [HL.out, ← HFL.out, ← HFH.out]; exact hY
  clear hY
  have hc8 := HO7.out.cell (j := p + 1) (by omega)
  have hf8 := HO7.out.frozen (p + 1)
  obtain ⟨ho9, hg9⟩ := HO7.out.stored (p + 1) Y
  have HX9 := Lib.hid (HX7.out.grown hg9 (by simp; omega))
  have HB9 := Lib.hid (HB7.out.grown hg9 HB7.out.size (fun r hr => by injection hr with hr; omega))
  have HO9 := Lib.hid ho9
  have c0 := HX9.out.look 0
  have c1 := HX9.out.look 1
  have f0 := HX9.out.free 0
  have f1 := HX9.out.free 1
  clear ho9 hg9
  go_wp2_with fail
  refine bodyPost_ret (v := .agg #[.int .i64 0, .slice (some ⟨g, 0, none⟩) n c']) (by simp [results, Try.results56, go_sem, c0, c1]) rfl ⟨_, _, rfl, ?_, ?_⟩
  · unfold sealN
    rw [HXE.out, HYE.out]
    exact (HO9.out.grown (setCell_grown _ _ _) (.inr (by simp; omega))).grown (setCell_grown _ _ _) (.inr (by simp; omega))
  · exact (HB9.out.setCell (by simp) _).setCell (by simp) _

/-- What both SealFletcher answer. -/
def sOK (n : Nat) (a : Int) : Prop := n ≤ 400 ∧ 0 ≤ a ∧ a ≤ (n : Int) - 2
instance (n : Nat) (a : Int) : Decidable (sOK n a) := by unfold sOK; infer_instance
def scode (n : Nat) (a : Int) : Int := if 400 < n then 2 else if sOK n a then 0 else 3
def sbytes (zs : List Int) (a : Int) : List Int := if sOK zs.length a then sealN zs a.toNat else []
theorem sbytes_len (zs : List Int) (a : Int) : (sbytes zs a).length ≤ 400 := by
  unfold sbytes
  split
  · rename_i h; rw [sealN_len]; exact h.1
  · simp
theorem sbytes_bytes (zs : List Int) (a : Int) (hb : Bytes zs) : Bytes (sbytes zs a) := by
  unfold sbytes
  split
  · exact sealN_bytes hb _
  · intro z hz; cases hz

theorem seal_any (A : Option Addr) (n c : Nat) (zs : List Int) (a : Int) (w : World) (ha : BIn w A n zs) (hb : Bytes zs) (hn : n ≤ 1048576) :
    Calls Try.prog 56 #[.slice A n c, .int .i64 a] w fun e w' => ∃ A' n' c', e = .returned (.agg #[.int .i64 (scode n a), .slice A' n' c']) ∧ Own w' w.heap.size A' n' c' (sbytes zs a) ∧ Below w.heap.size w w' := by
  have hl := ha.1
  unfold scode sbytes
  rw [hl]
  by_cases h4 : 400 < n
  · rw [if_pos h4, if_neg (fun h : sOK n a => absurd h.1 (by omega))]
    exact (seal_many A n c a w h4 hn).mono fun e w' ⟨h1, h2⟩ => ⟨none, 0, 0, h1, Own.nil_ _ _, h2⟩
  · rw [if_neg h4]
    by_cases h : sOK n a
    · rw [if_pos h, if_pos h]
      obtain ⟨p, rfl⟩ := Int.eq_ofNat_of_zero_le h.2.1
      have h3 := h.2.2
      exact (seal_yes A n c zs p w ha hb (by omega) (by omega)).mono fun e w' ⟨A', c', h1, h2, h3⟩ => ⟨A', n, c', h1, h2, h3⟩
    · rw [if_neg h, if_neg h]
      exact (seal_no A n c a w (by omega) (fun h' => h ⟨by omega, h'.1, h'.2⟩)).mono fun e w' ⟨h1, h2⟩ => ⟨none, 0, 0, h1, Own.nil_ _ _, h2⟩

end Go.Proofs.Ytamclkjofojhmaa
