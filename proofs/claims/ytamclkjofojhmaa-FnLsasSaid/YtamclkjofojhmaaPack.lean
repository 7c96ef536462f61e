/-
  Walks of both PackWord. No statement is proved here.
-/
import Derived.Test.YtamclkjofojhmaaHelp
import Derived.Test.YtamclkjofojhmaaSum
namespace Go.Proofs.Ytamclkjofojhmaa
open Go.RowKit

/-- The bytes of a number, the highest one first. -/
def packN (m : Int) (s : Nat) : List Int := (List.range s).map fun (j : Nat) => (m / 256 ^ (s - 1 - j)) % 256
theorem packN_len (m : Int) (s : Nat) : (packN m s).length = s := by simp [packN]
theorem packN_at (m : Int) (s j : Nat) (h : j < s) : (packN m s).getD j 0 = (m / 256 ^ (s - 1 - j)) % 256 := by simp [packN, List.getD, h]
theorem packN_bytes (m : Int) (s : Nat) : Bytes (packN m s) := by
  intro z hz
  obtain ⟨j, _, rfl⟩ := List.mem_map.1 hz
  omega
theorem div_step (m : Int) (k : Nat) : m / 256 ^ k / 256 = m / 256 ^ (k + 1) := by
  rw [Int.pow_succ, Int.ediv_ediv_of_nonneg (Int.pow_nonneg (by decide))]
theorem pow_eq (k : Nat) : (2 : Int) ^ (8 * k) = 256 ^ k := by rw [Int.pow_mul]; rfl
theorem div_nonneg (m : Int) (k : Nat) (h : 0 ≤ m) : 0 ≤ m / 256 ^ k := Int.ediv_nonneg h (Int.pow_nonneg (by decide))
theorem wrap_top (s : Nat) (h1 : 1 ≤ s) (h6 : s ≤ 6) : wrap64 (wrap64 (2 ^ (8 * s)) - 1) = 256 ^ s - 1 := by
  rcases (show s = 1 ∨ s = 2 ∨ s = 3 ∨ s = 4 ∨ s = 5 ∨ s = 6 by omega) with rfl | rfl | rfl | rfl | rfl | rfl <;> decide +kernel

set_option maxHeartbeats 1000000 in
theorem pack_yes (m : Int) (s : Nat) (w : World) (h1 : 1 ≤ s) (h6 : s ≤ 6) (h0 : 0 ≤ m) (hm : m < 256 ^ s) :
    Calls Try.prog 134 #[.int .i64 m, .int .i64 s] w fun e w' => ∃ A c, e = .returned (.agg #[.int .i64 0, .slice A s c]) ∧ Own w' w.heap.size A s c (packN m s) ∧ Below w.heap.size w w' := by
  have HA := Lib.hid (allIn_one_yes (lo := 1) (hi := 6) (v := (s : Int)) (by omega) (by omega))
  have HB := Lib.hid (allIn_one_yes (lo := 0) (hi := (256 : Int) ^ s - 1) (v := m) h0 (by omega))
  have HW := Lib.hid (wrap_top s h1 h6)
  have HM := Lib.hid hm
  clear hm
  obtain ⟨i0, hi, hz0, hz1, hz2⟩ := info_parts byteInfo
  go_enter Try.func134, Try.ntmps134
  go_wp2_with fail
  refine (allWithin_one _ _ _ (s : Int) _ (by go_simp)).mono ?_
  rw [HA.out]
  rintro e w1 ⟨rfl, rfl⟩
  go_wp2_with fail
  rw [HW.out]
  refine (allWithin_one _ _ _ m _ (by go_simp)).mono ?_
  rw [HB.out]
  rintro e w1 ⟨rfl, rfl⟩
  go_wp2_with (at_make; refine wpList_make_full _ rfl _ _ 22 rfl w.heap.size 5 i0 (.int .u8 0) 1 Try.underlying22 hi hz0 hz1 .i64 .i64 _ _ s rfl rfl rfl rfl (by rw [hz2]; omega) (by unfold maxLen; omega) (by simp; omega) ?_; intro w1 hown1 hg1)
  have hX : Box w1 w.heap.size 32 #[.int .i64 0, .slice none 0 0] := by
    refine Box.grown ?_ hg1 (by simp)
    exact (((Box.made w _ _).below ((Below.refl _ _).alloc (Nat.le_refl _) _)).below ((Below.refl _ _).alloc (Nat.le_refl _) _))
  have hb1 : Below w.heap.size w w1 := ((((Below.refl _ _).alloc (Nat.le_refl _) _).alloc (by simp) _).alloc (by simp; omega) _).grown hg1 (by simp; omega) (by simp)
  have hown2 : Own w1 w.heap.size (some ⟨w.heap.size + 1 + 1 + 1, 0, none⟩) s s (List.replicate s 0) := Own.made (by simpa only [World.size_alloc] using hown1)
  clear hg1 hown1 hi hz0 hz1 hz2
  have hX := Lib.hid hX
  go_loopw [26] (fun i wr => ∃ k : Nat, k ≤ s ∧ i = .int .i64 k ∧ Hid (Box wr w.heap.size 32 #[.int .i64 0, .slice none 0 0]) ∧ Below w.heap.size w wr ∧
      ∃ zs, Own wr w.heap.size (some ⟨w.heap.size + 1 + 1 + 1, 0, none⟩) s s zs ∧ Hid (∀ j, j < s → s - k ≤ j → zs.getD j 0 = (m / 256 ^ (s - 1 - j)) % 256))
    (fun i _ => s - (intOf i).toNat)
  case atStart => exact ⟨0, Nat.zero_le _, rfl, hX, hb1, _, hown2, fun j h h' => absurd h (by omega)⟩
  case round =>
    obtain ⟨k, hk, rfl, HX, hbw, zs, hown, HS⟩ := hrel
    by_cases hlt : k < s
    · have hlt' : (k : Int) < s := by omega
      have hix : ((s : Int) - 1 - k).toNat = s - 1 - k := by omega
      have hi0 : 0 ≤ (s : Int) - 1 - k := by omega
      have hi1 : (s : Int) - 1 - k < s := by omega
      have hc := hown.cell (j := s - 1 - k) (by omega)
      have hf := hown.frozen (s - 1 - k)
      obtain ⟨hown', hg'⟩ := hown.stored (s - 1 - k) (m / 2 ^ (8 * k) % 256)
      have HO := Lib.hid hown'
      have HL := Lib.hid hown.len
      have HB := Lib.hid (hbw.grown hg' (by have := hbw.size; omega) (fun q hq => by injection hq with hq; omega))
      have HX' := Lib.hid (HX.out.grown hg' (by simp; omega))
      clear hown hown' hg' hbw HX
      go_wp2
      go_roundw
      case rel => exact ⟨k + 1, by omega, by go_num, HX', HB.out, _, HO.out, fun j h h' => by
        rw [getD_set _ _ _ _ (by rw [HL.out]; omega)]
        by_cases e : j = s - 1 - k
        · rw [if_pos e, e, pow_eq, show s - 1 - (s - 1 - k) = k by omega]
        · rw [if_neg e]; exact HS.out j h (by omega)⟩
      case measure => simp [intOf]; omega
    · have hf0 := HX.out.free 0
      have hf1 := HX.out.free 1
      have c0 := HX.out.look 0
      have c1 := HX.out.look 1
      have hsz := hbw.size
      go_wp2
      have e : zs = packN m s := take_eq_all hown.len (packN_len _ _) (fun i hi => by rw [packN_at _ _ _ hi]; exact HS.out i hi (by omega))
      subst e
      refine bodyPost_ret (v := .agg #[.int .i64 0, .slice (some ⟨w.heap.size + 1 + 1 + 1, 0, none⟩) s s]) (by simp [results, Try.results134, go_sem, c0, c1]) rfl ⟨_, _, rfl, ?_, ?_⟩
      · exact (hown.grown (setCell_grown _ _ _) (.inr (by simp; omega))).grown (setCell_grown _ _ _) (.inr (by simp; omega))
      · exact (hbw.setCell (by simp) _).setCell (by simp) _

theorem pack_no (m s : Int) (w : World) (h : ¬ (1 ≤ s ∧ s ≤ 6 ∧ 0 ≤ m ∧ m < 256 ^ s.toNat)) :
    Calls Try.prog 134 #[.int .i64 m, .int .i64 s] w fun e w' => e = .returned (.agg #[.int .i64 3, .slice none 0 0]) ∧ Below w.heap.size w w' := by
  by_cases h1 : 1 ≤ s ∧ s ≤ 6
  · obtain ⟨q, rfl⟩ := Int.eq_ofNat_of_zero_le (show 0 ≤ s by omega)
    simp only [Int.toNat_natCast] at h
    have HB := Lib.hid (allIn_one_no (lo := 0) (hi := (256 : Int) ^ q - 1) (v := m) (by omega))
    have HA := Lib.hid (allIn_one_yes h1.1 h1.2)
    have HW := Lib.hid (wrap_top q (by omega) (by omega))
    obtain ⟨h2, h3⟩ := h1
    clear h
    go_enter Try.func134, Try.ntmps134
    go_wp2_with fail
    refine (allWithin_one _ _ _ (q : Int) _ (by go_simp)).mono ?_
    rw [HA.out]
    rintro e w1 ⟨rfl, rfl⟩
    go_wp2_with fail
    rw [HW.out]
    refine (allWithin_one _ _ _ m _ (by go_simp)).mono ?_
    rw [HB.out]
    rintro e w1 ⟨rfl, rfl⟩
    go_wp2_with fail
    exact bodyPost_ret (v := .agg #[.int .i64 3, .slice none 0 0]) (by simp [results, Try.results134, go_sem]) rfl ⟨rfl, (((Below.refl _ _).alloc (Nat.le_refl _) _).alloc (by simp) _).alloc (by simp; omega) _⟩
  · have HA := Lib.hid (allIn_one_no (lo := 1) (hi := 6) (v := s) h1)
    clear h1 h
    go_enter Try.func134, Try.ntmps134
    go_wp2_with fail
    refine (allWithin_one _ _ _ s _ (by go_simp)).mono ?_
    rw [HA.out]
    rintro e w1 ⟨rfl, rfl⟩
    go_wp2_with fail
    exact bodyPost_ret (v := .agg #[.int .i64 3, .slice none 0 0]) (by simp [results, Try.results134, go_sem]) rfl ⟨rfl, ((Below.refl _ _).alloc (Nat.le_refl _) _).alloc (by simp) _⟩

set_option maxHeartbeats 400000 in
theorem l1Pack_any (m : Int) (s : Nat) (w : World) (h6 : s ≤ 6) (h0 : 0 ≤ m) (hm : m < 281474976710656) :
    Calls Try.prog 112 #[.int .i64 m, .int .i64 s] w fun e w' => ∃ A c, e = .returned (.slice A s c) ∧ Own w' w.heap.size A s c (packN m s) ∧ Below w.heap.size w w' := by
  obtain ⟨i0, hi, hz0, hz1, hz2⟩ := info_parts byteInfo
  go_enter Try.func112, Try.ntmps112
  go_wp2_with (at_make; refine wpList_make_full _ rfl _ _ 22 rfl w.heap.size 5 i0 (.int .u8 0) 1 Try.underlying22 hi hz0 hz1 .i64 .i64 _ _ s rfl rfl rfl rfl (by rw [hz2]; omega) (by unfold maxLen; omega) (Nat.le_refl _) ?_; intro w1 hown1 hg1)
  have hb1 := below_of_grown hg1
  have hown2 := Own.made hown1
  clear hg1 hown1 hi hz0 hz1 hz2
  obtain ⟨B, HB⟩ : ∃ B, Hid (B = w.heap.size) := ⟨_, Lib.hid rfl⟩
  rw [← HB.out] at hown2 hb1 ⊢
  go_loopw [0, 6] (fun q i wr => ∃ k : Nat, k ≤ s ∧ i = .int .i64 ((s : Int) - 1 - k) ∧ q = .int .i64 (m / 256 ^ k) ∧ Below B w wr ∧
      ∃ zs, Own wr B (some ⟨B, 0, none⟩) s s zs ∧ Hid (∀ j, j < s → s - k ≤ j → zs.getD j 0 = (m / 256 ^ (s - 1 - j)) % 256))
    (fun _ i _ => (intOf i + 1).toNat)
  case atStart => exact ⟨0, Nat.zero_le _, by simp, by simp, hb1, _, hown2, fun j h h' => absurd h (by omega)⟩
  case round =>
    obtain ⟨k, hk, rfl, hq, hbw, zs, hown, HS⟩ := hrel
    have hqn := div_nonneg m k h0
    have hqu : m / 256 ^ k < 281474976710656 := Int.lt_of_le_of_lt (Int.ediv_le_self _ h0) hm
    have HD := Lib.hid (div_step m k)
    obtain ⟨q, hqe⟩ : ∃ q, m / 256 ^ k = q := ⟨_, rfl⟩
    rw [hqe] at hq hqn hqu
    subst hq
    have HQ := Lib.hid hqe
    clear hqe
    by_cases hlt : k < s
    · have hlt' : (0 : Int) ≤ (s : Int) - 1 - k := by omega
      have hix : ((s : Int) - 1 - k).toNat = s - 1 - k := by omega
      have hi1 : (s : Int) - 1 - k < s := by omega
      have hc := hown.cell (j := s - 1 - k) (by omega)
      have hf := hown.frozen (s - 1 - k)
      obtain ⟨hown', hg'⟩ := hown.stored (s - 1 - k) (q % 256)
      have HO := Lib.hid hown'
      have HL := Lib.hid hown.len
      have HB' := Lib.hid (hbw.setCell (p := ⟨B, s - 1 - k, none⟩) (Nat.le_refl _) (.int .u8 (q % 256)))
      clear hown hown' hg' hbw
      go_wp2
      go_roundw
      case rel => exact ⟨k + 1, by omega, by go_num, by rw [← HD.out, HQ.out], HB'.out, _, HO.out, fun j h h' => by
        rw [getD_set _ _ _ _ (by rw [HL.out]; omega)]
        by_cases e : j = s - 1 - k
        · rw [if_pos e, e, show s - 1 - (s - 1 - k) = k by omega, HQ.out]
        · rw [if_neg e]; exact HS.out j h (by omega)⟩
      case measure => simp [intOf]; omega
    · have hlt' : ¬ (0 : Int) ≤ (s : Int) - 1 - k := by omega
      have HO := Lib.hid hown
      have HB' := Lib.hid hbw
      clear hown hbw
      go_wp2
      go_ret
      have e : zs = packN m s := take_eq_all HO.out.len (packN_len _ _) (fun i hi => by rw [packN_at _ _ _ hi]; exact HS.out i hi (by omega))
      obtain rfl := HB.out
      exact ⟨_, _, rfl, e ▸ HO.out, HB'.out⟩

theorem pow_lt (s : Nat) (h6 : s ≤ 6) (m : Int) (hm : m < 256 ^ s) : m < 281474976710656 := by
  rcases (show s = 0 ∨ s = 1 ∨ s = 2 ∨ s = 3 ∨ s = 4 ∨ s = 5 ∨ s = 6 by omega) with rfl | rfl | rfl | rfl | rfl | rfl | rfl <;> omega

theorem div_zero_iff (m : Int) (s : Nat) (h0 : 0 ≤ m) : m / 256 ^ s = 0 ↔ m < 256 ^ s := by
  have hp : (0 : Int) < 256 ^ s := Int.pow_pos (by decide)
  constructor
  · intro h
    have := Int.lt_ediv_add_one_mul_self m hp
    rw [h] at this
    omega
  · exact fun h => Int.ediv_eq_zero_of_lt h0 h

/-- What both PackWord answer: a code, how many bytes, and the bytes. -/
def pOK (m s : Int) : Prop := 1 ≤ s ∧ s ≤ 6 ∧ 0 ≤ m ∧ m < 256 ^ s.toNat
instance (m s : Int) : Decidable (pOK m s) := by unfold pOK; infer_instance
def pcode (m s : Int) : Int := if pOK m s then 0 else 3
def pbytes (m s : Int) : List Int := if pOK m s then packN m s.toNat else []

theorem pbytes_bytes (m s : Int) : Bytes (pbytes m s) := by
  unfold pbytes
  split
  · exact packN_bytes _ _
  · intro z hz; cases hz
theorem pbytes_len (m s : Int) : (pbytes m s).length ≤ 6 := by
  unfold pbytes
  split
  · rename_i h
    unfold pOK at h
    rw [packN_len]; omega
  · simp

theorem pack_any (m s : Int) (w : World) :
    Calls Try.prog 134 #[.int .i64 m, .int .i64 s] w fun e w' => ∃ A n c, e = .returned (.agg #[.int .i64 (pcode m s), .slice A n c]) ∧ Own w' w.heap.size A n c (pbytes m s) ∧ Below w.heap.size w w' := by
  unfold pcode pbytes
  by_cases h : pOK m s
  · rw [if_pos h, if_pos h]
    unfold pOK at h
    obtain ⟨q, rfl⟩ := Int.eq_ofNat_of_zero_le (show 0 ≤ s by omega)
    exact (pack_yes m q w (by omega) (by omega) h.2.2.1 h.2.2.2).mono fun e w' ⟨A, c, h1, h2, h3⟩ => ⟨A, q, c, h1, h2, h3⟩
  · rw [if_neg h, if_neg h]
    exact (pack_no m s w h).mono fun e w' ⟨h1, h2⟩ => ⟨none, 0, 0, h1, Own.nil_ _ _, h2⟩

end Go.Proofs.Ytamclkjofojhmaa
