/-
  Walks of both ReadWord. No statement is proved here.
-/
import Derived.Test.YtamclkjofojhmaaHelp
import Derived.Test.YtamclkjofojhmaaSum
namespace Go.Proofs.Ytamclkjofojhmaa
open Go.RowKit

/-- The number that bytes tell, the highest one first. -/
def readN (zs : List Int) : Int := zs.foldl (fun n z => n * 256 + z) 0
theorem readN_snoc (zs : List Int) (z : Int) : readN (zs ++ [z]) = readN zs * 256 + z := by simp [readN, List.foldl_append]
theorem readN_bd (zs : List Int) (hb : Bytes zs) (k : Nat) (hk : k ≤ zs.length) (h6 : k ≤ 6) : 0 ≤ readN (zs.take k) ∧ readN (zs.take k) < 256 ^ k := by
  induction k with
  | zero => simp [readN]
  | succ k ih =>
    have ih := ih (by omega) (by omega)
    have hz := hb.at_ k
    rw [take_snoc _ _ (by omega), readN_snoc, Int.pow_succ]
    omega
theorem readN_lt40 (zs : List Int) (hb : Bytes zs) (k : Nat) (hk : k ≤ zs.length) (h6 : k < 6) : 0 ≤ readN (zs.take k) ∧ readN (zs.take k) < 1099511627776 := by
  have h := readN_bd zs hb k hk (by omega)
  have : (256 : Int) ^ k ≤ 1099511627776 := by
    rcases (show k = 0 ∨ k = 1 ∨ k = 2 ∨ k = 3 ∨ k = 4 ∨ k = 5 by omega) with rfl | rfl | rfl | rfl | rfl | rfl <;> decide
  omega

theorem or_byte (r z : Int) (hr0 : 0 ≤ r) (hr1 : r < 1099511627776) (hz0 : 0 ≤ z) (hz1 : z < 256) : bits .or .i64 (r * 256) z = r * 256 + z := by
  obtain ⟨a, rfl⟩ := Int.eq_ofNat_of_zero_le hr0
  obtain ⟨b, rfl⟩ := Int.eq_ofNat_of_zero_le hz0
  unfold bits
  have ea : (BitVec.ofInt IntKind.i64.bits ((a : Int) * 256)).toNat = a * 256 := by
    rw [BitVec.toNat_ofInt]
    show (((a : Int) * 256) % (2 ^ 64 : Nat)).toNat = a * 256
    omega
  have eb : (BitVec.ofInt IntKind.i64.bits (b : Int)).toNat = b := by
    rw [BitVec.toNat_ofInt]
    show ((b : Int) % (2 ^ 64 : Nat)).toNat = b
    omega
  dsimp only
  rw [BitVec.toNat_or, ea, eb]
  have eo : a * 256 ||| b = a * 256 + b := by
    have := Nat.shiftLeft_add_eq_or_of_lt (i := 8) (show b < 2 ^ 8 by omega) a
    rw [Nat.shiftLeft_eq] at this
    exact this.symm
  rw [eo]
  have h1 : ((a * 256 + b : Nat) : Int) % (2 ^ 64 : Int) = (a : Int) * 256 + b := by omega
  show (if (true && decide (((a * 256 + b : Nat) : Int) % (2 ^ 64 : Int) ≥ (2 ^ (64 - 1) : Int))) then ((a * 256 + b : Nat) : Int) % (2 ^ 64 : Int) - (2 ^ 64 : Int) else ((a * 256 + b : Nat) : Int) % (2 ^ 64 : Int)) = _
  rw [h1, if_neg (by simp; omega)]

theorem Bytes.sub {zs : List Int} (h : Bytes zs) (a n : Nat) : Bytes ((zs.drop a).take n) := fun z hz => h z (List.mem_of_mem_drop (List.mem_of_mem_take hz))
theorem sub_len {zs : List Int} {a s : Nat} (h : a + s ≤ zs.length) : ((zs.drop a).take s).length = s := by simp; omega
theorem sub_at {zs : List Int} {a s k : Nat} (hk : k < s) : ((zs.drop a).take s).getD k 0 = zs.getD (a + k) 0 := by simp [List.getD, hk]

theorem read_no (A : Option Addr) (n c : Nat) (at_ size : Int) (w : World) (hn : n ≤ 1048576) (h : ¬ (1 ≤ size ∧ size ≤ 6 ∧ 0 ≤ at_ ∧ at_ ≤ (n : Int) - size)) :
    Calls Try.prog 82 #[.slice A n c, .int .i64 at_, .int .i64 size] w fun e w' => e = .returned (.agg #[.int .i64 3, .int .i64 0]) ∧ Below w.heap.size w w' := by
  by_cases h1 : 1 ≤ size ∧ size ≤ 6
  · have HB := Lib.hid (allIn_one_no (lo := 0) (hi := (n : Int) - size) (v := at_) (by omega))
    have HA := Lib.hid (allIn_one_yes h1.1 h1.2)
    obtain ⟨h2, h3⟩ := h1
    go_enter Try.func82, Try.ntmps82
    go_wp2_with fail
    refine (allWithin_one _ _ _ size _ (by go_simp)).mono ?_
    rw [HA.out]
    rintro e w1 ⟨rfl, rfl⟩
    go_wp2_with fail
    refine (allWithin_one _ _ _ at_ _ (by go_simp)).mono ?_
    rw [HB.out]
    rintro e w1 ⟨rfl, rfl⟩
    go_wp2_with fail
    exact bodyPost_ret (v := .agg #[.int .i64 3, .int .i64 0]) (by simp [results, Try.results82, go_sem]) rfl ⟨rfl, (((Below.refl _ _).alloc (Nat.le_refl _) _).alloc (by simp) _).alloc (by simp; omega) _⟩
  · have HA := Lib.hid (allIn_one_no (lo := 1) (hi := 6) (v := size) h1)
    clear h1 h
    go_enter Try.func82, Try.ntmps82
    go_wp2_with fail
    refine (allWithin_one _ _ _ size _ (by go_simp)).mono ?_
    rw [HA.out]
    rintro e w1 ⟨rfl, rfl⟩
    go_wp2_with fail
    exact bodyPost_ret (v := .agg #[.int .i64 3, .int .i64 0]) (by simp [results, Try.results82, go_sem]) rfl ⟨rfl, ((Below.refl _ _).alloc (Nat.le_refl _) _).alloc (by simp) _⟩

set_option maxHeartbeats 400000 in
theorem l1Read_any (A : Option Addr) (n c : Nat) (xs : List Int) (at_ size : Nat) (w : World) (ha : BIn w A n xs) (hb : Bytes xs) (hn : n ≤ 1048576) (h6 : size ≤ 6) (hr : at_ + size ≤ n) :
    Calls Try.prog 75 #[.slice A n c, .int .i64 at_, .int .i64 size] w fun e w' => e = .returned (.int .i64 (readN ((xs.drop at_).take size))) ∧ w' = w := by
  go_enter Try.func75, Try.ntmps75
  go_wp2
  go_loop [7, 8] (fun q i => ∃ k : Nat, k ≤ size ∧ i = .int .i64 k ∧ q = .int .i64 (readN (((xs.drop at_).take size).take k))) (fun _ i => size - (intOf i).toNat)
  case atStart => exact ⟨0, Nat.zero_le _, rfl, rfl⟩
  case round =>
    obtain ⟨k, hk, rfl, hq⟩ := hrel
    have hl := ha.1
    have hsl : ((xs.drop at_).take size).length = size := sub_len (by omega)
    by_cases hlt : k < size
    · obtain ⟨b, o, rfl, hca⟩ := ha.at_ (k := at_ + k) (by omega)
      have hlt' : (k : Int) < size := by omega
      have hbd := readN_lt40 _ (hb.sub at_ size) k (by omega) (by omega)
      have hz := hb.at_ (at_ + k)
      have HT := Lib.hid (readN_snoc (((xs.drop at_).take size).take k) (((xs.drop at_).take size).getD k 0))
      have HU := Lib.hid (take_snoc ((xs.drop at_).take size) k (by omega))
      have HV : Hid (((xs.drop at_).take size).getD k 0 = xs.getD (at_ + k) 0) := sub_at hlt
      clear hl hsl ha hb
      obtain ⟨z, hze⟩ : ∃ z, xs.getD (at_ + k) 0 = z := ⟨_, rfl⟩
      obtain ⟨r, hre⟩ : ∃ r, readN (((xs.drop at_).take size).take k) = r := ⟨_, rfl⟩
      rw [hze] at hca hz
      rw [hre] at hq hbd
      subst hq
      have HZ := Lib.hid hze
      have HR := Lib.hid hre
      clear hze hre
      obtain ⟨hz0, hz1⟩ := hz
      obtain ⟨hr0, hr1⟩ := hbd
      go_wp2
      go_round
      case rel => exact ⟨k + 1, by omega, by go_num, by rw [HU.out, HT.out, HR.out, HV.out, HZ.out]⟩
      case measure => simp [intOf]; omega
    · have HT : Hid (((xs.drop at_).take size).take k = (xs.drop at_).take size) := List.take_of_length_le (by omega)
      clear ha hb hl hsl
      subst hq
      go_wp2
      go_ret
      refine ⟨?_, rfl⟩
      rw [HT.out]
      rfl

set_option maxHeartbeats 400000 in
theorem read_yes (A : Option Addr) (n c : Nat) (xs : List Int) (at_ size : Nat) (w : World) (ha : BIn w A n xs) (hb : Bytes xs) (hn : n ≤ 1048576) (hnc : n ≤ c) (h1 : 1 ≤ size) (h6 : size ≤ 6) (hr : at_ + size ≤ n) :
    Calls Try.prog 82 #[.slice A n c, .int .i64 at_, .int .i64 size] w fun e w' => e = .returned (.agg #[.int .i64 0, .int .i64 (readN ((xs.drop at_).take size))]) ∧ Below w.heap.size w w' := by
  have HA := Lib.hid (allIn_one_yes (lo := 1) (hi := 6) (v := (size : Int)) (by omega) (by omega))
  have HB := Lib.hid (allIn_one_yes (lo := 0) (hi := (n : Int) - size) (v := (at_ : Int)) (by omega) (by omega))
  obtain ⟨b, o, rfl, hc⟩ := ha.2 (by omega)
  have g1 : (0 : Int) ≤ at_ := by omega
  have g2 : (at_ : Int) ≤ (at_ : Int) + size := by omega
  have g3 : (at_ : Int) + size ≤ c := by omega
  have hl := ha.1
  clear ha
  have HL := Lib.hid hl
  clear hl
  have HC := Lib.hid hc
  clear hc
  go_enter Try.func82, Try.ntmps82
  go_wp2_with fail
  refine (allWithin_one _ _ _ (size : Int) _ (by go_simp)).mono ?_
  rw [HA.out]
  rintro e w1 ⟨rfl, rfl⟩
  go_wp2_with fail
  refine (allWithin_one _ _ _ (at_ : Int) _ (by go_simp)).mono ?_
  rw [HB.out]
  rintro e w1 ⟨rfl, rfl⟩
  go_wp2_with fail
  go_loop [7, 32] (fun q i => ∃ k : Nat, k ≤ size ∧ i = .int .i64 k ∧ q = .int .i64 (readN (((xs.drop at_).take size).take k))) (fun _ i => size - (intOf i).toNat)
  case atStart => exact ⟨0, Nat.zero_le _, rfl, rfl⟩
  case round =>
    obtain ⟨k, hk, rfl, hq⟩ := hrel
    have hsl : ((xs.drop at_).take size).length = size := sub_len (by have := HL.out; omega)
    by_cases hlt : k < size
    · have hca := HC.out (at_ + k) (by omega)
      rw [← Nat.add_assoc] at hca
      have hbs : b < w.heap.size := World.block_lt_of_cell? w _ hca
      have hlt' : (k : Int) < size := by omega
      have hbd := readN_lt40 _ (hb.sub at_ size) k (by omega) (by omega)
      have hz := hb.at_ (at_ + k)
      have HT := Lib.hid (readN_snoc (((xs.drop at_).take size).take k) (((xs.drop at_).take size).getD k 0))
      have HU := Lib.hid (take_snoc ((xs.drop at_).take size) k (by omega))
      have HV : Hid (((xs.drop at_).take size).getD k 0 = xs.getD (at_ + k) 0) := sub_at hlt
      clear hsl hb
      obtain ⟨z, hze⟩ : ∃ z, xs.getD (at_ + k) 0 = z := ⟨_, rfl⟩
      obtain ⟨r, hre⟩ : ∃ r, readN (((xs.drop at_).take size).take k) = r := ⟨_, rfl⟩
      rw [hze] at hca hz
      rw [hre] at hq hbd
      subst hq
      have HZ := Lib.hid hze
      have HR := Lib.hid hre
      clear hze hre
      obtain ⟨hz0, hz1⟩ := hz
      obtain ⟨hr0, hr1⟩ := hbd
      have hbw : Below w.heap.size w (((w.alloc (.cells #[.int .i64 0, .int .i64 0] 42)).alloc (.cells #[.int .i64 (size : Int)] 2)).alloc (.cells #[.int .i64 (at_ : Int)] 2)) :=
        (((Below.refl _ _).alloc (Nat.le_refl _) _).alloc (by simp) _).alloc (by simp; omega) _
      have hcw := (hbw.cell (p := ⟨b, o + at_ + k, none⟩) hbs).trans hca
      clear hbw hca
      have HO := Lib.hid (or_byte r z hr0 hr1 hz0 hz1)
      go_wp2
      go_round
      case rel => exact ⟨k + 1, by omega, by go_num, by rw [HU.out, HT.out, HR.out, HV.out, HZ.out, HO.out]⟩
      case measure => simp [intOf]; omega
    · have HT : Hid (((xs.drop at_).take size).take k = (xs.drop at_).take size) := List.take_of_length_le (by omega)
      clear hb hsl
      subst hq
      go_wp2
      refine bodyPost_ret (v := .agg #[.int .i64 0, .int .i64 (readN (((xs.drop at_).take size).take k))]) (by simp [results, Try.results82, go_sem]) rfl ⟨?_, (((Below.refl _ _).alloc (Nat.le_refl _) _).alloc (by simp) _).alloc (by simp; omega) _⟩
      rw [HT.out]

/-- What both ReadWord answer. -/
def rOK (n : Nat) (a s : Int) : Prop := 1 ≤ s ∧ s ≤ 6 ∧ 0 ≤ a ∧ a ≤ (n : Int) - s
instance (n : Nat) (a s : Int) : Decidable (rOK n a s) := by unfold rOK; infer_instance
def rcode (n : Nat) (a s : Int) : Int := if rOK n a s then 0 else 3
def rval (n : Nat) (xs : List Int) (a s : Int) : Int := if rOK n a s then readN ((xs.drop a.toNat).take s.toNat) else 0

theorem read_any (A : Option Addr) (n c : Nat) (xs : List Int) (a s : Int) (w : World) (ha : BIn w A n xs) (hb : Bytes xs) (hn : n ≤ 1048576) (hnc : n ≤ c) :
    Calls Try.prog 82 #[.slice A n c, .int .i64 a, .int .i64 s] w fun e w' => e = .returned (.agg #[.int .i64 (rcode n a s), .int .i64 (rval n xs a s)]) ∧ Below w.heap.size w w' := by
  unfold rcode rval
  by_cases h : rOK n a s
  · rw [if_pos h, if_pos h]
    unfold rOK at h
    obtain ⟨p, rfl⟩ := Int.eq_ofNat_of_zero_le h.2.2.1
    obtain ⟨q, rfl⟩ := Int.eq_ofNat_of_zero_le (show 0 ≤ s by omega)
    exact read_yes A n c xs p q w ha hb hn hnc (by omega) (by omega) (by omega)
  · rw [if_neg h, if_neg h]
    exact read_no A n c a s w hn h

end Go.Proofs.Ytamclkjofojhmaa
