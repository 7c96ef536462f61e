/-
  The walk of the law FnExactEncodeLsa: the program's EncodeLsa answers as the model's, in new memory.
-/
import Derived.Test.YtcmjldmnannmcaaAt
import Derived.Test.YtcmjldmnannmcaaHelp
import Derived.Test.YtcmjldmnannmcaaEncBoth
import Derived.Test.YtcmjldmnannmcaaMarkLsa
namespace Go.Proofs.Ytcmjldmnannmcaa
open Go.RowKit
set_option linter.unusedVariables false

theorem LsaAt.grown {q : Bool} {hi : Nat} {w w' : World} {A B : Option Addr} {n m : Nat} {l : LsaM} (h : LsaAt q 0 hi w A n B m l) {row : Option Nat} (hg : w.grownBy w' row) (hr : ∀ r, row = some r → hi ≤ r) : LsaAt q 0 hi w' A n B m l :=
  ⟨h.in_.keep (fun b _ h2 => hg.block b (by have := h.le; omega) (fun e => by have := hr b e.symm; omega)), Nat.le_trans h.le hg.size⟩

set_option maxRecDepth 100000 in
set_option maxHeartbeats 3200000 in
theorem law_EncodeLsa (l0 : LsaM) (q0 : Bool) (hi0 : Nat) (A0 B0 : Option Addr) (n0 c0 m0 d0 : Nat) (w : World) (ha0 : LsaAt q0 0 hi0 w A0 n0 B0 m0 l0) (hn0 : n0 ≤ maxLen) (hm0 : m0 ≤ maxLen) :
    Calls Try.prog 6 #[.agg (lsaCells l0 A0 B0 n0 c0 m0 d0)] w fun e w' => e = .returned (.bool true) ∧ Below w.heap.size w w' := by
  by_cases hbig0 : (n0 : Int) + m0 ≤ (1048576 : Int)
  rotate_left
  · have hx0 : ¬ ((n0 : Int) + m0 ≤ (1048576 : Int)) := hbig0
    go_enter Try.func6, Try.ntmps6
    go_wp2_with fail
    have HB_0 : Hid (Below w.heap.size w w) := Lib.hid (Below.refl _ _)
    have HA0_1 := Lib.hid (ha0)
    clear ha0
    obtain ⟨W2, hW2⟩ : ∃ W : World, W = w.alloc (.cells (lsaCells l0 A0 B0 n0 c0 m0 d0) 51) := ⟨_, rfl⟩
    have hb : Below w.heap.size w W2 := by rw [hW2]; exact (Below.refl _ _).alloc (Nat.le_refl _) _
    have HX0_2 : Hid (Box W2 w.heap.size 51 (lsaCells l0 A0 B0 n0 c0 m0 d0)) := by rw [hW2]; exact Lib.hid (Box.made _ _ _)
    have z0 : Hid (W2.heap.size = w.heap.size + 1) := Lib.hid (by rw [hW2]; simp)
    rw [← hW2]
    clear hW2
    have HB_3 := Lib.hid (below_step HB_0.out hb)
    have HA0_3 := Lib.hid (HA0_1.out.below hb)
    clear HB_0 HA0_1 hb
    refine (szLsa_no l0 A0 B0 n0 c0 m0 d0 ((1048576 : Int)) _ (by omega) hn0 hm0 (by omega) (by omega)).mono ?_
    rintro e w4 ⟨rfl, hb⟩
    have HB_5 := Lib.hid (below_step HB_3.out hb)
    have HA0_5 := Lib.hid (HA0_3.out.below hb)
    have HX0_5 := Lib.hid (HX0_2.out.below hb)
    clear HB_3 HA0_3 HX0_2 hb
    go_wp2
    go_ret
    exact ⟨rfl, HB_5.out⟩
  have hy0 : ¬ ((1048576 : Int) - n0 - m0 < 0) := by omega
  have hN0 : n0 ≤ 1048576 := by omega
  have hM0 : m0 ≤ 1048576 := by omega
  obtain ⟨r, hr⟩ : ∃ r, faultOf l0 = r := ⟨_, rfl⟩
  have HRr := Lib.hid hr
  clear hr
  have HEL := Lib.hid (ebytes_len l0)
  have hLE := Lib.hid ha0.le
  go_enter Try.func6, Try.ntmps6
  go_wp2_with fail
  have HB_0 : Hid (Below w.heap.size w w) := Lib.hid (Below.refl _ _)
  have HA0_1 := Lib.hid (ha0)
  clear ha0
  obtain ⟨W2, hW2⟩ : ∃ W : World, W = w.alloc (.cells (lsaCells l0 A0 B0 n0 c0 m0 d0) 51) := ⟨_, rfl⟩
  have hb : Below w.heap.size w W2 := by rw [hW2]; exact (Below.refl _ _).alloc (Nat.le_refl _) _
  have HX0_2 : Hid (Box W2 w.heap.size 51 (lsaCells l0 A0 B0 n0 c0 m0 d0)) := by rw [hW2]; exact Lib.hid (Box.made _ _ _)
  have z0 : Hid (W2.heap.size = w.heap.size + 1) := Lib.hid (by rw [hW2]; simp)
  rw [← hW2]
  clear hW2
  have HB_3 := Lib.hid (below_step HB_0.out hb)
  have HA0_3 := Lib.hid (HA0_1.out.below hb)
  clear HB_0 HA0_1 hb
  refine (szLsa_yes l0 A0 B0 n0 c0 m0 d0 ((1048576 : Int)) _ (by omega) (by omega)).mono ?_
  rintro e w4 ⟨rfl, hb⟩
  have HB_5 := Lib.hid (below_step HB_3.out hb)
  have HA0_5 := Lib.hid (HA0_3.out.below hb)
  have HX0_5 := Lib.hid (HX0_2.out.below hb)
  clear HB_3 HA0_3 HX0_2 hb
  have cHX00 := HX0_5.out.look 0
  have cHX01 := HX0_5.out.look 1
  have cHX02 := HX0_5.out.look 2
  have cHX03 := HX0_5.out.look 3
  have cHX04 := HX0_5.out.look 4
  have cHX05 := HX0_5.out.look 5
  have cHX06 := HX0_5.out.look 6
  have cHX07 := HX0_5.out.look 7
  have cHX08 := HX0_5.out.look 8
  have cHX09 := HX0_5.out.look 9
  have lHX0 := HX0_5.out.lt
  go_wp2_with fail
  clear cHX00 cHX01 cHX02 cHX03 cHX04 cHX05 cHX06 cHX07 cHX08 cHX09 lHX0
  refine (toLsa_at l0 q0 0 hi0 A0 B0 n0 c0 m0 d0 _ HA0_5.out hN0 hM0).mono ?_
  rintro e w6 ⟨Ps0, Qs0, rfl, hls0, hb⟩
  have HB_7 := Lib.hid (below_step HB_5.out hb)
  have HA0_7 := Lib.hid (HA0_5.out.below hb)
  have HX0_7 := Lib.hid (HX0_5.out.below hb)
  clear HB_5 HA0_5 HX0_5 hb
  have HS0_8 := Lib.hid (hls0)
  clear hls0
  go_wp2_with fail
  have SO1 := Lib.hid HB_7.out.size
  refine (specEncode_any l0 true _ _ _ _ n0 n0 m0 m0 _ HS0_8.out hN0 hM0).mono ?_
  rw [HRr.out]
  rintro e w9 ⟨E1, n1, c1, rfl, ho, hb⟩
  have HB_10 := Lib.hid (below_step HB_7.out hb)
  have HA0_10 := Lib.hid (HA0_7.out.below hb)
  have HX0_10 := Lib.hid (HX0_7.out.below hb)
  clear HB_7 HA0_7 HX0_7 HS0_8 hb
  have HO_11 := Lib.hid (ho)
  clear ho
  have hn1 : n1 ≤ 1048576 := by have := HO_11.out.len; have := HEL.out; omega
  have cHX00 := HX0_10.out.look 0
  have cHX01 := HX0_10.out.look 1
  have cHX02 := HX0_10.out.look 2
  have cHX03 := HX0_10.out.look 3
  have cHX04 := HX0_10.out.look 4
  have cHX05 := HX0_10.out.look 5
  have cHX06 := HX0_10.out.look 6
  have cHX07 := HX0_10.out.look 7
  have cHX08 := HX0_10.out.look 8
  have cHX09 := HX0_10.out.look 9
  have lHX0 := HX0_10.out.lt
  go_wp2_with fail
  clear cHX00 cHX01 cHX02 cHX03 cHX04 cHX05 cHX06 cHX07 cHX08 cHX09 lHX0
  obtain ⟨W12, hW12⟩ : ∃ W : World, W = w9.alloc (.cells #[.int .i64 r, .slice E1 n1 c1] 32) := ⟨_, rfl⟩
  have hb : Below w9.heap.size w9 W12 := by rw [hW12]; exact (Below.refl _ _).alloc (Nat.le_refl _) _
  have HW_12 : Hid (Box W12 w9.heap.size 32 #[.int .i64 r, .slice E1 n1 c1]) := by rw [hW12]; exact Lib.hid (Box.made _ _ _)
  rw [← hW12]
  clear hW12
  have HB_13 := Lib.hid (below_step HB_10.out hb)
  have HA0_13 := Lib.hid (HA0_10.out.below hb)
  have HX0_13 := Lib.hid (HX0_10.out.below hb)
  have HO_13 := Lib.hid (HO_11.out.below hb)
  clear HB_10 HA0_10 HX0_10 HO_11 hb
  have LX := Lib.hid HX0_13.out.lt
  have LW := Lib.hid HW_12.out.lt
  have LO := Lib.hid HO_13.out.lts
  have LB := Lib.hid HB_13.out.size
  refine (toLsa_at l0 q0 0 hi0 A0 B0 n0 c0 m0 d0 _ HA0_13.out hN0 hM0).mono ?_
  rintro e w14 ⟨Px0, Qx0, rfl, hlx0, hb⟩
  have HB_15 := Lib.hid (below_step HB_13.out hb)
  have HA0_15 := Lib.hid (HA0_13.out.below hb)
  have HX0_15 := Lib.hid (HX0_13.out.below hb)
  have HO_15 := Lib.hid (HO_13.out.below hb)
  have HW_15 := Lib.hid (HW_12.out.below hb)
  clear HB_13 HA0_13 HX0_13 HO_13 HW_12 hb
  have HG0_16 := Lib.hid (hlx0)
  clear hlx0
  go_wp2_with fail
  obtain ⟨W17, hW17⟩ : ∃ W : World, W = w14.alloc (.cells (lsaCells l0 Px0 Qx0 n0 n0 m0 m0) 29) := ⟨_, rfl⟩
  have hb : Below w14.heap.size w14 W17 := by rw [hW17]; exact (Below.refl _ _).alloc (Nat.le_refl _) _
  have HY0_17 : Hid (Box W17 w14.heap.size 29 (lsaCells l0 Px0 Qx0 n0 n0 m0 m0)) := by rw [hW17]; exact Lib.hid (Box.made _ _ _)
  rw [← hW17]
  clear hW17
  have HB_18 := Lib.hid (below_step HB_15.out hb)
  have HA0_18 := Lib.hid (HA0_15.out.below hb)
  have HX0_18 := Lib.hid (HX0_15.out.below hb)
  have HO_18 := Lib.hid (HO_15.out.below hb)
  have HW_18 := Lib.hid (HW_15.out.below hb)
  have HG0_18 := Lib.hid (HG0_16.out.below hb)
  clear HB_15 HA0_15 HX0_15 HO_15 HW_15 HG0_16 hb
  have LHP := Lib.hid HG0_18.out.le
  have SP := Lib.hid HB_18.out.size
  have DO := Lib.hid HO_18.out.lts
  refine (encode_any l0 true _ _ Px0 Qx0 n0 n0 m0 m0 _ HG0_18.out hN0 hM0).mono ?_
  rw [HRr.out]
  rintro e w19 ⟨E2, n2, c2, rfl, ho, hb⟩
  have HB_20 := Lib.hid (below_step HB_18.out hb)
  have HA0_20 := Lib.hid (HA0_18.out.below hb)
  have HX0_20 := Lib.hid (HX0_18.out.below hb)
  have HO_20 := Lib.hid (HO_18.out.below hb)
  have HW_20 := Lib.hid (HW_18.out.below hb)
  have HG0_20 := Lib.hid (HG0_18.out.below hb)
  have HY0_20 := Lib.hid (HY0_17.out.below hb)
  clear HB_18 HA0_18 HX0_18 HO_18 HW_18 HG0_18 HY0_17 hb
  have HP_21 := Lib.hid (ho)
  clear ho
  obtain rfl : n2 = n1 := by have := HO_20.out.len; have := HP_21.out.len; omega
  have cHW0 := HW_20.out.look 0
  have cHW1 := HW_20.out.look 1
  have lHW := HW_20.out.lt
  have LHV := Lib.hid HG0_20.out.le
  go_wp2_with fail
  clear cHW0 cHW1 lHW
  obtain ⟨W22, hW22⟩ : ∃ W : World, W = w19.alloc (.cells #[.int .i64 r, .slice E2 n2 c2] 32) := ⟨_, rfl⟩
  have hb : Below w19.heap.size w19 W22 := by rw [hW22]; exact (Below.refl _ _).alloc (Nat.le_refl _) _
  have HV_22 : Hid (Box W22 w19.heap.size 32 #[.int .i64 r, .slice E2 n2 c2]) := by rw [hW22]; exact Lib.hid (Box.made _ _ _)
  rw [← hW22]
  clear hW22
  have HB_23 := Lib.hid (below_step HB_20.out hb)
  have HA0_23 := Lib.hid (HA0_20.out.below hb)
  have HX0_23 := Lib.hid (HX0_20.out.below hb)
  have HO_23 := Lib.hid (HO_20.out.below hb)
  have HW_23 := Lib.hid (HW_20.out.below hb)
  have HG0_23 := Lib.hid (HG0_20.out.below hb)
  have HY0_23 := Lib.hid (HY0_20.out.below hb)
  have HP_23 := Lib.hid (HP_21.out.below hb)
  clear HB_20 HA0_20 HX0_20 HO_20 HW_20 HG0_20 HY0_20 HP_21 hb
  refine (eqBytesResult_yes _ _ _ _ _ _ (ebytes l0) _ HP_23.out.bin HO_23.out.bin hn1).mono ?_
  rintro e w24 ⟨rfl, hb⟩
  have HB_25 := Lib.hid (below_step HB_23.out hb)
  have HA0_25 := Lib.hid (HA0_23.out.below hb)
  have HX0_25 := Lib.hid (HX0_23.out.below hb)
  have HO_25 := Lib.hid (HO_23.out.below hb)
  have HW_25 := Lib.hid (HW_23.out.below hb)
  have HG0_25 := Lib.hid (HG0_23.out.below hb)
  have HY0_25 := Lib.hid (HY0_23.out.below hb)
  have HP_25 := Lib.hid (HP_23.out.below hb)
  have HV_25 := Lib.hid (HV_22.out.below hb)
  clear HB_23 HA0_23 HX0_23 HO_23 HW_23 HG0_23 HY0_23 HP_23 HV_22 hb
  have SB : Hid (∀ W, Hid (Below w24.heap.size w24 W) → (fun W => W.cell? ⟨w.heap.size, 0, none⟩ = (lsaCells l0 A0 B0 n0 c0 m0 d0)[0]? ∧ W.cell? ⟨w.heap.size, 1, none⟩ = (lsaCells l0 A0 B0 n0 c0 m0 d0)[1]? ∧ W.cell? ⟨w.heap.size, 2, none⟩ = (lsaCells l0 A0 B0 n0 c0 m0 d0)[2]? ∧ W.cell? ⟨w.heap.size, 3, none⟩ = (lsaCells l0 A0 B0 n0 c0 m0 d0)[3]? ∧ W.cell? ⟨w.heap.size, 4, none⟩ = (lsaCells l0 A0 B0 n0 c0 m0 d0)[4]? ∧ W.cell? ⟨w.heap.size, 5, none⟩ = (lsaCells l0 A0 B0 n0 c0 m0 d0)[5]? ∧ W.cell? ⟨w.heap.size, 6, none⟩ = (lsaCells l0 A0 B0 n0 c0 m0 d0)[6]? ∧ W.cell? ⟨w.heap.size, 7, none⟩ = (lsaCells l0 A0 B0 n0 c0 m0 d0)[7]? ∧ W.cell? ⟨w.heap.size, 8, none⟩ = (lsaCells l0 A0 B0 n0 c0 m0 d0)[8]? ∧ W.cell? ⟨w.heap.size, 9, none⟩ = (lsaCells l0 A0 B0 n0 c0 m0 d0)[9]? ∧ W.cell? ⟨w14.heap.size, 0, none⟩ = (lsaCells l0 Px0 Qx0 n0 n0 m0 m0)[0]? ∧ W.cell? ⟨w14.heap.size, 1, none⟩ = (lsaCells l0 Px0 Qx0 n0 n0 m0 m0)[1]? ∧ W.cell? ⟨w14.heap.size, 2, none⟩ = (lsaCells l0 Px0 Qx0 n0 n0 m0 m0)[2]? ∧ W.cell? ⟨w14.heap.size, 3, none⟩ = (lsaCells l0 Px0 Qx0 n0 n0 m0 m0)[3]? ∧ W.cell? ⟨w14.heap.size, 4, none⟩ = (lsaCells l0 Px0 Qx0 n0 n0 m0 m0)[4]? ∧ W.cell? ⟨w14.heap.size, 5, none⟩ = (lsaCells l0 Px0 Qx0 n0 n0 m0 m0)[5]? ∧ W.cell? ⟨w14.heap.size, 6, none⟩ = (lsaCells l0 Px0 Qx0 n0 n0 m0 m0)[6]? ∧ W.cell? ⟨w14.heap.size, 7, none⟩ = (lsaCells l0 Px0 Qx0 n0 n0 m0 m0)[7]? ∧ W.cell? ⟨w14.heap.size, 8, none⟩ = (lsaCells l0 Px0 Qx0 n0 n0 m0 m0)[8]? ∧ W.cell? ⟨w14.heap.size, 9, none⟩ = (lsaCells l0 Px0 Qx0 n0 n0 m0 m0)[9]?) W) := fun W h => ⟨(HX0_25.out.below h.out).look 0, (HX0_25.out.below h.out).look 1, (HX0_25.out.below h.out).look 2, (HX0_25.out.below h.out).look 3, (HX0_25.out.below h.out).look 4, (HX0_25.out.below h.out).look 5, (HX0_25.out.below h.out).look 6, (HX0_25.out.below h.out).look 7, (HX0_25.out.below h.out).look 8, (HX0_25.out.below h.out).look 9, (HY0_25.out.below h.out).look 0, (HY0_25.out.below h.out).look 1, (HY0_25.out.below h.out).look 2, (HY0_25.out.below h.out).look 3, (HY0_25.out.below h.out).look 4, (HY0_25.out.below h.out).look 5, (HY0_25.out.below h.out).look 6, (HY0_25.out.below h.out).look 7, (HY0_25.out.below h.out).look 8, (HY0_25.out.below h.out).look 9⟩
  have V0 : Hid (Below w24.heap.size w24 w24.drew) := (Below.refl _ _).drew
  go_wp2_with fail
  go_region_held3 (fun W => W.cell? ⟨w.heap.size, 0, none⟩ = (lsaCells l0 A0 B0 n0 c0 m0 d0)[0]? ∧ W.cell? ⟨w.heap.size, 1, none⟩ = (lsaCells l0 A0 B0 n0 c0 m0 d0)[1]? ∧ W.cell? ⟨w.heap.size, 2, none⟩ = (lsaCells l0 A0 B0 n0 c0 m0 d0)[2]? ∧ W.cell? ⟨w.heap.size, 3, none⟩ = (lsaCells l0 A0 B0 n0 c0 m0 d0)[3]? ∧ W.cell? ⟨w.heap.size, 4, none⟩ = (lsaCells l0 A0 B0 n0 c0 m0 d0)[4]? ∧ W.cell? ⟨w.heap.size, 5, none⟩ = (lsaCells l0 A0 B0 n0 c0 m0 d0)[5]? ∧ W.cell? ⟨w.heap.size, 6, none⟩ = (lsaCells l0 A0 B0 n0 c0 m0 d0)[6]? ∧ W.cell? ⟨w.heap.size, 7, none⟩ = (lsaCells l0 A0 B0 n0 c0 m0 d0)[7]? ∧ W.cell? ⟨w.heap.size, 8, none⟩ = (lsaCells l0 A0 B0 n0 c0 m0 d0)[8]? ∧ W.cell? ⟨w.heap.size, 9, none⟩ = (lsaCells l0 A0 B0 n0 c0 m0 d0)[9]? ∧ W.cell? ⟨w14.heap.size, 0, none⟩ = (lsaCells l0 Px0 Qx0 n0 n0 m0 m0)[0]? ∧ W.cell? ⟨w14.heap.size, 1, none⟩ = (lsaCells l0 Px0 Qx0 n0 n0 m0 m0)[1]? ∧ W.cell? ⟨w14.heap.size, 2, none⟩ = (lsaCells l0 Px0 Qx0 n0 n0 m0 m0)[2]? ∧ W.cell? ⟨w14.heap.size, 3, none⟩ = (lsaCells l0 Px0 Qx0 n0 n0 m0 m0)[3]? ∧ W.cell? ⟨w14.heap.size, 4, none⟩ = (lsaCells l0 Px0 Qx0 n0 n0 m0 m0)[4]? ∧ W.cell? ⟨w14.heap.size, 5, none⟩ = (lsaCells l0 Px0 Qx0 n0 n0 m0 m0)[5]? ∧ W.cell? ⟨w14.heap.size, 6, none⟩ = (lsaCells l0 Px0 Qx0 n0 n0 m0 m0)[6]? ∧ W.cell? ⟨w14.heap.size, 7, none⟩ = (lsaCells l0 Px0 Qx0 n0 n0 m0 m0)[7]? ∧ W.cell? ⟨w14.heap.size, 8, none⟩ = (lsaCells l0 Px0 Qx0 n0 n0 m0 m0)[8]? ∧ W.cell? ⟨w14.heap.size, 9, none⟩ = (lsaCells l0 Px0 Qx0 n0 n0 m0 m0)[9]?) (exact SB.out _ (by assumption))
    (first | (go_at_call 26; refine (toLsa_at l0 q0 0 hi0 A0 B0 n0 c0 m0 d0 _ (HA0_25.out.below V0.out) hN0 hM0).mono ?_; rintro e u26_0 ⟨Pz0, Qz0, rfl, hlz0, hb⟩; have V1 := Lib.hid (below_step V0.out hb); have MHZ0 := Lib.hid hlz0; clear hlz0; clear hb) | (go_at_call 27; refine (eqLsa_at l0 _ _ _ _ _ _ Px0 Qx0 _ _ n0 n0 m0 m0 n0 m0 _ (HG0_25.out.below V1.out) MHZ0.out hN0 hM0).mono ?_; rintro e u26_1 ⟨rfl, hb⟩; have V2 := Lib.hid (below_step V1.out hb); have MHZ0' := Lib.hid (MHZ0.out.below hb); clear hb))
  have hb := V2.out
  have HB_27 := Lib.hid (below_step HB_25.out hb)
  have HA0_27 := Lib.hid (HA0_25.out.below hb)
  have HX0_27 := Lib.hid (HX0_25.out.below hb)
  have HO_27 := Lib.hid (HO_25.out.below hb)
  have HW_27 := Lib.hid (HW_25.out.below hb)
  have HG0_27 := Lib.hid (HG0_25.out.below hb)
  have HY0_27 := Lib.hid (HY0_25.out.below hb)
  have HP_27 := Lib.hid (HP_25.out.below hb)
  have HV_27 := Lib.hid (HV_25.out.below hb)
  clear HB_25 HA0_25 HX0_25 HO_25 HW_25 HG0_25 HY0_25 HP_25 HV_25 hb
  clear SB V0 MHZ0 V1 MHZ0' V2
  have cHY00 := HY0_27.out.look 0
  have cHY01 := HY0_27.out.look 1
  have cHY02 := HY0_27.out.look 2
  have cHY03 := HY0_27.out.look 3
  have cHY04 := HY0_27.out.look 4
  have cHY05 := HY0_27.out.look 5
  have cHY06 := HY0_27.out.look 6
  have cHY07 := HY0_27.out.look 7
  have cHY08 := HY0_27.out.look 8
  have cHY09 := HY0_27.out.look 9
  have lHY0 := HY0_27.out.lt
  go_wp2_with fail
  clear cHY00 cHY01 cHY02 cHY03 cHY04 cHY05 cHY06 cHY07 cHY08 cHY09 lHY0
  refine (markLsa_only l0 _ _ Px0 Qx0 n0 n0 m0 m0 1 _ HG0_27.out hN0 hM0 (by omega) (by omega)).mono ?_
  rintro e w28 ⟨kk, hkk, rfl, ho⟩
  have hkk' : ¬ kk < 0 := by omega
  have HX0_28 := Lib.hid (HX0_27.out.only ho (.inl LX.out))
  have HW_28 := Lib.hid (HW_27.out.only ho (.inl LW.out))
  have HV_28 := Lib.hid (HV_27.out.only ho (.inr LHV.out))
  have HO_28 := Lib.hid (HO_27.out.only ho (fun r hr => .inl (LO.out r hr)))
  have HP_28 := Lib.hid (HP_27.out.only ho (fun r hr => .inr (Nat.le_trans LHP.out (HP_27.out.block r hr).1)))
  have HA0_28 := Lib.hid (HA0_27.out.only ho (.inl (Nat.le_trans hLE.out LB.out)))
  have HB_28 := Lib.hid (HB_27.out.trans (ho.below LB.out HB_27.out.size))
  clear ho hkk HB_27 HA0_27 HX0_27 HO_27 HW_27 HG0_27 HY0_27 HP_27 HV_27
  have cHV0 := HV_28.out.look 0
  have cHV1 := HV_28.out.look 1
  have lHV := HV_28.out.lt
  have cHW0 := HW_28.out.look 0
  have cHW1 := HW_28.out.look 1
  have lHW := HW_28.out.lt
  go_wp2_with fail
  clear cHV0 cHV1 lHV cHW0 cHW1 lHW
  refine (eqBytesResult_yes _ _ _ _ _ _ (ebytes l0) _ HP_28.out.bin HO_28.out.bin hn1).mono ?_
  rintro e w29 ⟨rfl, hb⟩
  have HX0_30 := Lib.hid (HX0_28.out.below hb)
  have HW_30 := Lib.hid (HW_28.out.below hb)
  have HV_30 := Lib.hid (HV_28.out.below hb)
  have HO_30 := Lib.hid (HO_28.out.below hb)
  have HP_30 := Lib.hid (HP_28.out.below hb)
  have HA0_30 := Lib.hid (HA0_28.out.below hb)
  have HB_30 := Lib.hid (below_step HB_28.out hb)
  clear HX0_28 HW_28 HV_28 HO_28 HP_28 HA0_28 HB_28 hb
  have cHV0 := HV_30.out.look 0
  have cHV1 := HV_30.out.look 1
  have lHV := HV_30.out.lt
  go_wp2_with fail
  clear cHV0 cHV1 lHV
  refine (markBytesResult_any _ _ _ _ _ (ebytes l0) 1 _ HP_30.out hn1 (by omega) (by omega)).mono ?_
  rintro e w31 ⟨rfl, ho, hg⟩
  have HX0_31 := Lib.hid (HX0_30.out.grown hg (HP_30.out.ne_box HX0_30.out (by decide)))
  have HW_31 := Lib.hid (HW_30.out.grown hg (HP_30.out.ne_box HW_30.out (by decide)))
  have HV_31 := Lib.hid (HV_30.out.grown hg (HP_30.out.ne_box HV_30.out (by decide)))
  have HO_31 := Lib.hid (HO_30.out.grown hg (HP_30.out.apart DO.out))
  have HA0_31 := Lib.hid (HA0_30.out.grown hg (fun r hr => Nat.le_trans (Nat.le_trans hLE.out SP.out) (HP_30.out.block r hr).1))
  have HB_31 := Lib.hid (HB_30.out.grown hg HB_30.out.size (fun r hr => Nat.le_trans SP.out (HP_30.out.block r hr).1))
  have HM_31 := Lib.hid ho
  clear ho hg HX0_30 HW_30 HV_30 HO_30 HP_30 HA0_30 HB_30
  have cHV0 := HV_31.out.look 0
  have cHV1 := HV_31.out.look 1
  have lHV := HV_31.out.lt
  go_wp2_with fail
  clear cHV0 cHV1 lHV
  refine (heldBytesResult_yes _ _ _ _ 1 _ HM_31.out.bin hn1 (by omega) (by omega)).mono ?_
  rintro e w32 ⟨rfl, hb⟩
  have HX0_33 := Lib.hid (HX0_31.out.below hb)
  have HW_33 := Lib.hid (HW_31.out.below hb)
  have HV_33 := Lib.hid (HV_31.out.below hb)
  have HO_33 := Lib.hid (HO_31.out.below hb)
  have HA0_33 := Lib.hid (HA0_31.out.below hb)
  have HB_33 := Lib.hid (below_step HB_31.out hb)
  have HM_33 := Lib.hid (HM_31.out.below hb)
  clear HX0_31 HW_31 HV_31 HO_31 HA0_31 HB_31 HM_31 hb
  have cHX00 := HX0_33.out.look 0
  have cHX01 := HX0_33.out.look 1
  have cHX02 := HX0_33.out.look 2
  have cHX03 := HX0_33.out.look 3
  have cHX04 := HX0_33.out.look 4
  have cHX05 := HX0_33.out.look 5
  have cHX06 := HX0_33.out.look 6
  have cHX07 := HX0_33.out.look 7
  have cHX08 := HX0_33.out.look 8
  have cHX09 := HX0_33.out.look 9
  have lHX0 := HX0_33.out.lt
  go_wp2_with fail
  clear cHX00 cHX01 cHX02 cHX03 cHX04 cHX05 cHX06 cHX07 cHX08 cHX09 lHX0
  refine (toLsa_at l0 q0 0 hi0 A0 B0 n0 c0 m0 d0 _ HA0_33.out hN0 hM0).mono ?_
  rintro e w34 ⟨Py0, Qy0, rfl, hly0, hb⟩
  have HX0_35 := Lib.hid (HX0_33.out.below hb)
  have HW_35 := Lib.hid (HW_33.out.below hb)
  have HV_35 := Lib.hid (HV_33.out.below hb)
  have HO_35 := Lib.hid (HO_33.out.below hb)
  have HA0_35 := Lib.hid (HA0_33.out.below hb)
  have HB_35 := Lib.hid (below_step HB_33.out hb)
  have HM_35 := Lib.hid (HM_33.out.below hb)
  clear HX0_33 HW_33 HV_33 HO_33 HA0_33 HB_33 HM_33 hb
  have HH0_36 := Lib.hid (hly0)
  clear hly0
  go_wp2_with fail
  refine (encode_any l0 true _ _ Py0 Qy0 n0 n0 m0 m0 _ HH0_36.out hN0 hM0).mono ?_
  rw [HRr.out]
  rintro e w37 ⟨E3, n3, c3, rfl, ho, hb⟩
  have HX0_38 := Lib.hid (HX0_35.out.below hb)
  have HW_38 := Lib.hid (HW_35.out.below hb)
  have HV_38 := Lib.hid (HV_35.out.below hb)
  have HO_38 := Lib.hid (HO_35.out.below hb)
  have HA0_38 := Lib.hid (HA0_35.out.below hb)
  have HB_38 := Lib.hid (below_step HB_35.out hb)
  have HM_38 := Lib.hid (HM_35.out.below hb)
  clear HX0_35 HW_35 HV_35 HO_35 HA0_35 HB_35 HM_35 HH0_36 hb
  have HQ_39 := Lib.hid (ho)
  clear ho
  obtain rfl : n3 = n2 := by have := HO_38.out.len; have := HQ_39.out.len; omega
  have cHW0 := HW_38.out.look 0
  have cHW1 := HW_38.out.look 1
  have lHW := HW_38.out.lt
  go_wp2_with fail
  clear cHW0 cHW1 lHW
  obtain ⟨W40, hW40⟩ : ∃ W : World, W = w37.alloc (.cells #[.int .i64 r, .slice E3 n3 c3] 32) := ⟨_, rfl⟩
  have hb : Below w37.heap.size w37 W40 := by rw [hW40]; exact (Below.refl _ _).alloc (Nat.le_refl _) _
  have HT_40 : Hid (Box W40 w37.heap.size 32 #[.int .i64 r, .slice E3 n3 c3]) := by rw [hW40]; exact Lib.hid (Box.made _ _ _)
  rw [← hW40]
  clear hW40
  have HX0_41 := Lib.hid (HX0_38.out.below hb)
  have HW_41 := Lib.hid (HW_38.out.below hb)
  have HV_41 := Lib.hid (HV_38.out.below hb)
  have HO_41 := Lib.hid (HO_38.out.below hb)
  have HA0_41 := Lib.hid (HA0_38.out.below hb)
  have HB_41 := Lib.hid (below_step HB_38.out hb)
  have HM_41 := Lib.hid (HM_38.out.below hb)
  have HQ_41 := Lib.hid (HQ_39.out.below hb)
  clear HX0_38 HW_38 HV_38 HO_38 HA0_38 HB_38 HM_38 HQ_39 hb
  refine (eqBytesResult_yes _ _ _ _ _ _ (ebytes l0) _ HQ_41.out.bin HO_41.out.bin hn1).mono ?_
  rintro e w42 ⟨rfl, hb⟩
  have HX0_43 := Lib.hid (HX0_41.out.below hb)
  have HV_43 := Lib.hid (HV_41.out.below hb)
  have HA0_43 := Lib.hid (HA0_41.out.below hb)
  have HB_43 := Lib.hid (below_step HB_41.out hb)
  have HM_43 := Lib.hid (HM_41.out.below hb)
  clear HX0_41 HW_41 HV_41 HO_41 HA0_41 HB_41 HM_41 HQ_41 HT_40 hb
  have cHV0 := HV_43.out.look 0
  have cHV1 := HV_43.out.look 1
  have lHV := HV_43.out.lt
  go_wp2_with fail
  clear cHV0 cHV1 lHV
  refine (heldBytesResult_yes _ _ _ _ 1 _ HM_43.out.bin hn1 (by omega) (by omega)).mono ?_
  rintro e w44 ⟨rfl, hb⟩
  have HX0_45 := Lib.hid (HX0_43.out.below hb)
  have HV_45 := Lib.hid (HV_43.out.below hb)
  have HA0_45 := Lib.hid (HA0_43.out.below hb)
  have HB_45 := Lib.hid (below_step HB_43.out hb)
  have HM_45 := Lib.hid (HM_43.out.below hb)
  clear HX0_43 HV_43 HA0_43 HB_43 HM_43 hb
  go_wp2
  go_ret
  exact ⟨rfl, HB_45.out⟩

end Go.Proofs.Ytcmjldmnannmcaa
