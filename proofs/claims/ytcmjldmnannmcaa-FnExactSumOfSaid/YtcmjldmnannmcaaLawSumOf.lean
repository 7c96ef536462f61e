/-
  The walk of the law FnExactSumOf: the program's SumOf answers as the model's.
-/
import Derived.Test.YtcmjldmnannmcaaAt
import Derived.Test.YtcmjldmnannmcaaHelp
import Derived.Test.YtcmjldmnannmcaaEncBoth
import Derived.Deep.DeepCutAuto
namespace Go.Proofs.Ytcmjldmnannmcaa
open Go.RowKit

set_option maxRecDepth 100000 in
set_option maxHeartbeats 3200000 in
theorem law_SumOf (l0 : LsaM) (q0 : Bool) (lo0 hi0 : Nat) (A0 B0 : Option Addr) (n0 c0 m0 d0 : Nat) (w : World) (ha0 : LsaAt q0 lo0 hi0 w A0 n0 B0 m0 l0) (hn0 : n0 ≤ maxLen) (hm0 : m0 ≤ maxLen) :
    Calls Try.prog 5 #[.agg (lsaCells l0 A0 B0 n0 c0 m0 d0)] w fun e w' => e = .returned (.bool true) ∧ Below w.heap.size w w' := by
  by_cases hbig0 : (n0 : Int) + m0 ≤ (1048576 : Int)
  rotate_left
  · have hx0 : ¬ ((n0 : Int) + m0 ≤ (1048576 : Int)) := hbig0
    go_enter Try.func5, Try.ntmps5
    go_wp2_with fail
    have HB_0 : Hid (Below w.heap.size w w) := Lib.hid (Below.refl _ _)
    have HA0_1 := Lib.hid (ha0)
    clear ha0
    obtain ⟨W2, hW2⟩ : ∃ W : World, W = w.alloc (.cells (lsaCells l0 A0 B0 n0 c0 m0 d0) 51) := ⟨_, rfl⟩
    have hb : Below w.heap.size w W2 := by rw [hW2]; exact (Below.refl _ _).alloc (Nat.le_refl _) _
    have HX0_2 : Hid (Box W2 w.heap.size 51 (lsaCells l0 A0 B0 n0 c0 m0 d0)) := by rw [hW2]; exact Lib.hid (Box.made _ _ _)
    have z0 : Hid (W2.heap.size = w.heap.size + 1) := Lib.hid (by rw [hW2]; simp)
    rw [← hW2]
    clear hW2
    have HB_3 := Lib.hid (below_step HB_0.out hb)
    have HA0_3 := Lib.hid (HA0_1.out.below hb)
    clear HB_0 HA0_1 hb
    refine (szLsa_no l0 A0 B0 n0 c0 m0 d0 ((1048576 : Int)) _ (by omega) hn0 hm0 (by omega) (by omega)).mono ?_
    rintro e w4 ⟨rfl, hb⟩
    have HB_5 := Lib.hid (below_step HB_3.out hb)
    have HA0_5 := Lib.hid (HA0_3.out.below hb)
    have HX0_5 := Lib.hid (HX0_2.out.below hb)
    clear HB_3 HA0_3 HX0_2 hb
    go_wp2
    go_ret
    exact ⟨rfl, HB_5.out⟩
  have hy0 : ¬ ((1048576 : Int) - n0 - m0 < 0) := by omega
  have hN0 : n0 ≤ 1048576 := by omega
  have hM0 : m0 ≤ 1048576 := by omega
  obtain ⟨r, hr⟩ : ∃ r, faultOf l0 = r := ⟨_, rfl⟩
  have HRr := Lib.hid hr
  clear hr
  obtain ⟨s, hs⟩ : ∃ r, sumV l0 = r := ⟨_, rfl⟩
  have HRs := Lib.hid hs
  clear hs
  go_enter Try.func5, Try.ntmps5
  go_wp2_with fail
  have HB_0 : Hid (Below w.heap.size w w) := Lib.hid (Below.refl _ _)
  have HA0_1 := Lib.hid (ha0)
  clear ha0
  obtain ⟨W2, hW2⟩ : ∃ W : World, W = w.alloc (.cells (lsaCells l0 A0 B0 n0 c0 m0 d0) 51) := ⟨_, rfl⟩
  have hb : Below w.heap.size w W2 := by rw [hW2]; exact (Below.refl _ _).alloc (Nat.le_refl _) _
  have HX0_2 : Hid (Box W2 w.heap.size 51 (lsaCells l0 A0 B0 n0 c0 m0 d0)) := by rw [hW2]; exact Lib.hid (Box.made _ _ _)
  have z0 : Hid (W2.heap.size = w.heap.size + 1) := Lib.hid (by rw [hW2]; simp)
  rw [← hW2]
  clear hW2
  have HB_3 := Lib.hid (below_step HB_0.out hb)
  have HA0_3 := Lib.hid (HA0_1.out.below hb)
  clear HB_0 HA0_1 hb
  refine (szLsa_yes l0 A0 B0 n0 c0 m0 d0 ((1048576 : Int)) _ (by omega) (by omega)).mono ?_
  rintro e w4 ⟨rfl, hb⟩
  have HB_5 := Lib.hid (below_step HB_3.out hb)
  have HA0_5 := Lib.hid (HA0_3.out.below hb)
  have HX0_5 := Lib.hid (HX0_2.out.below hb)
  clear HB_3 HA0_3 HX0_2 hb
  have cHX00 := HX0_5.out.look 0
  have cHX01 := HX0_5.out.look 1
  have cHX02 := HX0_5.out.look 2
  have cHX03 := HX0_5.out.look 3
  have cHX04 := HX0_5.out.look 4
  have cHX05 := HX0_5.out.look 5
  have cHX06 := HX0_5.out.look 6
  have cHX07 := HX0_5.out.look 7
  have cHX08 := HX0_5.out.look 8
  have cHX09 := HX0_5.out.look 9
  have lHX0 := HX0_5.out.lt
  go_wp2_with fail
  clear cHX00 cHX01 cHX02 cHX03 cHX04 cHX05 cHX06 cHX07 cHX08 cHX09 lHX0
  refine (toLsa_at l0 q0 lo0 hi0 A0 B0 n0 c0 m0 d0 _ HA0_5.out hN0 hM0).mono ?_
  rintro e w6 ⟨Ps0, Qs0, rfl, hls0, hb⟩
  have HB_7 := Lib.hid (below_step HB_5.out hb)
  have HA0_7 := Lib.hid (HA0_5.out.below hb)
  have HX0_7 := Lib.hid (HX0_5.out.below hb)
  clear HB_5 HA0_5 HX0_5 hb
  have HS0_8 := Lib.hid (hls0)
  clear hls0
  go_wp2_with fail
  refine (specSum_any l0 true _ _ _ _ n0 n0 m0 m0 _ HS0_8.out hN0 hM0).mono ?_
  rw [HRr.out, HRs.out]
  rintro e w9 ⟨rfl, hb⟩
  have HB_10 := Lib.hid (below_step HB_7.out hb)
  have HA0_10 := Lib.hid (HA0_7.out.below hb)
  have HX0_10 := Lib.hid (HX0_7.out.below hb)
  clear HB_7 HA0_7 HX0_7 HS0_8 hb
  have cHX00 := HX0_10.out.look 0
  have cHX01 := HX0_10.out.look 1
  have cHX02 := HX0_10.out.look 2
  have cHX03 := HX0_10.out.look 3
  have cHX04 := HX0_10.out.look 4
  have cHX05 := HX0_10.out.look 5
  have cHX06 := HX0_10.out.look 6
  have cHX07 := HX0_10.out.look 7
  have cHX08 := HX0_10.out.look 8
  have cHX09 := HX0_10.out.look 9
  have lHX0 := HX0_10.out.lt
  go_wp2_with fail
  clear cHX00 cHX01 cHX02 cHX03 cHX04 cHX05 cHX06 cHX07 cHX08 cHX09 lHX0
  obtain ⟨W11, hW11⟩ : ∃ W : World, W = w9.alloc (.cells #[.int .i64 r, .int .i64 s] 42) := ⟨_, rfl⟩
  have hb : Below w9.heap.size w9 W11 := by rw [hW11]; exact (Below.refl _ _).alloc (Nat.le_refl _) _
  have HW_11 : Hid (Box W11 w9.heap.size 42 #[.int .i64 r, .int .i64 s]) := by rw [hW11]; exact Lib.hid (Box.made _ _ _)
  rw [← hW11]
  clear hW11
  have HB_12 := Lib.hid (below_step HB_10.out hb)
  have HA0_12 := Lib.hid (HA0_10.out.below hb)
  have HX0_12 := Lib.hid (HX0_10.out.below hb)
  clear HB_10 HA0_10 HX0_10 hb
  refine (toLsa_at l0 q0 lo0 hi0 A0 B0 n0 c0 m0 d0 _ HA0_12.out hN0 hM0).mono ?_
  rintro e w13 ⟨Px0, Qx0, rfl, hlx0, hb⟩
  have HB_14 := Lib.hid (below_step HB_12.out hb)
  have HA0_14 := Lib.hid (HA0_12.out.below hb)
  have HX0_14 := Lib.hid (HX0_12.out.below hb)
  have HW_14 := Lib.hid (HW_11.out.below hb)
  clear HB_12 HA0_12 HX0_12 HW_11 hb
  have HG0_15 := Lib.hid (hlx0)
  clear hlx0
  go_wp2_with fail
  obtain ⟨W16, hW16⟩ : ∃ W : World, W = w13.alloc (.cells (lsaCells l0 Px0 Qx0 n0 n0 m0 m0) 29) := ⟨_, rfl⟩
  have hb : Below w13.heap.size w13 W16 := by rw [hW16]; exact (Below.refl _ _).alloc (Nat.le_refl _) _
  have HY0_16 : Hid (Box W16 w13.heap.size 29 (lsaCells l0 Px0 Qx0 n0 n0 m0 m0)) := by rw [hW16]; exact Lib.hid (Box.made _ _ _)
  rw [← hW16]
  clear hW16
  have HB_17 := Lib.hid (below_step HB_14.out hb)
  have HA0_17 := Lib.hid (HA0_14.out.below hb)
  have HX0_17 := Lib.hid (HX0_14.out.below hb)
  have HW_17 := Lib.hid (HW_14.out.below hb)
  have HG0_17 := Lib.hid (HG0_15.out.below hb)
  clear HB_14 HA0_14 HX0_14 HW_14 HG0_15 hb
  refine (sum_any l0 true _ _ Px0 Qx0 n0 n0 m0 m0 _ HG0_17.out hN0 hM0).mono ?_
  rw [HRr.out, HRs.out]
  rintro e w18 ⟨rfl, hb⟩
  have HB_19 := Lib.hid (below_step HB_17.out hb)
  have HA0_19 := Lib.hid (HA0_17.out.below hb)
  have HX0_19 := Lib.hid (HX0_17.out.below hb)
  have HW_19 := Lib.hid (HW_17.out.below hb)
  have HG0_19 := Lib.hid (HG0_17.out.below hb)
  have HY0_19 := Lib.hid (HY0_16.out.below hb)
  clear HB_17 HA0_17 HX0_17 HW_17 HG0_17 HY0_16 hb
  have cHW0 := HW_19.out.look 0
  have cHW1 := HW_19.out.look 1
  have lHW := HW_19.out.lt
  go_wp2_with fail
  clear cHW0 cHW1 lHW
  obtain ⟨W20, hW20⟩ : ∃ W : World, W = w18.alloc (.cells #[.int .i64 r, .int .i64 s] 42) := ⟨_, rfl⟩
  have hb : Below w18.heap.size w18 W20 := by rw [hW20]; exact (Below.refl _ _).alloc (Nat.le_refl _) _
  have HV_20 : Hid (Box W20 w18.heap.size 42 #[.int .i64 r, .int .i64 s]) := by rw [hW20]; exact Lib.hid (Box.made _ _ _)
  rw [← hW20]
  clear hW20
  have HB_21 := Lib.hid (below_step HB_19.out hb)
  have HA0_21 := Lib.hid (HA0_19.out.below hb)
  have HX0_21 := Lib.hid (HX0_19.out.below hb)
  have HW_21 := Lib.hid (HW_19.out.below hb)
  have HG0_21 := Lib.hid (HG0_19.out.below hb)
  have HY0_21 := Lib.hid (HY0_19.out.below hb)
  clear HB_19 HA0_19 HX0_19 HW_19 HG0_19 HY0_19 hb
  refine (eqIntResult_yes r s _).mono ?_
  rintro e w22 ⟨rfl, hb⟩
  have HB_23 := Lib.hid (below_step HB_21.out hb)
  have HA0_23 := Lib.hid (HA0_21.out.below hb)
  have HX0_23 := Lib.hid (HX0_21.out.below hb)
  have HG0_23 := Lib.hid (HG0_21.out.below hb)
  have HY0_23 := Lib.hid (HY0_21.out.below hb)
  clear HB_21 HA0_21 HX0_21 HW_21 HG0_21 HY0_21 HV_20 hb
  have SB : Hid (∀ W, Hid (Below w22.heap.size w22 W) → (fun W => W.cell? ⟨w.heap.size, 0, none⟩ = (lsaCells l0 A0 B0 n0 c0 m0 d0)[0]? ∧ W.cell? ⟨w.heap.size, 1, none⟩ = (lsaCells l0 A0 B0 n0 c0 m0 d0)[1]? ∧ W.cell? ⟨w.heap.size, 2, none⟩ = (lsaCells l0 A0 B0 n0 c0 m0 d0)[2]? ∧ W.cell? ⟨w.heap.size, 3, none⟩ = (lsaCells l0 A0 B0 n0 c0 m0 d0)[3]? ∧ W.cell? ⟨w.heap.size, 4, none⟩ = (lsaCells l0 A0 B0 n0 c0 m0 d0)[4]? ∧ W.cell? ⟨w.heap.size, 5, none⟩ = (lsaCells l0 A0 B0 n0 c0 m0 d0)[5]? ∧ W.cell? ⟨w.heap.size, 6, none⟩ = (lsaCells l0 A0 B0 n0 c0 m0 d0)[6]? ∧ W.cell? ⟨w.heap.size, 7, none⟩ = (lsaCells l0 A0 B0 n0 c0 m0 d0)[7]? ∧ W.cell? ⟨w.heap.size, 8, none⟩ = (lsaCells l0 A0 B0 n0 c0 m0 d0)[8]? ∧ W.cell? ⟨w.heap.size, 9, none⟩ = (lsaCells l0 A0 B0 n0 c0 m0 d0)[9]? ∧ W.cell? ⟨w13.heap.size, 0, none⟩ = (lsaCells l0 Px0 Qx0 n0 n0 m0 m0)[0]? ∧ W.cell? ⟨w13.heap.size, 1, none⟩ = (lsaCells l0 Px0 Qx0 n0 n0 m0 m0)[1]? ∧ W.cell? ⟨w13.heap.size, 2, none⟩ = (lsaCells l0 Px0 Qx0 n0 n0 m0 m0)[2]? ∧ W.cell? ⟨w13.heap.size, 3, none⟩ = (lsaCells l0 Px0 Qx0 n0 n0 m0 m0)[3]? ∧ W.cell? ⟨w13.heap.size, 4, none⟩ = (lsaCells l0 Px0 Qx0 n0 n0 m0 m0)[4]? ∧ W.cell? ⟨w13.heap.size, 5, none⟩ = (lsaCells l0 Px0 Qx0 n0 n0 m0 m0)[5]? ∧ W.cell? ⟨w13.heap.size, 6, none⟩ = (lsaCells l0 Px0 Qx0 n0 n0 m0 m0)[6]? ∧ W.cell? ⟨w13.heap.size, 7, none⟩ = (lsaCells l0 Px0 Qx0 n0 n0 m0 m0)[7]? ∧ W.cell? ⟨w13.heap.size, 8, none⟩ = (lsaCells l0 Px0 Qx0 n0 n0 m0 m0)[8]? ∧ W.cell? ⟨w13.heap.size, 9, none⟩ = (lsaCells l0 Px0 Qx0 n0 n0 m0 m0)[9]?) W) := fun W h => ⟨(HX0_23.out.below h.out).look 0, (HX0_23.out.below h.out).look 1, (HX0_23.out.below h.out).look 2, (HX0_23.out.below h.out).look 3, (HX0_23.out.below h.out).look 4, (HX0_23.out.below h.out).look 5, (HX0_23.out.below h.out).look 6, (HX0_23.out.below h.out).look 7, (HX0_23.out.below h.out).look 8, (HX0_23.out.below h.out).look 9, (HY0_23.out.below h.out).look 0, (HY0_23.out.below h.out).look 1, (HY0_23.out.below h.out).look 2, (HY0_23.out.below h.out).look 3, (HY0_23.out.below h.out).look 4, (HY0_23.out.below h.out).look 5, (HY0_23.out.below h.out).look 6, (HY0_23.out.below h.out).look 7, (HY0_23.out.below h.out).look 8, (HY0_23.out.below h.out).look 9⟩
  have V0 : Hid (Below w22.heap.size w22 w22.drew) := (Below.refl _ _).drew
  go_wp2_with fail
  go_region_held3 (fun W => W.cell? ⟨w.heap.size, 0, none⟩ = (lsaCells l0 A0 B0 n0 c0 m0 d0)[0]? ∧ W.cell? ⟨w.heap.size, 1, none⟩ = (lsaCells l0 A0 B0 n0 c0 m0 d0)[1]? ∧ W.cell? ⟨w.heap.size, 2, none⟩ = (lsaCells l0 A0 B0 n0 c0 m0 d0)[2]? ∧ W.cell? ⟨w.heap.size, 3, none⟩ = (lsaCells l0 A0 B0 n0 c0 m0 d0)[3]? ∧ W.cell? ⟨w.heap.size, 4, none⟩ = (lsaCells l0 A0 B0 n0 c0 m0 d0)[4]? ∧ W.cell? ⟨w.heap.size, 5, none⟩ = (lsaCells l0 A0 B0 n0 c0 m0 d0)[5]? ∧ W.cell? ⟨w.heap.size, 6, none⟩ = (lsaCells l0 A0 B0 n0 c0 m0 d0)[6]? ∧ W.cell? ⟨w.heap.size, 7, none⟩ = (lsaCells l0 A0 B0 n0 c0 m0 d0)[7]? ∧ W.cell? ⟨w.heap.size, 8, none⟩ = (lsaCells l0 A0 B0 n0 c0 m0 d0)[8]? ∧ W.cell? ⟨w.heap.size, 9, none⟩ = (lsaCells l0 A0 B0 n0 c0 m0 d0)[9]? ∧ W.cell? ⟨w13.heap.size, 0, none⟩ = (lsaCells l0 Px0 Qx0 n0 n0 m0 m0)[0]? ∧ W.cell? ⟨w13.heap.size, 1, none⟩ = (lsaCells l0 Px0 Qx0 n0 n0 m0 m0)[1]? ∧ W.cell? ⟨w13.heap.size, 2, none⟩ = (lsaCells l0 Px0 Qx0 n0 n0 m0 m0)[2]? ∧ W.cell? ⟨w13.heap.size, 3, none⟩ = (lsaCells l0 Px0 Qx0 n0 n0 m0 m0)[3]? ∧ W.cell? ⟨w13.heap.size, 4, none⟩ = (lsaCells l0 Px0 Qx0 n0 n0 m0 m0)[4]? ∧ W.cell? ⟨w13.heap.size, 5, none⟩ = (lsaCells l0 Px0 Qx0 n0 n0 m0 m0)[5]? ∧ W.cell? ⟨w13.heap.size, 6, none⟩ = (lsaCells l0 Px0 Qx0 n0 n0 m0 m0)[6]? ∧ W.cell? ⟨w13.heap.size, 7, none⟩ = (lsaCells l0 Px0 Qx0 n0 n0 m0 m0)[7]? ∧ W.cell? ⟨w13.heap.size, 8, none⟩ = (lsaCells l0 Px0 Qx0 n0 n0 m0 m0)[8]? ∧ W.cell? ⟨w13.heap.size, 9, none⟩ = (lsaCells l0 Px0 Qx0 n0 n0 m0 m0)[9]?) (exact SB.out _ (by assumption))
    (first | (go_at_call 26; refine (toLsa_at l0 q0 lo0 hi0 A0 B0 n0 c0 m0 d0 _ (HA0_23.out.below V0.out) hN0 hM0).mono ?_; rintro e u24_0 ⟨Pz0, Qz0, rfl, hlz0, hb⟩; have V1 := Lib.hid (below_step V0.out hb); have MHZ0 := Lib.hid hlz0; clear hlz0; clear hb) | (go_at_call 27; refine (eqLsa_at l0 _ _ _ _ _ _ Px0 Qx0 _ _ n0 n0 m0 m0 n0 m0 _ (HG0_23.out.below V1.out) MHZ0.out hN0 hM0).mono ?_; rintro e u24_1 ⟨rfl, hb⟩; have V2 := Lib.hid (below_step V1.out hb); have MHZ0' := Lib.hid (MHZ0.out.below hb); clear hb))
  have hb := V2.out
  have HB_25 := Lib.hid (below_step HB_23.out hb)
  have HA0_25 := Lib.hid (HA0_23.out.below hb)
  have HX0_25 := Lib.hid (HX0_23.out.below hb)
  have HG0_25 := Lib.hid (HG0_23.out.below hb)
  have HY0_25 := Lib.hid (HY0_23.out.below hb)
  clear HB_23 HA0_23 HX0_23 HG0_23 HY0_23 hb
  clear SB V0 MHZ0 V1 MHZ0' V2
  go_wp2
  go_ret
  exact ⟨rfl, HB_25.out⟩

end Go.Proofs.Ytcmjldmnannmcaa
