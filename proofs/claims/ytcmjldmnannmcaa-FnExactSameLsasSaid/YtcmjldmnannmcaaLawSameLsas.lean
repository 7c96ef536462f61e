/-
  The walk of the law FnExactSameLsas: the program's SameLsas answers as the model's.
-/
import Derived.Test.YtcmjldmnannmcaaAt
import Derived.Test.YtcmjldmnannmcaaSameSpec
import Derived.Deep.DeepCutAuto
namespace Go.Proofs.Ytcmjldmnannmcaa
open Go.RowKit

set_option maxRecDepth 100000 in
set_option maxHeartbeats 3200000 in
theorem law_SameLsas (l0 : LsaM) (l1 : LsaM) (q0 : Bool) (lo0 hi0 : Nat) (A0 B0 : Option Addr) (n0 c0 m0 d0 : Nat) (q1 : Bool) (lo1 hi1 : Nat) (A1 B1 : Option Addr) (n1 c1 m1 d1 : Nat) (w : World) (ha0 : LsaAt q0 lo0 hi0 w A0 n0 B0 m0 l0) (hn0 : n0 ≤ maxLen) (hm0 : m0 ≤ maxLen) (ha1 : LsaAt q1 lo1 hi1 w A1 n1 B1 m1 l1) (hn1 : n1 ≤ maxLen) (hm1 : m1 ≤ maxLen) :
    Calls Try.prog 8 #[.agg (lsaCells l0 A0 B0 n0 c0 m0 d0), .agg (lsaCells l1 A1 B1 n1 c1 m1 d1)] w fun e w' => e = .returned (.bool true) ∧ Below w.heap.size w w' := by
  by_cases hbig0 : (n0 : Int) + m0 ≤ (1048576 : Int)
  rotate_left
  · have hx0 : ¬ ((n0 : Int) + m0 ≤ (1048576 : Int)) := hbig0
    go_enter Try.func8, Try.ntmps8
    go_wp2_with fail
    have HB_0 : Hid (Below w.heap.size w w) := Lib.hid (Below.refl _ _)
    have HA0_1 := Lib.hid (ha0)
    clear ha0
    have HA1_2 := Lib.hid (ha1)
    clear ha1
    obtain ⟨W3, hW3⟩ : ∃ W : World, W = w.alloc (.cells (lsaCells l0 A0 B0 n0 c0 m0 d0) 51) := ⟨_, rfl⟩
    have hb : Below w.heap.size w W3 := by rw [hW3]; exact (Below.refl _ _).alloc (Nat.le_refl _) _
    have HX0_3 : Hid (Box W3 w.heap.size 51 (lsaCells l0 A0 B0 n0 c0 m0 d0)) := by rw [hW3]; exact Lib.hid (Box.made _ _ _)
    have z0 : Hid (W3.heap.size = w.heap.size + 1) := Lib.hid (by rw [hW3]; simp)
    rw [← hW3]
    clear hW3
    have HB_4 := Lib.hid (below_step HB_0.out hb)
    have HA0_4 := Lib.hid (HA0_1.out.below hb)
    have HA1_4 := Lib.hid (HA1_2.out.below hb)
    clear HB_0 HA0_1 HA1_2 hb
    obtain ⟨W5, hW5⟩ : ∃ W : World, W = W3.alloc (.cells (lsaCells l1 A1 B1 n1 c1 m1 d1) 51) := ⟨_, rfl⟩
    have hb : Below W3.heap.size W3 W5 := by rw [hW5]; exact (Below.refl _ _).alloc (Nat.le_refl _) _
    have HX1_5 : Hid (Box W5 W3.heap.size 51 (lsaCells l1 A1 B1 n1 c1 m1 d1)) := by rw [hW5]; exact Lib.hid (Box.made _ _ _)
    have z1 : Hid (W5.heap.size = w.heap.size + 1 + 1) := Lib.hid (by rw [hW5]; simp [z0.out])
    rw [z0.out] at HX1_5
    rw [← hW5]
    clear hW5
    have HB_6 := Lib.hid (below_step HB_4.out hb)
    have HA0_6 := Lib.hid (HA0_4.out.below hb)
    have HA1_6 := Lib.hid (HA1_4.out.below hb)
    have HX0_6 := Lib.hid (HX0_3.out.below hb)
    clear HB_4 HA0_4 HA1_4 HX0_3 hb
    refine (szLsa_no l0 A0 B0 n0 c0 m0 d0 ((1048576 : Int)) _ (by omega) hn0 hm0 (by omega) (by omega)).mono ?_
    rintro e w7 ⟨rfl, hb⟩
    have HB_8 := Lib.hid (below_step HB_6.out hb)
    have HA0_8 := Lib.hid (HA0_6.out.below hb)
    have HA1_8 := Lib.hid (HA1_6.out.below hb)
    have HX0_8 := Lib.hid (HX0_6.out.below hb)
    have HX1_8 := Lib.hid (HX1_5.out.below hb)
    clear HB_6 HA0_6 HA1_6 HX0_6 HX1_5 hb
    go_wp2
    go_ret
    exact ⟨rfl, HB_8.out⟩
  have hy0 : ¬ ((1048576 : Int) - n0 - m0 < 0) := by omega
  by_cases hbig1 : (n1 : Int) + m1 ≤ (1048576 : Int) - n0 - m0
  rotate_left
  · have hx1 : ¬ ((n1 : Int) + m1 ≤ (1048576 : Int) - n0 - m0) := hbig1
    go_enter Try.func8, Try.ntmps8
    go_wp2_with fail
    have HB_0 : Hid (Below w.heap.size w w) := Lib.hid (Below.refl _ _)
    have HA0_1 := Lib.hid (ha0)
    clear ha0
    have HA1_2 := Lib.hid (ha1)
    clear ha1
    obtain ⟨W3, hW3⟩ : ∃ W : World, W = w.alloc (.cells (lsaCells l0 A0 B0 n0 c0 m0 d0) 51) := ⟨_, rfl⟩
    have hb : Below w.heap.size w W3 := by rw [hW3]; exact (Below.refl _ _).alloc (Nat.le_refl _) _
    have HX0_3 : Hid (Box W3 w.heap.size 51 (lsaCells l0 A0 B0 n0 c0 m0 d0)) := by rw [hW3]; exact Lib.hid (Box.made _ _ _)
    have z0 : Hid (W3.heap.size = w.heap.size + 1) := Lib.hid (by rw [hW3]; simp)
    rw [← hW3]
    clear hW3
    have HB_4 := Lib.hid (below_step HB_0.out hb)
    have HA0_4 := Lib.hid (HA0_1.out.below hb)
    have HA1_4 := Lib.hid (HA1_2.out.below hb)
    clear HB_0 HA0_1 HA1_2 hb
    obtain ⟨W5, hW5⟩ : ∃ W : World, W = W3.alloc (.cells (lsaCells l1 A1 B1 n1 c1 m1 d1) 51) := ⟨_, rfl⟩
    have hb : Below W3.heap.size W3 W5 := by rw [hW5]; exact (Below.refl _ _).alloc (Nat.le_refl _) _
    have HX1_5 : Hid (Box W5 W3.heap.size 51 (lsaCells l1 A1 B1 n1 c1 m1 d1)) := by rw [hW5]; exact Lib.hid (Box.made _ _ _)
    have z1 : Hid (W5.heap.size = w.heap.size + 1 + 1) := Lib.hid (by rw [hW5]; simp [z0.out])
    rw [z0.out] at HX1_5
    rw [← hW5]
    clear hW5
    have HB_6 := Lib.hid (below_step HB_4.out hb)
    have HA0_6 := Lib.hid (HA0_4.out.below hb)
    have HA1_6 := Lib.hid (HA1_4.out.below hb)
    have HX0_6 := Lib.hid (HX0_3.out.below hb)
    clear HB_4 HA0_4 HA1_4 HX0_3 hb
    refine (szLsa_yes l0 A0 B0 n0 c0 m0 d0 ((1048576 : Int)) _ (by omega) (by omega)).mono ?_
    rintro e w7 ⟨rfl, hb⟩
    have HB_8 := Lib.hid (below_step HB_6.out hb)
    have HA0_8 := Lib.hid (HA0_6.out.below hb)
    have HA1_8 := Lib.hid (HA1_6.out.below hb)
    have HX0_8 := Lib.hid (HX0_6.out.below hb)
    have HX1_8 := Lib.hid (HX1_5.out.below hb)
    clear HB_6 HA0_6 HA1_6 HX0_6 HX1_5 hb
    have cHX00 := HX0_8.out.look 0
    have cHX01 := HX0_8.out.look 1
    have cHX02 := HX0_8.out.look 2
    have cHX03 := HX0_8.out.look 3
    have cHX04 := HX0_8.out.look 4
    have cHX05 := HX0_8.out.look 5
    have cHX06 := HX0_8.out.look 6
    have cHX07 := HX0_8.out.look 7
    have cHX08 := HX0_8.out.look 8
    have cHX09 := HX0_8.out.look 9
    have lHX0 := HX0_8.out.lt
    have cHX10 := HX1_8.out.look 0
    have cHX11 := HX1_8.out.look 1
    have cHX12 := HX1_8.out.look 2
    have cHX13 := HX1_8.out.look 3
    have cHX14 := HX1_8.out.look 4
    have cHX15 := HX1_8.out.look 5
    have cHX16 := HX1_8.out.look 6
    have cHX17 := HX1_8.out.look 7
    have cHX18 := HX1_8.out.look 8
    have cHX19 := HX1_8.out.look 9
    have lHX1 := HX1_8.out.lt
    go_wp2_with fail
    clear cHX00 cHX01 cHX02 cHX03 cHX04 cHX05 cHX06 cHX07 cHX08 cHX09 lHX0 cHX10 cHX11 cHX12 cHX13 cHX14 cHX15 cHX16 cHX17 cHX18 cHX19 lHX1
    refine (szLsa_no l1 A1 B1 n1 c1 m1 d1 ((1048576 : Int) - n0 - m0) _ (by omega) hn1 hm1 (by omega) (by omega)).mono ?_
    rintro e w9 ⟨rfl, hb⟩
    have HB_10 := Lib.hid (below_step HB_8.out hb)
    have HA0_10 := Lib.hid (HA0_8.out.below hb)
    have HA1_10 := Lib.hid (HA1_8.out.below hb)
    have HX0_10 := Lib.hid (HX0_8.out.below hb)
    have HX1_10 := Lib.hid (HX1_8.out.below hb)
    clear HB_8 HA0_8 HA1_8 HX0_8 HX1_8 hb
    go_wp2
    go_ret
    exact ⟨rfl, HB_10.out⟩
  have hy1 : ¬ ((1048576 : Int) - n0 - m0 - n1 - m1 < 0) := by omega
  have hN0 : n0 ≤ 1048576 := by omega
  have hM0 : m0 ≤ 1048576 := by omega
  have hN1 : n1 ≤ 1048576 := by omega
  have hM1 : m1 ≤ 1048576 := by omega
  obtain ⟨r, hr⟩ : ∃ r, decide (l0 = l1) = r := ⟨_, rfl⟩
  have HR := Lib.hid hr
  clear hr
  go_enter Try.func8, Try.ntmps8
  go_wp2_with fail
  have HB_0 : Hid (Below w.heap.size w w) := Lib.hid (Below.refl _ _)
  have HA0_1 := Lib.hid (ha0)
  clear ha0
  have HA1_2 := Lib.hid (ha1)
  clear ha1
  obtain ⟨W3, hW3⟩ : ∃ W : World, W = w.alloc (.cells (lsaCells l0 A0 B0 n0 c0 m0 d0) 51) := ⟨_, rfl⟩
  have hb : Below w.heap.size w W3 := by rw [hW3]; exact (Below.refl _ _).alloc (Nat.le_refl _) _
  have HX0_3 : Hid (Box W3 w.heap.size 51 (lsaCells l0 A0 B0 n0 c0 m0 d0)) := by rw [hW3]; exact Lib.hid (Box.made _ _ _)
  have z0 : Hid (W3.heap.size = w.heap.size + 1) := Lib.hid (by rw [hW3]; simp)
  rw [← hW3]
  clear hW3
  have HB_4 := Lib.hid (below_step HB_0.out hb)
  have HA0_4 := Lib.hid (HA0_1.out.below hb)
  have HA1_4 := Lib.hid (HA1_2.out.below hb)
  clear HB_0 HA0_1 HA1_2 hb
  obtain ⟨W5, hW5⟩ : ∃ W : World, W = W3.alloc (.cells (lsaCells l1 A1 B1 n1 c1 m1 d1) 51) := ⟨_, rfl⟩
  have hb : Below W3.heap.size W3 W5 := by rw [hW5]; exact (Below.refl _ _).alloc (Nat.le_refl _) _
  have HX1_5 : Hid (Box W5 W3.heap.size 51 (lsaCells l1 A1 B1 n1 c1 m1 d1)) := by rw [hW5]; exact Lib.hid (Box.made _ _ _)
  have z1 : Hid (W5.heap.size = w.heap.size + 1 + 1) := Lib.hid (by rw [hW5]; simp [z0.out])
  rw [z0.out] at HX1_5
  rw [← hW5]
  clear hW5
  have HB_6 := Lib.hid (below_step HB_4.out hb)
  have HA0_6 := Lib.hid (HA0_4.out.below hb)
  have HA1_6 := Lib.hid (HA1_4.out.below hb)
  have HX0_6 := Lib.hid (HX0_3.out.below hb)
  clear HB_4 HA0_4 HA1_4 HX0_3 hb
  refine (szLsa_yes l0 A0 B0 n0 c0 m0 d0 ((1048576 : Int)) _ (by omega) (by omega)).mono ?_
  rintro e w7 ⟨rfl, hb⟩
  have HB_8 := Lib.hid (below_step HB_6.out hb)
  have HA0_8 := Lib.hid (HA0_6.out.below hb)
  have HA1_8 := Lib.hid (HA1_6.out.below hb)
  have HX0_8 := Lib.hid (HX0_6.out.below hb)
  have HX1_8 := Lib.hid (HX1_5.out.below hb)
  clear HB_6 HA0_6 HA1_6 HX0_6 HX1_5 hb
  have cHX00 := HX0_8.out.look 0
  have cHX01 := HX0_8.out.look 1
  have cHX02 := HX0_8.out.look 2
  have cHX03 := HX0_8.out.look 3
  have cHX04 := HX0_8.out.look 4
  have cHX05 := HX0_8.out.look 5
  have cHX06 := HX0_8.out.look 6
  have cHX07 := HX0_8.out.look 7
  have cHX08 := HX0_8.out.look 8
  have cHX09 := HX0_8.out.look 9
  have lHX0 := HX0_8.out.lt
  have cHX10 := HX1_8.out.look 0
  have cHX11 := HX1_8.out.look 1
  have cHX12 := HX1_8.out.look 2
  have cHX13 := HX1_8.out.look 3
  have cHX14 := HX1_8.out.look 4
  have cHX15 := HX1_8.out.look 5
  have cHX16 := HX1_8.out.look 6
  have cHX17 := HX1_8.out.look 7
  have cHX18 := HX1_8.out.look 8
  have cHX19 := HX1_8.out.look 9
  have lHX1 := HX1_8.out.lt
  go_wp2_with fail
  clear cHX00 cHX01 cHX02 cHX03 cHX04 cHX05 cHX06 cHX07 cHX08 cHX09 lHX0 cHX10 cHX11 cHX12 cHX13 cHX14 cHX15 cHX16 cHX17 cHX18 cHX19 lHX1
  refine (szLsa_yes l1 A1 B1 n1 c1 m1 d1 ((1048576 : Int) - n0 - m0) _ (by omega) (by omega)).mono ?_
  rintro e w9 ⟨rfl, hb⟩
  have HB_10 := Lib.hid (below_step HB_8.out hb)
  have HA0_10 := Lib.hid (HA0_8.out.below hb)
  have HA1_10 := Lib.hid (HA1_8.out.below hb)
  have HX0_10 := Lib.hid (HX0_8.out.below hb)
  have HX1_10 := Lib.hid (HX1_8.out.below hb)
  clear HB_8 HA0_8 HA1_8 HX0_8 HX1_8 hb
  have SB : Hid (∀ W, Hid (Below w9.heap.size w9 W) → (fun W => W.cell? ⟨w.heap.size, 0, none⟩ = (lsaCells l0 A0 B0 n0 c0 m0 d0)[0]? ∧ W.cell? ⟨w.heap.size, 1, none⟩ = (lsaCells l0 A0 B0 n0 c0 m0 d0)[1]? ∧ W.cell? ⟨w.heap.size, 2, none⟩ = (lsaCells l0 A0 B0 n0 c0 m0 d0)[2]? ∧ W.cell? ⟨w.heap.size, 3, none⟩ = (lsaCells l0 A0 B0 n0 c0 m0 d0)[3]? ∧ W.cell? ⟨w.heap.size, 4, none⟩ = (lsaCells l0 A0 B0 n0 c0 m0 d0)[4]? ∧ W.cell? ⟨w.heap.size, 5, none⟩ = (lsaCells l0 A0 B0 n0 c0 m0 d0)[5]? ∧ W.cell? ⟨w.heap.size, 6, none⟩ = (lsaCells l0 A0 B0 n0 c0 m0 d0)[6]? ∧ W.cell? ⟨w.heap.size, 7, none⟩ = (lsaCells l0 A0 B0 n0 c0 m0 d0)[7]? ∧ W.cell? ⟨w.heap.size, 8, none⟩ = (lsaCells l0 A0 B0 n0 c0 m0 d0)[8]? ∧ W.cell? ⟨w.heap.size, 9, none⟩ = (lsaCells l0 A0 B0 n0 c0 m0 d0)[9]? ∧ W.cell? ⟨w.heap.size + 1, 0, none⟩ = (lsaCells l1 A1 B1 n1 c1 m1 d1)[0]? ∧ W.cell? ⟨w.heap.size + 1, 1, none⟩ = (lsaCells l1 A1 B1 n1 c1 m1 d1)[1]? ∧ W.cell? ⟨w.heap.size + 1, 2, none⟩ = (lsaCells l1 A1 B1 n1 c1 m1 d1)[2]? ∧ W.cell? ⟨w.heap.size + 1, 3, none⟩ = (lsaCells l1 A1 B1 n1 c1 m1 d1)[3]? ∧ W.cell? ⟨w.heap.size + 1, 4, none⟩ = (lsaCells l1 A1 B1 n1 c1 m1 d1)[4]? ∧ W.cell? ⟨w.heap.size + 1, 5, none⟩ = (lsaCells l1 A1 B1 n1 c1 m1 d1)[5]? ∧ W.cell? ⟨w.heap.size + 1, 6, none⟩ = (lsaCells l1 A1 B1 n1 c1 m1 d1)[6]? ∧ W.cell? ⟨w.heap.size + 1, 7, none⟩ = (lsaCells l1 A1 B1 n1 c1 m1 d1)[7]? ∧ W.cell? ⟨w.heap.size + 1, 8, none⟩ = (lsaCells l1 A1 B1 n1 c1 m1 d1)[8]? ∧ W.cell? ⟨w.heap.size + 1, 9, none⟩ = (lsaCells l1 A1 B1 n1 c1 m1 d1)[9]?) W) := fun W h => ⟨(HX0_10.out.below h.out).look 0, (HX0_10.out.below h.out).look 1, (HX0_10.out.below h.out).look 2, (HX0_10.out.below h.out).look 3, (HX0_10.out.below h.out).look 4, (HX0_10.out.below h.out).look 5, (HX0_10.out.below h.out).look 6, (HX0_10.out.below h.out).look 7, (HX0_10.out.below h.out).look 8, (HX0_10.out.below h.out).look 9, (HX1_10.out.below h.out).look 0, (HX1_10.out.below h.out).look 1, (HX1_10.out.below h.out).look 2, (HX1_10.out.below h.out).look 3, (HX1_10.out.below h.out).look 4, (HX1_10.out.below h.out).look 5, (HX1_10.out.below h.out).look 6, (HX1_10.out.below h.out).look 7, (HX1_10.out.below h.out).look 8, (HX1_10.out.below h.out).look 9⟩
  have V0 : Hid (Below w9.heap.size w9 w9.drew) := (Below.refl _ _).drew
  go_upto_region 8 with (fail)
  go_cut [6] (fun s6 wx => s6 = .bool r ∧ Hid (Below w9.heap.size w9 wx))
  case first =>
    go_region_held3 (fun W => W.cell? ⟨w.heap.size, 0, none⟩ = (lsaCells l0 A0 B0 n0 c0 m0 d0)[0]? ∧ W.cell? ⟨w.heap.size, 1, none⟩ = (lsaCells l0 A0 B0 n0 c0 m0 d0)[1]? ∧ W.cell? ⟨w.heap.size, 2, none⟩ = (lsaCells l0 A0 B0 n0 c0 m0 d0)[2]? ∧ W.cell? ⟨w.heap.size, 3, none⟩ = (lsaCells l0 A0 B0 n0 c0 m0 d0)[3]? ∧ W.cell? ⟨w.heap.size, 4, none⟩ = (lsaCells l0 A0 B0 n0 c0 m0 d0)[4]? ∧ W.cell? ⟨w.heap.size, 5, none⟩ = (lsaCells l0 A0 B0 n0 c0 m0 d0)[5]? ∧ W.cell? ⟨w.heap.size, 6, none⟩ = (lsaCells l0 A0 B0 n0 c0 m0 d0)[6]? ∧ W.cell? ⟨w.heap.size, 7, none⟩ = (lsaCells l0 A0 B0 n0 c0 m0 d0)[7]? ∧ W.cell? ⟨w.heap.size, 8, none⟩ = (lsaCells l0 A0 B0 n0 c0 m0 d0)[8]? ∧ W.cell? ⟨w.heap.size, 9, none⟩ = (lsaCells l0 A0 B0 n0 c0 m0 d0)[9]? ∧ W.cell? ⟨w.heap.size + 1, 0, none⟩ = (lsaCells l1 A1 B1 n1 c1 m1 d1)[0]? ∧ W.cell? ⟨w.heap.size + 1, 1, none⟩ = (lsaCells l1 A1 B1 n1 c1 m1 d1)[1]? ∧ W.cell? ⟨w.heap.size + 1, 2, none⟩ = (lsaCells l1 A1 B1 n1 c1 m1 d1)[2]? ∧ W.cell? ⟨w.heap.size + 1, 3, none⟩ = (lsaCells l1 A1 B1 n1 c1 m1 d1)[3]? ∧ W.cell? ⟨w.heap.size + 1, 4, none⟩ = (lsaCells l1 A1 B1 n1 c1 m1 d1)[4]? ∧ W.cell? ⟨w.heap.size + 1, 5, none⟩ = (lsaCells l1 A1 B1 n1 c1 m1 d1)[5]? ∧ W.cell? ⟨w.heap.size + 1, 6, none⟩ = (lsaCells l1 A1 B1 n1 c1 m1 d1)[6]? ∧ W.cell? ⟨w.heap.size + 1, 7, none⟩ = (lsaCells l1 A1 B1 n1 c1 m1 d1)[7]? ∧ W.cell? ⟨w.heap.size + 1, 8, none⟩ = (lsaCells l1 A1 B1 n1 c1 m1 d1)[8]? ∧ W.cell? ⟨w.heap.size + 1, 9, none⟩ = (lsaCells l1 A1 B1 n1 c1 m1 d1)[9]?) (exact SB.out _ (by assumption))
      (first
      | (go_at_call 26; ((with_reducible refine (toLsa_at l0 q0 lo0 hi0 A0 B0 n0 c0 m0 d0 _ (HA0_10.out.below V0.out) hN0 hM0).mono ?_); rintro e ua0 ⟨Ps0, Qs0, rfl, hls0, hb⟩; have V1 := Lib.hid (below_step V0.out hb); have MA0 := Lib.hid hls0; clear hb hls0))
      | (go_at_call 26; ((with_reducible refine (toLsa_at l1 q1 lo1 hi1 A1 B1 n1 c1 m1 d1 _ (HA1_10.out.below V0.out) hN1 hM1).mono ?_); rintro e ua1 ⟨Ps1, Qs1, rfl, hls1, hb⟩; have V1 := Lib.hid (below_step V0.out hb); have MA1 := Lib.hid hls1; clear hb hls1))
      | (go_at_call 26; ((with_reducible refine (toLsa_at l0 q0 lo0 hi0 A0 B0 n0 c0 m0 d0 _ (HA0_10.out.below V1.out) hN0 hM0).mono ?_); rintro e ub0 ⟨Ps0, Qs0, rfl, hls0, hb⟩; have V2 := Lib.hid (below_step V1.out hb); have MB0 := Lib.hid hls0; have MB1 := Lib.hid (MA1.out.below hb); clear hb hls0))
      | (go_at_call 26; ((with_reducible refine (toLsa_at l1 q1 lo1 hi1 A1 B1 n1 c1 m1 d1 _ (HA1_10.out.below V1.out) hN1 hM1).mono ?_); rintro e ub1 ⟨Ps1, Qs1, rfl, hls1, hb⟩; have V2 := Lib.hid (below_step V1.out hb); have MB1 := Lib.hid hls1; have MB0 := Lib.hid (MA0.out.below hb); clear hb hls1))
      | (go_at_call 21; ((with_reducible refine (specSameLsas_any l0 l1 true true _ _ _ _ _ _ _ _ n0 n0 m0 m0 n1 n1 m1 m1 _ MB0.out.in_ MB1.out.in_ MB0.out.le MB1.out.le hN0 hM0 hN1 hM1).mono ?_); rw [HR.out]; rintro e uc ⟨rfl, hb⟩; have V3 := Lib.hid (below_step V2.out hb); clear hb)))
    all_goals (go_wp2_with fail; go_meet; exact ⟨rfl, V3⟩)
  obtain ⟨rfl, HC⟩ := hcut
  have hb := HC.out
  clear HC SB V0
  have HB_12 := Lib.hid (below_step HB_10.out hb)
  have HA0_12 := Lib.hid (HA0_10.out.below hb)
  have HA1_12 := Lib.hid (HA1_10.out.below hb)
  have HX0_12 := Lib.hid (HX0_10.out.below hb)
  have HX1_12 := Lib.hid (HX1_10.out.below hb)
  clear HB_10 HA0_10 HA1_10 HX0_10 HX1_10 hb
  have cHX00 := HX0_12.out.look 0
  have cHX01 := HX0_12.out.look 1
  have cHX02 := HX0_12.out.look 2
  have cHX03 := HX0_12.out.look 3
  have cHX04 := HX0_12.out.look 4
  have cHX05 := HX0_12.out.look 5
  have cHX06 := HX0_12.out.look 6
  have cHX07 := HX0_12.out.look 7
  have cHX08 := HX0_12.out.look 8
  have cHX09 := HX0_12.out.look 9
  have lHX0 := HX0_12.out.lt
  have cHX10 := HX1_12.out.look 0
  have cHX11 := HX1_12.out.look 1
  have cHX12 := HX1_12.out.look 2
  have cHX13 := HX1_12.out.look 3
  have cHX14 := HX1_12.out.look 4
  have cHX15 := HX1_12.out.look 5
  have cHX16 := HX1_12.out.look 6
  have cHX17 := HX1_12.out.look 7
  have cHX18 := HX1_12.out.look 8
  have cHX19 := HX1_12.out.look 9
  have lHX1 := HX1_12.out.lt
  go_wp2_with fail
  clear cHX00 cHX01 cHX02 cHX03 cHX04 cHX05 cHX06 cHX07 cHX08 cHX09 lHX0 cHX10 cHX11 cHX12 cHX13 cHX14 cHX15 cHX16 cHX17 cHX18 cHX19 lHX1
  refine (toLsa_at l0 q0 lo0 hi0 A0 B0 n0 c0 m0 d0 _ HA0_12.out hN0 hM0).mono ?_
  rintro e w13 ⟨Px0, Qx0, rfl, hlx0, hb⟩
  have HB_14 := Lib.hid (below_step HB_12.out hb)
  have HA0_14 := Lib.hid (HA0_12.out.below hb)
  have HA1_14 := Lib.hid (HA1_12.out.below hb)
  have HX0_14 := Lib.hid (HX0_12.out.below hb)
  have HX1_14 := Lib.hid (HX1_12.out.below hb)
  clear HB_12 HA0_12 HA1_12 HX0_12 HX1_12 hb
  have HG0_15 := Lib.hid (hlx0)
  clear hlx0
  have cHX00 := HX0_14.out.look 0
  have cHX01 := HX0_14.out.look 1
  have cHX02 := HX0_14.out.look 2
  have cHX03 := HX0_14.out.look 3
  have cHX04 := HX0_14.out.look 4
  have cHX05 := HX0_14.out.look 5
  have cHX06 := HX0_14.out.look 6
  have cHX07 := HX0_14.out.look 7
  have cHX08 := HX0_14.out.look 8
  have cHX09 := HX0_14.out.look 9
  have lHX0 := HX0_14.out.lt
  have cHX10 := HX1_14.out.look 0
  have cHX11 := HX1_14.out.look 1
  have cHX12 := HX1_14.out.look 2
  have cHX13 := HX1_14.out.look 3
  have cHX14 := HX1_14.out.look 4
  have cHX15 := HX1_14.out.look 5
  have cHX16 := HX1_14.out.look 6
  have cHX17 := HX1_14.out.look 7
  have cHX18 := HX1_14.out.look 8
  have cHX19 := HX1_14.out.look 9
  have lHX1 := HX1_14.out.lt
  go_wp2_with fail
  clear cHX00 cHX01 cHX02 cHX03 cHX04 cHX05 cHX06 cHX07 cHX08 cHX09 lHX0 cHX10 cHX11 cHX12 cHX13 cHX14 cHX15 cHX16 cHX17 cHX18 cHX19 lHX1
  obtain ⟨W16, hW16⟩ : ∃ W : World, W = w13.alloc (.cells (lsaCells l0 Px0 Qx0 n0 n0 m0 m0) 29) := ⟨_, rfl⟩
  have hb : Below w13.heap.size w13 W16 := by rw [hW16]; exact (Below.refl _ _).alloc (Nat.le_refl _) _
  have HY0_16 : Hid (Box W16 w13.heap.size 29 (lsaCells l0 Px0 Qx0 n0 n0 m0 m0)) := by rw [hW16]; exact Lib.hid (Box.made _ _ _)
  rw [← hW16]
  clear hW16
  have HB_17 := Lib.hid (below_step HB_14.out hb)
  have HA0_17 := Lib.hid (HA0_14.out.below hb)
  have HA1_17 := Lib.hid (HA1_14.out.below hb)
  have HX0_17 := Lib.hid (HX0_14.out.below hb)
  have HX1_17 := Lib.hid (HX1_14.out.below hb)
  have HG0_17 := Lib.hid (HG0_15.out.below hb)
  clear HB_14 HA0_14 HA1_14 HX0_14 HX1_14 HG0_15 hb
  refine (toLsa_at l1 q1 lo1 hi1 A1 B1 n1 c1 m1 d1 _ HA1_17.out hN1 hM1).mono ?_
  rintro e w18 ⟨Px1, Qx1, rfl, hlx1, hb⟩
  have HB_19 := Lib.hid (below_step HB_17.out hb)
  have HA0_19 := Lib.hid (HA0_17.out.below hb)
  have HA1_19 := Lib.hid (HA1_17.out.below hb)
  have HX0_19 := Lib.hid (HX0_17.out.below hb)
  have HX1_19 := Lib.hid (HX1_17.out.below hb)
  have HG0_19 := Lib.hid (HG0_17.out.below hb)
  have HY0_19 := Lib.hid (HY0_16.out.below hb)
  clear HB_17 HA0_17 HA1_17 HX0_17 HX1_17 HG0_17 HY0_16 hb
  have HG1_20 := Lib.hid (hlx1)
  clear hlx1
  have cHY00 := HY0_19.out.look 0
  have cHY01 := HY0_19.out.look 1
  have cHY02 := HY0_19.out.look 2
  have cHY03 := HY0_19.out.look 3
  have cHY04 := HY0_19.out.look 4
  have cHY05 := HY0_19.out.look 5
  have cHY06 := HY0_19.out.look 6
  have cHY07 := HY0_19.out.look 7
  have cHY08 := HY0_19.out.look 8
  have cHY09 := HY0_19.out.look 9
  have lHY0 := HY0_19.out.lt
  go_wp2_with fail
  clear cHY00 cHY01 cHY02 cHY03 cHY04 cHY05 cHY06 cHY07 cHY08 cHY09 lHY0
  obtain ⟨W21, hW21⟩ : ∃ W : World, W = w18.alloc (.cells (lsaCells l1 Px1 Qx1 n1 n1 m1 m1) 29) := ⟨_, rfl⟩
  have hb : Below w18.heap.size w18 W21 := by rw [hW21]; exact (Below.refl _ _).alloc (Nat.le_refl _) _
  have HY1_21 : Hid (Box W21 w18.heap.size 29 (lsaCells l1 Px1 Qx1 n1 n1 m1 m1)) := by rw [hW21]; exact Lib.hid (Box.made _ _ _)
  rw [← hW21]
  clear hW21
  have HB_22 := Lib.hid (below_step HB_19.out hb)
  have HA0_22 := Lib.hid (HA0_19.out.below hb)
  have HA1_22 := Lib.hid (HA1_19.out.below hb)
  have HX0_22 := Lib.hid (HX0_19.out.below hb)
  have HX1_22 := Lib.hid (HX1_19.out.below hb)
  have HG0_22 := Lib.hid (HG0_19.out.below hb)
  have HY0_22 := Lib.hid (HY0_19.out.below hb)
  have HG1_22 := Lib.hid (HG1_20.out.below hb)
  clear HB_19 HA0_19 HA1_19 HX0_19 HX1_19 HG0_19 HY0_19 HG1_20 hb
  refine (sameLsas_any l0 l1 true true _ _ _ _ Px0 Qx0 Px1 Qx1 n0 n0 m0 m0 n1 n1 m1 m1 _ HG0_22.out.in_ HG1_22.out.in_ HG0_22.out.le HG1_22.out.le hN0 hM0 hN1 hM1).mono ?_
  rw [HR.out]
  rintro e w23 ⟨rfl, hb⟩
  have HB_24 := Lib.hid (below_step HB_22.out hb)
  have HA0_24 := Lib.hid (HA0_22.out.below hb)
  have HA1_24 := Lib.hid (HA1_22.out.below hb)
  have HX0_24 := Lib.hid (HX0_22.out.below hb)
  have HX1_24 := Lib.hid (HX1_22.out.below hb)
  have HG0_24 := Lib.hid (HG0_22.out.below hb)
  have HY0_24 := Lib.hid (HY0_22.out.below hb)
  have HG1_24 := Lib.hid (HG1_22.out.below hb)
  have HY1_24 := Lib.hid (HY1_21.out.below hb)
  clear HB_22 HA0_22 HA1_22 HX0_22 HX1_22 HG0_22 HY0_22 HG1_22 HY1_21 hb
  have SB : Hid (∀ W, Hid (Below w23.heap.size w23 W) → (fun W => W.cell? ⟨w.heap.size, 0, none⟩ = (lsaCells l0 A0 B0 n0 c0 m0 d0)[0]? ∧ W.cell? ⟨w.heap.size, 1, none⟩ = (lsaCells l0 A0 B0 n0 c0 m0 d0)[1]? ∧ W.cell? ⟨w.heap.size, 2, none⟩ = (lsaCells l0 A0 B0 n0 c0 m0 d0)[2]? ∧ W.cell? ⟨w.heap.size, 3, none⟩ = (lsaCells l0 A0 B0 n0 c0 m0 d0)[3]? ∧ W.cell? ⟨w.heap.size, 4, none⟩ = (lsaCells l0 A0 B0 n0 c0 m0 d0)[4]? ∧ W.cell? ⟨w.heap.size, 5, none⟩ = (lsaCells l0 A0 B0 n0 c0 m0 d0)[5]? ∧ W.cell? ⟨w.heap.size, 6, none⟩ = (lsaCells l0 A0 B0 n0 c0 m0 d0)[6]? ∧ W.cell? ⟨w.heap.size, 7, none⟩ = (lsaCells l0 A0 B0 n0 c0 m0 d0)[7]? ∧ W.cell? ⟨w.heap.size, 8, none⟩ = (lsaCells l0 A0 B0 n0 c0 m0 d0)[8]? ∧ W.cell? ⟨w.heap.size, 9, none⟩ = (lsaCells l0 A0 B0 n0 c0 m0 d0)[9]? ∧ W.cell? ⟨w13.heap.size, 0, none⟩ = (lsaCells l0 Px0 Qx0 n0 n0 m0 m0)[0]? ∧ W.cell? ⟨w13.heap.size, 1, none⟩ = (lsaCells l0 Px0 Qx0 n0 n0 m0 m0)[1]? ∧ W.cell? ⟨w13.heap.size, 2, none⟩ = (lsaCells l0 Px0 Qx0 n0 n0 m0 m0)[2]? ∧ W.cell? ⟨w13.heap.size, 3, none⟩ = (lsaCells l0 Px0 Qx0 n0 n0 m0 m0)[3]? ∧ W.cell? ⟨w13.heap.size, 4, none⟩ = (lsaCells l0 Px0 Qx0 n0 n0 m0 m0)[4]? ∧ W.cell? ⟨w13.heap.size, 5, none⟩ = (lsaCells l0 Px0 Qx0 n0 n0 m0 m0)[5]? ∧ W.cell? ⟨w13.heap.size, 6, none⟩ = (lsaCells l0 Px0 Qx0 n0 n0 m0 m0)[6]? ∧ W.cell? ⟨w13.heap.size, 7, none⟩ = (lsaCells l0 Px0 Qx0 n0 n0 m0 m0)[7]? ∧ W.cell? ⟨w13.heap.size, 8, none⟩ = (lsaCells l0 Px0 Qx0 n0 n0 m0 m0)[8]? ∧ W.cell? ⟨w13.heap.size, 9, none⟩ = (lsaCells l0 Px0 Qx0 n0 n0 m0 m0)[9]?) W) := fun W h => ⟨(HX0_24.out.below h.out).look 0, (HX0_24.out.below h.out).look 1, (HX0_24.out.below h.out).look 2, (HX0_24.out.below h.out).look 3, (HX0_24.out.below h.out).look 4, (HX0_24.out.below h.out).look 5, (HX0_24.out.below h.out).look 6, (HX0_24.out.below h.out).look 7, (HX0_24.out.below h.out).look 8, (HX0_24.out.below h.out).look 9, (HY0_24.out.below h.out).look 0, (HY0_24.out.below h.out).look 1, (HY0_24.out.below h.out).look 2, (HY0_24.out.below h.out).look 3, (HY0_24.out.below h.out).look 4, (HY0_24.out.below h.out).look 5, (HY0_24.out.below h.out).look 6, (HY0_24.out.below h.out).look 7, (HY0_24.out.below h.out).look 8, (HY0_24.out.below h.out).look 9⟩
  have V0 : Hid (Below w23.heap.size w23 w23.drew) := (Below.refl _ _).drew
  go_wp2_with fail
  go_region_held3 (fun W => W.cell? ⟨w.heap.size, 0, none⟩ = (lsaCells l0 A0 B0 n0 c0 m0 d0)[0]? ∧ W.cell? ⟨w.heap.size, 1, none⟩ = (lsaCells l0 A0 B0 n0 c0 m0 d0)[1]? ∧ W.cell? ⟨w.heap.size, 2, none⟩ = (lsaCells l0 A0 B0 n0 c0 m0 d0)[2]? ∧ W.cell? ⟨w.heap.size, 3, none⟩ = (lsaCells l0 A0 B0 n0 c0 m0 d0)[3]? ∧ W.cell? ⟨w.heap.size, 4, none⟩ = (lsaCells l0 A0 B0 n0 c0 m0 d0)[4]? ∧ W.cell? ⟨w.heap.size, 5, none⟩ = (lsaCells l0 A0 B0 n0 c0 m0 d0)[5]? ∧ W.cell? ⟨w.heap.size, 6, none⟩ = (lsaCells l0 A0 B0 n0 c0 m0 d0)[6]? ∧ W.cell? ⟨w.heap.size, 7, none⟩ = (lsaCells l0 A0 B0 n0 c0 m0 d0)[7]? ∧ W.cell? ⟨w.heap.size, 8, none⟩ = (lsaCells l0 A0 B0 n0 c0 m0 d0)[8]? ∧ W.cell? ⟨w.heap.size, 9, none⟩ = (lsaCells l0 A0 B0 n0 c0 m0 d0)[9]? ∧ W.cell? ⟨w13.heap.size, 0, none⟩ = (lsaCells l0 Px0 Qx0 n0 n0 m0 m0)[0]? ∧ W.cell? ⟨w13.heap.size, 1, none⟩ = (lsaCells l0 Px0 Qx0 n0 n0 m0 m0)[1]? ∧ W.cell? ⟨w13.heap.size, 2, none⟩ = (lsaCells l0 Px0 Qx0 n0 n0 m0 m0)[2]? ∧ W.cell? ⟨w13.heap.size, 3, none⟩ = (lsaCells l0 Px0 Qx0 n0 n0 m0 m0)[3]? ∧ W.cell? ⟨w13.heap.size, 4, none⟩ = (lsaCells l0 Px0 Qx0 n0 n0 m0 m0)[4]? ∧ W.cell? ⟨w13.heap.size, 5, none⟩ = (lsaCells l0 Px0 Qx0 n0 n0 m0 m0)[5]? ∧ W.cell? ⟨w13.heap.size, 6, none⟩ = (lsaCells l0 Px0 Qx0 n0 n0 m0 m0)[6]? ∧ W.cell? ⟨w13.heap.size, 7, none⟩ = (lsaCells l0 Px0 Qx0 n0 n0 m0 m0)[7]? ∧ W.cell? ⟨w13.heap.size, 8, none⟩ = (lsaCells l0 Px0 Qx0 n0 n0 m0 m0)[8]? ∧ W.cell? ⟨w13.heap.size, 9, none⟩ = (lsaCells l0 Px0 Qx0 n0 n0 m0 m0)[9]?) (exact SB.out _ (by assumption))
    (first | (go_at_call 26; refine (toLsa_at l0 q0 lo0 hi0 A0 B0 n0 c0 m0 d0 _ (HA0_24.out.below V0.out) hN0 hM0).mono ?_; rintro e u25_0 ⟨Pz0, Qz0, rfl, hlz0, hb⟩; have V1 := Lib.hid (below_step V0.out hb); have MHZ0 := Lib.hid hlz0; clear hlz0; clear hb) | (go_at_call 27; refine (eqLsa_at l0 _ _ _ _ _ _ Px0 Qx0 _ _ n0 n0 m0 m0 n0 m0 _ (HG0_24.out.below V1.out) MHZ0.out hN0 hM0).mono ?_; rintro e u25_1 ⟨rfl, hb⟩; have V2 := Lib.hid (below_step V1.out hb); have MHZ0' := Lib.hid (MHZ0.out.below hb); clear hb))
  have hb := V2.out
  have HB_26 := Lib.hid (below_step HB_24.out hb)
  have HA0_26 := Lib.hid (HA0_24.out.below hb)
  have HA1_26 := Lib.hid (HA1_24.out.below hb)
  have HX0_26 := Lib.hid (HX0_24.out.below hb)
  have HX1_26 := Lib.hid (HX1_24.out.below hb)
  have HG0_26 := Lib.hid (HG0_24.out.below hb)
  have HY0_26 := Lib.hid (HY0_24.out.below hb)
  have HG1_26 := Lib.hid (HG1_24.out.below hb)
  have HY1_26 := Lib.hid (HY1_24.out.below hb)
  clear HB_24 HA0_24 HA1_24 HX0_24 HX1_24 HG0_24 HY0_24 HG1_24 HY1_24 hb
  clear SB V0 MHZ0 V1 MHZ0' V2
  have SB : Hid (∀ W, Hid (Below u25_1.heap.size u25_1 W) → (fun W => W.cell? ⟨w.heap.size + 1, 0, none⟩ = (lsaCells l1 A1 B1 n1 c1 m1 d1)[0]? ∧ W.cell? ⟨w.heap.size + 1, 1, none⟩ = (lsaCells l1 A1 B1 n1 c1 m1 d1)[1]? ∧ W.cell? ⟨w.heap.size + 1, 2, none⟩ = (lsaCells l1 A1 B1 n1 c1 m1 d1)[2]? ∧ W.cell? ⟨w.heap.size + 1, 3, none⟩ = (lsaCells l1 A1 B1 n1 c1 m1 d1)[3]? ∧ W.cell? ⟨w.heap.size + 1, 4, none⟩ = (lsaCells l1 A1 B1 n1 c1 m1 d1)[4]? ∧ W.cell? ⟨w.heap.size + 1, 5, none⟩ = (lsaCells l1 A1 B1 n1 c1 m1 d1)[5]? ∧ W.cell? ⟨w.heap.size + 1, 6, none⟩ = (lsaCells l1 A1 B1 n1 c1 m1 d1)[6]? ∧ W.cell? ⟨w.heap.size + 1, 7, none⟩ = (lsaCells l1 A1 B1 n1 c1 m1 d1)[7]? ∧ W.cell? ⟨w.heap.size + 1, 8, none⟩ = (lsaCells l1 A1 B1 n1 c1 m1 d1)[8]? ∧ W.cell? ⟨w.heap.size + 1, 9, none⟩ = (lsaCells l1 A1 B1 n1 c1 m1 d1)[9]? ∧ W.cell? ⟨w18.heap.size, 0, none⟩ = (lsaCells l1 Px1 Qx1 n1 n1 m1 m1)[0]? ∧ W.cell? ⟨w18.heap.size, 1, none⟩ = (lsaCells l1 Px1 Qx1 n1 n1 m1 m1)[1]? ∧ W.cell? ⟨w18.heap.size, 2, none⟩ = (lsaCells l1 Px1 Qx1 n1 n1 m1 m1)[2]? ∧ W.cell? ⟨w18.heap.size, 3, none⟩ = (lsaCells l1 Px1 Qx1 n1 n1 m1 m1)[3]? ∧ W.cell? ⟨w18.heap.size, 4, none⟩ = (lsaCells l1 Px1 Qx1 n1 n1 m1 m1)[4]? ∧ W.cell? ⟨w18.heap.size, 5, none⟩ = (lsaCells l1 Px1 Qx1 n1 n1 m1 m1)[5]? ∧ W.cell? ⟨w18.heap.size, 6, none⟩ = (lsaCells l1 Px1 Qx1 n1 n1 m1 m1)[6]? ∧ W.cell? ⟨w18.heap.size, 7, none⟩ = (lsaCells l1 Px1 Qx1 n1 n1 m1 m1)[7]? ∧ W.cell? ⟨w18.heap.size, 8, none⟩ = (lsaCells l1 Px1 Qx1 n1 n1 m1 m1)[8]? ∧ W.cell? ⟨w18.heap.size, 9, none⟩ = (lsaCells l1 Px1 Qx1 n1 n1 m1 m1)[9]?) W) := fun W h => ⟨(HX1_26.out.below h.out).look 0, (HX1_26.out.below h.out).look 1, (HX1_26.out.below h.out).look 2, (HX1_26.out.below h.out).look 3, (HX1_26.out.below h.out).look 4, (HX1_26.out.below h.out).look 5, (HX1_26.out.below h.out).look 6, (HX1_26.out.below h.out).look 7, (HX1_26.out.below h.out).look 8, (HX1_26.out.below h.out).look 9, (HY1_26.out.below h.out).look 0, (HY1_26.out.below h.out).look 1, (HY1_26.out.below h.out).look 2, (HY1_26.out.below h.out).look 3, (HY1_26.out.below h.out).look 4, (HY1_26.out.below h.out).look 5, (HY1_26.out.below h.out).look 6, (HY1_26.out.below h.out).look 7, (HY1_26.out.below h.out).look 8, (HY1_26.out.below h.out).look 9⟩
  have V0 : Hid (Below u25_1.heap.size u25_1 u25_1.drew) := (Below.refl _ _).drew
  go_wp2_with fail
  go_region_held3 (fun W => W.cell? ⟨w.heap.size + 1, 0, none⟩ = (lsaCells l1 A1 B1 n1 c1 m1 d1)[0]? ∧ W.cell? ⟨w.heap.size + 1, 1, none⟩ = (lsaCells l1 A1 B1 n1 c1 m1 d1)[1]? ∧ W.cell? ⟨w.heap.size + 1, 2, none⟩ = (lsaCells l1 A1 B1 n1 c1 m1 d1)[2]? ∧ W.cell? ⟨w.heap.size + 1, 3, none⟩ = (lsaCells l1 A1 B1 n1 c1 m1 d1)[3]? ∧ W.cell? ⟨w.heap.size + 1, 4, none⟩ = (lsaCells l1 A1 B1 n1 c1 m1 d1)[4]? ∧ W.cell? ⟨w.heap.size + 1, 5, none⟩ = (lsaCells l1 A1 B1 n1 c1 m1 d1)[5]? ∧ W.cell? ⟨w.heap.size + 1, 6, none⟩ = (lsaCells l1 A1 B1 n1 c1 m1 d1)[6]? ∧ W.cell? ⟨w.heap.size + 1, 7, none⟩ = (lsaCells l1 A1 B1 n1 c1 m1 d1)[7]? ∧ W.cell? ⟨w.heap.size + 1, 8, none⟩ = (lsaCells l1 A1 B1 n1 c1 m1 d1)[8]? ∧ W.cell? ⟨w.heap.size + 1, 9, none⟩ = (lsaCells l1 A1 B1 n1 c1 m1 d1)[9]? ∧ W.cell? ⟨w18.heap.size, 0, none⟩ = (lsaCells l1 Px1 Qx1 n1 n1 m1 m1)[0]? ∧ W.cell? ⟨w18.heap.size, 1, none⟩ = (lsaCells l1 Px1 Qx1 n1 n1 m1 m1)[1]? ∧ W.cell? ⟨w18.heap.size, 2, none⟩ = (lsaCells l1 Px1 Qx1 n1 n1 m1 m1)[2]? ∧ W.cell? ⟨w18.heap.size, 3, none⟩ = (lsaCells l1 Px1 Qx1 n1 n1 m1 m1)[3]? ∧ W.cell? ⟨w18.heap.size, 4, none⟩ = (lsaCells l1 Px1 Qx1 n1 n1 m1 m1)[4]? ∧ W.cell? ⟨w18.heap.size, 5, none⟩ = (lsaCells l1 Px1 Qx1 n1 n1 m1 m1)[5]? ∧ W.cell? ⟨w18.heap.size, 6, none⟩ = (lsaCells l1 Px1 Qx1 n1 n1 m1 m1)[6]? ∧ W.cell? ⟨w18.heap.size, 7, none⟩ = (lsaCells l1 Px1 Qx1 n1 n1 m1 m1)[7]? ∧ W.cell? ⟨w18.heap.size, 8, none⟩ = (lsaCells l1 Px1 Qx1 n1 n1 m1 m1)[8]? ∧ W.cell? ⟨w18.heap.size, 9, none⟩ = (lsaCells l1 Px1 Qx1 n1 n1 m1 m1)[9]?) (exact SB.out _ (by assumption))
    (first | (go_at_call 26; refine (toLsa_at l1 q1 lo1 hi1 A1 B1 n1 c1 m1 d1 _ (HA1_26.out.below V0.out) hN1 hM1).mono ?_; rintro e u27_0 ⟨Pz1, Qz1, rfl, hlz1, hb⟩; have V1 := Lib.hid (below_step V0.out hb); have MHZ1 := Lib.hid hlz1; clear hlz1; clear hb) | (go_at_call 27; refine (eqLsa_at l1 _ _ _ _ _ _ Px1 Qx1 _ _ n1 n1 m1 m1 n1 m1 _ (HG1_26.out.below V1.out) MHZ1.out hN1 hM1).mono ?_; rintro e u27_1 ⟨rfl, hb⟩; have V2 := Lib.hid (below_step V1.out hb); have MHZ1' := Lib.hid (MHZ1.out.below hb); clear hb))
  have hb := V2.out
  have HB_28 := Lib.hid (below_step HB_26.out hb)
  have HA0_28 := Lib.hid (HA0_26.out.below hb)
  have HA1_28 := Lib.hid (HA1_26.out.below hb)
  have HX0_28 := Lib.hid (HX0_26.out.below hb)
  have HX1_28 := Lib.hid (HX1_26.out.below hb)
  have HG0_28 := Lib.hid (HG0_26.out.below hb)
  have HY0_28 := Lib.hid (HY0_26.out.below hb)
  have HG1_28 := Lib.hid (HG1_26.out.below hb)
  have HY1_28 := Lib.hid (HY1_26.out.below hb)
  clear HB_26 HA0_26 HA1_26 HX0_26 HX1_26 HG0_26 HY0_26 HG1_26 HY1_26 hb
  clear SB V0 MHZ1 V1 MHZ1' V2
  go_wp2
  go_ret
  exact ⟨rfl, HB_28.out⟩

end Go.Proofs.Ytcmjldmnannmcaa
