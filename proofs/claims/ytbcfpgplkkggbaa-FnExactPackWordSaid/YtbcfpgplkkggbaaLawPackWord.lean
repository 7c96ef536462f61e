/-
  The walk of the law FnExactPackWord: the program's PackWord answers as the model's, whatever the number and the size, in new memory.
-/
import Derived.Test.YtbcfpgplkkggbaaPack
namespace Go.Proofs.Ytbcfpgplkkggbaa
open Go.RowKit

set_option maxHeartbeats 800000 in
theorem law_PackWord (m s : Int) (w : World) (hmx : m ≤ 9223372036854775807) :
    Calls Try.prog 4 #[.int .i64 m, .int .i64 s] w fun e w' => e = .returned (.bool true) ∧ Below w.heap.size w w' := by
  have HPL := Lib.hid (pbytes_len m s)
  go_enter Try.func4, Try.ntmps4
  have HB0 : Hid (Below w.heap.size w w) := Below.refl _ _
  go_wp2_with fail
  refine (specPack_any m s _ hmx).mono ?_
  have SHO1 := Lib.hid HB0.out.size
  rintro e w1 ⟨A1, n1, c1, rfl, HO_1, hb1⟩
  have HB1 := Lib.hid (below_step HB0.out hb1)
  clear HB0 hb1
  have HO1 := Lib.hid HO_1
  clear HO_1
  have hn1 : n1 ≤ 1048576 := by have := HO1.out.len; have := HPL.out; omega
  go_wp2_with fail
  obtain ⟨W2, hW2⟩ : ∃ W : World, W = w1.alloc (.cells #[.int .i64 (pcode m s), .slice A1 n1 c1] 27) := ⟨_, rfl⟩
  have hb2 : Below w1.heap.size w1 W2 := by rw [hW2]; exact (Below.refl _ _).alloc (Nat.le_refl _) _
  have HX2 : Hid (Box W2 w1.heap.size 27 #[.int .i64 (pcode m s), .slice A1 n1 c1]) := by rw [hW2]; exact Box.made _ _ _
  rw [← hW2]
  clear hW2
  have HB2 := Lib.hid (below_step HB1.out hb2)
  have HO2 := Lib.hid (HO1.out.below hb2)
  clear HB1 HO1 hb2
  have D1 := Lib.hid HO2.out.lts
  refine (pack_any m s _).mono ?_
  have SHP3 := Lib.hid HB2.out.size
  rintro e w3 ⟨A2, n2, c2, rfl, HP_3, hb3⟩
  have HB3 := Lib.hid (below_step HB2.out hb3)
  have HO3 := Lib.hid (HO2.out.below hb3)
  have HX3 := Lib.hid (HX2.out.below hb3)
  clear HB2 HO2 HX2 hb3
  have HP3 := Lib.hid HP_3
  clear HP_3
  obtain rfl : n2 = n1 := by have := HO3.out.len; have := HP3.out.len; omega
  have cHX0 := HX3.out.look 0
  have cHX1 := HX3.out.look 1
  have lHX := HX3.out.lt
  go_wp2_with fail
  clear cHX0 cHX1 lHX
  obtain ⟨W4, hW4⟩ : ∃ W : World, W = w3.alloc (.cells #[.int .i64 (pcode m s), .slice A2 n2 c2] 27) := ⟨_, rfl⟩
  have hb4 : Below w3.heap.size w3 W4 := by rw [hW4]; exact (Below.refl _ _).alloc (Nat.le_refl _) _
  have HY4 : Hid (Box W4 w3.heap.size 27 #[.int .i64 (pcode m s), .slice A2 n2 c2]) := by rw [hW4]; exact Box.made _ _ _
  rw [← hW4]
  clear hW4
  have HB4 := Lib.hid (below_step HB3.out hb4)
  have HO4 := Lib.hid (HO3.out.below hb4)
  have HX4 := Lib.hid (HX3.out.below hb4)
  have HP4 := Lib.hid (HP3.out.below hb4)
  clear HB3 HO3 HX3 HP3 hb4
  refine (eqBytesResult_yes _ _ _ _ _ _ (pbytes m s) _ HP4.out.bin HO4.out.bin hn1).mono ?_
  rintro e w5 ⟨rfl, hb5⟩
  have HB5 := Lib.hid (below_step HB4.out hb5)
  have HO5 := Lib.hid (HO4.out.below hb5)
  have HX5 := Lib.hid (HX4.out.below hb5)
  have HP5 := Lib.hid (HP4.out.below hb5)
  have HY5 := Lib.hid (HY4.out.below hb5)
  clear HB4 HO4 HX4 HP4 HY4 hb5
  have cHY0 := HY5.out.look 0
  have cHY1 := HY5.out.look 1
  have lHY := HY5.out.lt
  go_wp2_with fail
  clear cHY0 cHY1 lHY
  refine (markBytesResult_any _ _ _ _ _ (pbytes m s) 1 _ HP5.out hn1 (by omega) (by omega)).mono ?_
  rintro e w6 ⟨rfl, ho6, hg6⟩
  have HX6 := Lib.hid (HX5.out.grown hg6 (HP5.out.ne_box HX5.out (by decide)))
  have HY6 := Lib.hid (HY5.out.grown hg6 (HP5.out.ne_box HY5.out (by decide)))
  have HO6 := Lib.hid (HO5.out.grown hg6 (HP5.out.apart D1.out))
  have HB6 := Lib.hid (HB5.out.grown hg6 HB5.out.size (fun r hr => Nat.le_trans SHP3.out (HP5.out.block r hr).1))
  have HM6 := Lib.hid ho6
  clear HX5 HY5 HO5 HB5 HP5 ho6 hg6
  have cHY0 := HY6.out.look 0
  have cHY1 := HY6.out.look 1
  have lHY := HY6.out.lt
  go_wp2_with fail
  clear cHY0 cHY1 lHY
  refine (heldBytesResult_yes _ _ _ _ 1 _ HM6.out.bin hn1 (by omega) (by omega)).mono ?_
  rintro e w7 ⟨rfl, hb7⟩
  have HB7 := Lib.hid (below_step HB6.out hb7)
  have HO7 := Lib.hid (HO6.out.below hb7)
  have HX7 := Lib.hid (HX6.out.below hb7)
  have HY7 := Lib.hid (HY6.out.below hb7)
  have HM7 := Lib.hid (HM6.out.below hb7)
  clear HB6 HO6 HX6 HY6 HM6 hb7
  go_wp2_with fail
  refine (pack_any m s _).mono ?_
  have SHQ8 := Lib.hid HB7.out.size
  rintro e w8 ⟨A3, n3, c3, rfl, HQ_8, hb8⟩
  have HB8 := Lib.hid (below_step HB7.out hb8)
  have HO8 := Lib.hid (HO7.out.below hb8)
  have HX8 := Lib.hid (HX7.out.below hb8)
  have HY8 := Lib.hid (HY7.out.below hb8)
  have HM8 := Lib.hid (HM7.out.below hb8)
  clear HB7 HO7 HX7 HY7 HM7 hb8
  have HQ8 := Lib.hid HQ_8
  clear HQ_8
  obtain rfl : n3 = n2 := by have := HO8.out.len; have := HQ8.out.len; omega
  have cHX0 := HX8.out.look 0
  have cHX1 := HX8.out.look 1
  have lHX := HX8.out.lt
  go_wp2_with fail
  clear cHX0 cHX1 lHX
  obtain ⟨W9, hW9⟩ : ∃ W : World, W = w8.alloc (.cells #[.int .i64 (pcode m s), .slice A3 n3 c3] 27) := ⟨_, rfl⟩
  have hb9 : Below w8.heap.size w8 W9 := by rw [hW9]; exact (Below.refl _ _).alloc (Nat.le_refl _) _
  have HZ9 : Hid (Box W9 w8.heap.size 27 #[.int .i64 (pcode m s), .slice A3 n3 c3]) := by rw [hW9]; exact Box.made _ _ _
  rw [← hW9]
  clear hW9
  have HB9 := Lib.hid (below_step HB8.out hb9)
  have HO9 := Lib.hid (HO8.out.below hb9)
  have HX9 := Lib.hid (HX8.out.below hb9)
  have HY9 := Lib.hid (HY8.out.below hb9)
  have HM9 := Lib.hid (HM8.out.below hb9)
  have HQ9 := Lib.hid (HQ8.out.below hb9)
  clear HB8 HO8 HX8 HY8 HM8 HQ8 hb9
  refine (eqBytesResult_yes _ _ _ _ _ _ (pbytes m s) _ HQ9.out.bin HO9.out.bin hn1).mono ?_
  rintro e w10 ⟨rfl, hb10⟩
  have HB10 := Lib.hid (below_step HB9.out hb10)
  have HO10 := Lib.hid (HO9.out.below hb10)
  have HX10 := Lib.hid (HX9.out.below hb10)
  have HY10 := Lib.hid (HY9.out.below hb10)
  have HM10 := Lib.hid (HM9.out.below hb10)
  have HQ10 := Lib.hid (HQ9.out.below hb10)
  have HZ10 := Lib.hid (HZ9.out.below hb10)
  clear HB9 HO9 HX9 HY9 HM9 HQ9 HZ9 hb10
  have cHY0 := HY10.out.look 0
  have cHY1 := HY10.out.look 1
  have lHY := HY10.out.lt
  go_wp2_with fail
  clear cHY0 cHY1 lHY
  refine (heldBytesResult_yes _ _ _ _ 1 _ HM10.out.bin hn1 (by omega) (by omega)).mono ?_
  rintro e w11 ⟨rfl, hb11⟩
  have HB11 := Lib.hid (below_step HB10.out hb11)
  have HO11 := Lib.hid (HO10.out.below hb11)
  have HX11 := Lib.hid (HX10.out.below hb11)
  have HY11 := Lib.hid (HY10.out.below hb11)
  have HM11 := Lib.hid (HM10.out.below hb11)
  have HQ11 := Lib.hid (HQ10.out.below hb11)
  have HZ11 := Lib.hid (HZ10.out.below hb11)
  clear HB10 HO10 HX10 HY10 HM10 HQ10 HZ10 hb11
  go_wp2
  go_ret
  exact ⟨rfl, HB11.out⟩

end Go.Proofs.Ytbcfpgplkkggbaa
