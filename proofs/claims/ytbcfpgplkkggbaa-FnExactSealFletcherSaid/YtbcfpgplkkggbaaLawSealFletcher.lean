/-
  The walk of the law FnExactSealFletcher: the program's SealFletcher answers as the model's, whatever the bytes and the place, in new memory.
-/
import Derived.Test.YtbcfpgplkkggbaaSeal
namespace Go.Proofs.Ytbcfpgplkkggbaa
open Go.RowKit

set_option maxHeartbeats 1600000 in
theorem law_SealFletcher (A : Option Addr) (n c : Nat) (xs : List Int) (a : Int) (w : World) (ha : BIn w A n xs) (hb : Bytes xs) (hm : n ≤ maxLen) :
    Calls Try.prog 7 #[.slice A n c, .int .i64 a] w fun e w' => e = .returned (.bool true) ∧ Below w.heap.size w w' := by
  unfold maxLen at hm
  by_cases hbig : 1048576 < n
  · have h1 : (1048576 : Int) < n := by omega
    go_enter Try.func7, Try.ntmps7
    go_wp2
    go_ret
    exact ⟨rfl, Below.refl _ _⟩
  · have h1 : ¬ (1048576 : Int) < n := by omega
    have hn : n ≤ 1048576 := by omega
    have HPL := Lib.hid (sbytes_len xs a)
    have hk0 : ¬ (1 + (n : Int) < 0) := by omega
    go_enter Try.func7, Try.ntmps7
    have HB0 : Hid (Below w.heap.size w w) := Below.refl _ _
    have HA0 := Lib.hid ha
    clear ha
    have D1 := Lib.hid HA0.out.lts
    go_wp2_with fail
    refine (toByteS_any _ _ _ xs _ HA0.out hn).mono ?_
    have SHT1 := Lib.hid HB0.out.size
    rintro e w1 ⟨rfl, HT_1, hb1⟩
    have HB1 := Lib.hid (below_step HB0.out hb1)
    have HA1 := Lib.hid (HA0.out.below hb1)
    clear HB0 HA0 hb1
    have HT1 := Lib.hid HT_1
    clear HT_1
    go_wp2_with fail
    refine (specSeal_any _ _ _ xs a _ HT1.out.bin hb hn).mono ?_
    have SHO2 := Lib.hid HB1.out.size
    rintro e w2 ⟨A1, n1, c1, rfl, HO_2, hb2⟩
    have HB2 := Lib.hid (below_step HB1.out hb2)
    have HA2 := Lib.hid (HA1.out.below hb2)
    clear HB1 HA1 HT1 hb2
    have HO2 := Lib.hid HO_2
    clear HO_2
    have hn1 : n1 ≤ 1048576 := by have := HO2.out.len; have := HPL.out; omega
    go_wp2_with fail
    obtain ⟨W3, hW3⟩ : ∃ W : World, W = w2.alloc (.cells #[.int .i64 (scode n a), .slice A1 n1 c1] 27) := ⟨_, rfl⟩
    have hb3 : Below w2.heap.size w2 W3 := by rw [hW3]; exact (Below.refl _ _).alloc (Nat.le_refl _) _
    have HX3 : Hid (Box W3 w2.heap.size 27 #[.int .i64 (scode n a), .slice A1 n1 c1]) := by rw [hW3]; exact Box.made _ _ _
    rw [← hW3]
    clear hW3
    have HB3 := Lib.hid (below_step HB2.out hb3)
    have HA3 := Lib.hid (HA2.out.below hb3)
    have HO3 := Lib.hid (HO2.out.below hb3)
    clear HB2 HA2 HO2 hb3
    have D2 := Lib.hid HO3.out.lts
    have D3 := Lib.hid HA3.out.lts
    refine (toByteS_any _ _ _ xs _ HA3.out hn).mono ?_
    have SHP4 := Lib.hid HB3.out.size
    rintro e w4 ⟨rfl, HP_4, hb4⟩
    have HB4 := Lib.hid (below_step HB3.out hb4)
    have HA4 := Lib.hid (HA3.out.below hb4)
    have HO4 := Lib.hid (HO3.out.below hb4)
    have HX4 := Lib.hid (HX3.out.below hb4)
    clear HB3 HA3 HO3 HX3 hb4
    have HP4 := Lib.hid HP_4
    clear HP_4
    have D4 := Lib.hid HP4.out.lts
    have D5 := Lib.hid HO4.out.lts
    have D6 := Lib.hid HA4.out.lts
    go_wp2_with fail
    refine (seal_any _ _ _ xs a _ HP4.out.bin hb hn).mono ?_
    have SHG5 := Lib.hid HB4.out.size
    rintro e w5 ⟨A2, n2, c2, rfl, HG_5, hb5⟩
    have HB5 := Lib.hid (below_step HB4.out hb5)
    have HA5 := Lib.hid (HA4.out.below hb5)
    have HO5 := Lib.hid (HO4.out.below hb5)
    have HX5 := Lib.hid (HX4.out.below hb5)
    have HP5 := Lib.hid (HP4.out.below hb5)
    clear HB4 HA4 HO4 HX4 HP4 hb5
    have HG5 := Lib.hid HG_5
    clear HG_5
    obtain rfl : n2 = n1 := by have := HO5.out.len; have := HG5.out.len; omega
    have cHX0 := HX5.out.look 0
    have cHX1 := HX5.out.look 1
    have lHX := HX5.out.lt
    go_wp2_with fail
    clear cHX0 cHX1 lHX
    obtain ⟨W6, hW6⟩ : ∃ W : World, W = w5.alloc (.cells #[.int .i64 (scode n a), .slice A2 n2 c2] 27) := ⟨_, rfl⟩
    have hb6 : Below w5.heap.size w5 W6 := by rw [hW6]; exact (Below.refl _ _).alloc (Nat.le_refl _) _
    have HY6 : Hid (Box W6 w5.heap.size 27 #[.int .i64 (scode n a), .slice A2 n2 c2]) := by rw [hW6]; exact Box.made _ _ _
    rw [← hW6]
    clear hW6
    have HB6 := Lib.hid (below_step HB5.out hb6)
    have HA6 := Lib.hid (HA5.out.below hb6)
    have HO6 := Lib.hid (HO5.out.below hb6)
    have HX6 := Lib.hid (HX5.out.below hb6)
    have HP6 := Lib.hid (HP5.out.below hb6)
    have HG6 := Lib.hid (HG5.out.below hb6)
    clear HB5 HA5 HO5 HX5 HP5 HG5 hb6
    refine (eqBytesResult_yes _ _ _ _ _ _ (sbytes xs a) _ HG6.out.bin HO6.out.bin hn1).mono ?_
    rintro e w7 ⟨rfl, hb7⟩
    have HB7 := Lib.hid (below_step HB6.out hb7)
    have HA7 := Lib.hid (HA6.out.below hb7)
    have HO7 := Lib.hid (HO6.out.below hb7)
    have HX7 := Lib.hid (HX6.out.below hb7)
    have HP7 := Lib.hid (HP6.out.below hb7)
    have HG7 := Lib.hid (HG6.out.below hb7)
    have HY7 := Lib.hid (HY6.out.below hb7)
    clear HB6 HA6 HO6 HX6 HP6 HG6 HY6 hb7
    go_wp2_with fail
    refine (toByteS_any _ _ _ xs _ HA7.out hn).mono ?_
    have SHR8 := Lib.hid HB7.out.size
    rintro e w8 ⟨rfl, HR_8, hb8⟩
    have HB8 := Lib.hid (below_step HB7.out hb8)
    have HA8 := Lib.hid (HA7.out.below hb8)
    have HO8 := Lib.hid (HO7.out.below hb8)
    have HX8 := Lib.hid (HX7.out.below hb8)
    have HP8 := Lib.hid (HP7.out.below hb8)
    have HG8 := Lib.hid (HG7.out.below hb8)
    have HY8 := Lib.hid (HY7.out.below hb8)
    clear HB7 HA7 HO7 HX7 HP7 HG7 HY7 hb8
    have HR8 := Lib.hid HR_8
    clear HR_8
    go_wp2_with fail
    refine (eqByteS_yes _ _ _ _ _ _ xs _ HP8.out.bin HR8.out.bin hn hn).mono ?_
    rintro e w9 ⟨rfl, hb9⟩
    have HB9 := Lib.hid (below_step HB8.out hb9)
    have HA9 := Lib.hid (HA8.out.below hb9)
    have HO9 := Lib.hid (HO8.out.below hb9)
    have HX9 := Lib.hid (HX8.out.below hb9)
    have HP9 := Lib.hid (HP8.out.below hb9)
    have HG9 := Lib.hid (HG8.out.below hb9)
    have HY9 := Lib.hid (HY8.out.below hb9)
    clear HB8 HA8 HO8 HX8 HP8 HG8 HY8 HR8 hb9
    go_wp2_with fail
    refine (markByteS_any _ _ _ _ xs 1 _ HP9.out hn (by omega) (by omega)).mono ?_
    rintro e w10 ⟨rfl, ho10, hg10⟩
    have HX10 := Lib.hid (HX9.out.grown hg10 (HP9.out.ne_box HX9.out (by decide)))
    have HY10 := Lib.hid (HY9.out.grown hg10 (HP9.out.ne_box HY9.out (by decide)))
    have HO10 := Lib.hid (HO9.out.grown hg10 (HP9.out.apart D2.out))
    have HG10 := Lib.hid (HG9.out.grown hg10 (HG9.out.apart' D4.out))
    have HA10 := Lib.hid (HA9.out.grown hg10 (HP9.out.apartB D3.out))
    have HB10 := Lib.hid (HB9.out.grown hg10 HB9.out.size (fun r hr => Nat.le_trans SHP4.out (HP9.out.block r hr).1))
    have HM10 := Lib.hid ho10
    clear HX9 HY9 HO9 HG9 HA9 HB9 HP9 ho10 hg10
    have cHX0 := HX10.out.look 0
    have cHX1 := HX10.out.look 1
    have lHX := HX10.out.lt
    have cHY0 := HY10.out.look 0
    have cHY1 := HY10.out.look 1
    have lHY := HY10.out.lt
    go_wp2_with fail
    clear cHX0 cHX1 lHX cHY0 cHY1 lHY
    refine (eqBytesResult_yes _ _ _ _ _ _ (sbytes xs a) _ HG10.out.bin HO10.out.bin hn1).mono ?_
    rintro e w11 ⟨rfl, hb11⟩
    have HB11 := Lib.hid (below_step HB10.out hb11)
    have HA11 := Lib.hid (HA10.out.below hb11)
    have HO11 := Lib.hid (HO10.out.below hb11)
    have HX11 := Lib.hid (HX10.out.below hb11)
    have HG11 := Lib.hid (HG10.out.below hb11)
    have HY11 := Lib.hid (HY10.out.below hb11)
    clear HB10 HA10 HO10 HX10 HG10 HY10 HM10 hb11
    have cHY0 := HY11.out.look 0
    have cHY1 := HY11.out.look 1
    have lHY := HY11.out.lt
    go_wp2_with fail
    clear cHY0 cHY1 lHY
    refine (markBytesResult_any _ _ _ _ _ (sbytes xs a) 1 _ HG11.out hn1 (by omega) (by omega)).mono ?_
    rintro e w12 ⟨rfl, ho12, hg12⟩
    have HX12 := Lib.hid (HX11.out.grown hg12 (HG11.out.ne_box HX11.out (by decide)))
    have HY12 := Lib.hid (HY11.out.grown hg12 (HG11.out.ne_box HY11.out (by decide)))
    have HO12 := Lib.hid (HO11.out.grown hg12 (HG11.out.apart D5.out))
    have HA12 := Lib.hid (HA11.out.grown hg12 (HG11.out.apartB D6.out))
    have HB12 := Lib.hid (HB11.out.grown hg12 HB11.out.size (fun r hr => Nat.le_trans SHG5.out (HG11.out.block r hr).1))
    have HN12 := Lib.hid ho12
    clear HX11 HY11 HO11 HA11 HB11 HG11 ho12 hg12
    have cHY0 := HY12.out.look 0
    have cHY1 := HY12.out.look 1
    have lHY := HY12.out.lt
    go_wp2_with fail
    clear cHY0 cHY1 lHY
    refine (heldBytesResult_yes _ _ _ _ 1 _ HN12.out.bin hn1 (by omega) (by omega)).mono ?_
    rintro e w13 ⟨rfl, hb13⟩
    have HB13 := Lib.hid (below_step HB12.out hb13)
    have HA13 := Lib.hid (HA12.out.below hb13)
    have HO13 := Lib.hid (HO12.out.below hb13)
    have HX13 := Lib.hid (HX12.out.below hb13)
    have HY13 := Lib.hid (HY12.out.below hb13)
    have HN13 := Lib.hid (HN12.out.below hb13)
    clear HB12 HA12 HO12 HX12 HY12 HN12 hb13
    go_wp2_with fail
    refine (toByteS_any _ _ _ xs _ HA13.out hn).mono ?_
    have SHP14 := Lib.hid HB13.out.size
    rintro e w14 ⟨rfl, HP_14, hb14⟩
    have HB14 := Lib.hid (below_step HB13.out hb14)
    have HO14 := Lib.hid (HO13.out.below hb14)
    have HX14 := Lib.hid (HX13.out.below hb14)
    have HY14 := Lib.hid (HY13.out.below hb14)
    have HN14 := Lib.hid (HN13.out.below hb14)
    clear HB13 HA13 HO13 HX13 HY13 HN13 hb14
    have HP14 := Lib.hid HP_14
    clear HP_14
    go_wp2_with fail
    refine (seal_any _ _ _ xs a _ HP14.out.bin hb hn).mono ?_
    have SHQ15 := Lib.hid HB14.out.size
    rintro e w15 ⟨A3, n3, c3, rfl, HQ_15, hb15⟩
    have HB15 := Lib.hid (below_step HB14.out hb15)
    have HO15 := Lib.hid (HO14.out.below hb15)
    have HX15 := Lib.hid (HX14.out.below hb15)
    have HY15 := Lib.hid (HY14.out.below hb15)
    have HN15 := Lib.hid (HN14.out.below hb15)
    clear HB14 HO14 HX14 HY14 HN14 HP14 hb15
    have HQ15 := Lib.hid HQ_15
    clear HQ_15
    obtain rfl : n3 = n2 := by have := HO15.out.len; have := HQ15.out.len; omega
    have cHX0 := HX15.out.look 0
    have cHX1 := HX15.out.look 1
    have lHX := HX15.out.lt
    go_wp2_with fail
    clear cHX0 cHX1 lHX
    obtain ⟨W16, hW16⟩ : ∃ W : World, W = w15.alloc (.cells #[.int .i64 (scode n a), .slice A3 n3 c3] 27) := ⟨_, rfl⟩
    have hb16 : Below w15.heap.size w15 W16 := by rw [hW16]; exact (Below.refl _ _).alloc (Nat.le_refl _) _
    have HZ16 : Hid (Box W16 w15.heap.size 27 #[.int .i64 (scode n a), .slice A3 n3 c3]) := by rw [hW16]; exact Box.made _ _ _
    rw [← hW16]
    clear hW16
    have HB16 := Lib.hid (below_step HB15.out hb16)
    have HO16 := Lib.hid (HO15.out.below hb16)
    have HX16 := Lib.hid (HX15.out.below hb16)
    have HY16 := Lib.hid (HY15.out.below hb16)
    have HN16 := Lib.hid (HN15.out.below hb16)
    have HQ16 := Lib.hid (HQ15.out.below hb16)
    clear HB15 HO15 HX15 HY15 HN15 HQ15 hb16
    refine (eqBytesResult_yes _ _ _ _ _ _ (sbytes xs a) _ HQ16.out.bin HO16.out.bin hn1).mono ?_
    rintro e w17 ⟨rfl, hb17⟩
    have HB17 := Lib.hid (below_step HB16.out hb17)
    have HO17 := Lib.hid (HO16.out.below hb17)
    have HX17 := Lib.hid (HX16.out.below hb17)
    have HY17 := Lib.hid (HY16.out.below hb17)
    have HN17 := Lib.hid (HN16.out.below hb17)
    have HQ17 := Lib.hid (HQ16.out.below hb17)
    have HZ17 := Lib.hid (HZ16.out.below hb17)
    clear HB16 HO16 HX16 HY16 HN16 HQ16 HZ16 hb17
    have cHY0 := HY17.out.look 0
    have cHY1 := HY17.out.look 1
    have lHY := HY17.out.lt
    go_wp2_with fail
    clear cHY0 cHY1 lHY
    refine (heldBytesResult_yes _ _ _ _ 1 _ HN17.out.bin hn1 (by omega) (by omega)).mono ?_
    rintro e w18 ⟨rfl, hb18⟩
    have HB18 := Lib.hid (below_step HB17.out hb18)
    have HO18 := Lib.hid (HO17.out.below hb18)
    have HX18 := Lib.hid (HX17.out.below hb18)
    have HY18 := Lib.hid (HY17.out.below hb18)
    have HN18 := Lib.hid (HN17.out.below hb18)
    have HQ18 := Lib.hid (HQ17.out.below hb18)
    have HZ18 := Lib.hid (HZ17.out.below hb18)
    clear HB17 HO17 HX17 HY17 HN17 HQ17 HZ17 hb18
    go_wp2
    go_ret
    exact ⟨rfl, HB18.out⟩

end Go.Proofs.Ytbcfpgplkkggbaa
