/-
  The walk of the law FnExactReadWord: the program's ReadWord answers as the model's, whatever the bytes, the place and the size.
-/
import Derived.Test.YtbcfpgplkkggbaaRead
namespace Go.Proofs.Ytbcfpgplkkggbaa
open Go.RowKit

theorem law_ReadWord (A : Option Addr) (n c : Nat) (xs : List Int) (a s : Int) (w : World) (ha : BIn w A n xs) (hb : Bytes xs) (hm : n ≤ maxLen) :
    Calls Try.prog 5 #[.slice A n c, .int .i64 a, .int .i64 s] w fun e w' => e = .returned (.bool true) ∧ Below w.heap.size w w' := by
  unfold maxLen at hm
  by_cases hbig : 1048576 < n
  · have h1 : (1048576 : Int) < n := by omega
    go_enter Try.func5, Try.ntmps5
    go_wp2
    go_ret
    exact ⟨rfl, Below.refl _ _⟩
  · have h1 : ¬ (1048576 : Int) < n := by omega
    have hn : n ≤ 1048576 := by omega
    go_enter Try.func5, Try.ntmps5
    have HB0 : Hid (Below w.heap.size w w) := Below.refl _ _
    have HA0 := Lib.hid ha
    clear ha
    go_wp2_with fail
    refine (toByteS_any _ _ _ xs _ HA0.out hn).mono ?_
    rintro e w1 ⟨rfl, HO_1, hb1⟩
    have HB1 := Lib.hid (below_step HB0.out hb1)
    have HA1 := Lib.hid (HA0.out.below hb1)
    clear HB0 HA0 hb1
    have HO1 := Lib.hid HO_1
    clear HO_1
    go_wp2_with fail
    refine (specRead_any _ _ _ xs a s _ HO1.out.bin hb hn).mono ?_
    rintro e w2 ⟨rfl, hb2⟩
    have HB2 := Lib.hid (below_step HB1.out hb2)
    have HA2 := Lib.hid (HA1.out.below hb2)
    clear HB1 HA1 HO1 hb2
    go_wp2_with fail
    obtain ⟨W3, hW3⟩ : ∃ W : World, W = w2.alloc (.cells #[.int .i64 (rcode n a s), .int .i64 (rval n xs a s)] 32) := ⟨_, rfl⟩
    have hb3 : Below w2.heap.size w2 W3 := by rw [hW3]; exact (Below.refl _ _).alloc (Nat.le_refl _) _
    have HX3 : Hid (Box W3 w2.heap.size 32 #[.int .i64 (rcode n a s), .int .i64 (rval n xs a s)]) := by rw [hW3]; exact Box.made _ _ _
    rw [← hW3]
    clear hW3
    have HB3 := Lib.hid (below_step HB2.out hb3)
    have HA3 := Lib.hid (HA2.out.below hb3)
    clear HB2 HA2 hb3
    refine (toByteS_any _ _ _ xs _ HA3.out hn).mono ?_
    rintro e w4 ⟨rfl, HP_4, hb4⟩
    have HB4 := Lib.hid (below_step HB3.out hb4)
    have HA4 := Lib.hid (HA3.out.below hb4)
    have HX4 := Lib.hid (HX3.out.below hb4)
    clear HB3 HA3 HX3 hb4
    have HP4 := Lib.hid HP_4
    clear HP_4
    go_wp2_with fail
    refine (read_any _ _ _ xs a s _ HP4.out.bin hb hn (Nat.le_refl _)).mono ?_
    rintro e w5 ⟨rfl, hb5⟩
    have HB5 := Lib.hid (below_step HB4.out hb5)
    have HA5 := Lib.hid (HA4.out.below hb5)
    have HX5 := Lib.hid (HX4.out.below hb5)
    have HP5 := Lib.hid (HP4.out.below hb5)
    clear HB4 HA4 HX4 HP4 hb5
    have cHX0 := HX5.out.look 0
    have cHX1 := HX5.out.look 1
    have lHX := HX5.out.lt
    go_wp2_with fail
    clear cHX0 cHX1 lHX
    obtain ⟨W6, hW6⟩ : ∃ W : World, W = w5.alloc (.cells #[.int .i64 (rcode n a s), .int .i64 (rval n xs a s)] 32) := ⟨_, rfl⟩
    have hb6 : Below w5.heap.size w5 W6 := by rw [hW6]; exact (Below.refl _ _).alloc (Nat.le_refl _) _
    have HY6 : Hid (Box W6 w5.heap.size 32 #[.int .i64 (rcode n a s), .int .i64 (rval n xs a s)]) := by rw [hW6]; exact Box.made _ _ _
    rw [← hW6]
    clear hW6
    have HB6 := Lib.hid (below_step HB5.out hb6)
    have HA6 := Lib.hid (HA5.out.below hb6)
    have HX6 := Lib.hid (HX5.out.below hb6)
    have HP6 := Lib.hid (HP5.out.below hb6)
    clear HB5 HA5 HX5 HP5 hb6
    refine (eqIntResult_yes _ _ _).mono ?_
    rintro e w7 ⟨rfl, hb7⟩
    have HB7 := Lib.hid (below_step HB6.out hb7)
    have HA7 := Lib.hid (HA6.out.below hb7)
    have HP7 := Lib.hid (HP6.out.below hb7)
    clear HB6 HA6 HX6 HP6 HY6 hb7
    go_wp2_with fail
    refine (toByteS_any _ _ _ xs _ HA7.out hn).mono ?_
    rintro e w8 ⟨rfl, HO_8, hb8⟩
    have HB8 := Lib.hid (below_step HB7.out hb8)
    have HP8 := Lib.hid (HP7.out.below hb8)
    clear HB7 HA7 HP7 hb8
    have HO8 := Lib.hid HO_8
    clear HO_8
    go_wp2_with fail
    refine (eqByteS_yes _ _ _ _ _ _ xs _ HP8.out.bin HO8.out.bin hn hn).mono ?_
    rintro e w9 ⟨rfl, hb9⟩
    have HB9 := Lib.hid (below_step HB8.out hb9)
    clear HB8 HP8 HO8 hb9
    go_wp2
    go_ret
    exact ⟨rfl, HB9.out⟩

end Go.Proofs.Ytbcfpgplkkggbaa
