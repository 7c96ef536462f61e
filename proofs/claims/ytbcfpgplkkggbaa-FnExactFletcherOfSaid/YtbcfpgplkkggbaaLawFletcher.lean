/-
  The walk of the law FnExactFletcherOf: the program's sum is the model's, whatever the bytes; its argument reads as before.
-/
import Derived.Test.YtbcfpgplkkggbaaHelp
import Derived.Test.YtbcfpgplkkggbaaSum
namespace Go.Proofs.Ytbcfpgplkkggbaa
open Go.RowKit

theorem law_FletcherOf (A : Option Addr) (n c : Nat) (xs : List Int) (w : World) (ha : BIn w A n xs) (hb : Bytes xs) (hm : n ≤ maxLen) :
    Calls Try.prog 6 #[.slice A n c] w fun e w' => e = .returned (.bool true) ∧ Below w.heap.size w w' := by
  unfold maxLen at hm
  by_cases hbig : 1048576 < n
  · have h1 : (1048576 : Int) < n := by omega
    go_enter Try.func6, Try.ntmps6
    go_wp2
    go_ret
    exact ⟨rfl, Below.refl _ _⟩
  · have h1 : ¬ (1048576 : Int) < n := by omega
    have hn : n ≤ 1048576 := by omega
    go_enter Try.func6, Try.ntmps6
    go_wp2_with fail
    refine (toByteS_any _ _ _ xs _ ha hn).mono ?_
    rintro e w1 ⟨rfl, ho1, hb1⟩
    have HA1 := Lib.hid (ha.below hb1)
    have HB1 := Lib.hid hb1
    clear ha hb1
    go_wp2_with fail
    refine (specFletcher_any _ _ _ xs _ ho1.bin hb hn).mono ?_
    rintro e w2 ⟨rfl, hb2⟩
    have HA2 := Lib.hid (HA1.out.below hb2)
    have HB2 := Lib.hid (below_step HB1.out hb2)
    clear HA1 HB1 hb2 ho1
    go_wp2_with fail
    obtain ⟨W3, hW3⟩ : ∃ W3, W3 = w2.alloc (.cells #[.int .i64 (fcode xs), .int .i64 (flow xs), .int .i64 (fhigh xs)] 42) := ⟨_, rfl⟩
    have hbA : Below w2.heap.size w2 W3 := by rw [hW3]; exact (Below.refl _ _).alloc (Nat.le_refl _) _
    have HX3 : Hid (Box W3 w2.heap.size 42 #[.int .i64 (fcode xs), .int .i64 (flow xs), .int .i64 (fhigh xs)]) := by rw [hW3]; exact Box.made _ _ _
    have HA3 := Lib.hid (HA2.out.below hbA)
    have HB3 := Lib.hid (below_step HB2.out hbA)
    rw [← hW3]
    clear hW3 hbA HA2 HB2
    refine (toByteS_any _ _ _ xs _ HA3.out hn).mono ?_
    rintro e w4 ⟨rfl, ho4, hb4⟩
    have HA4 := Lib.hid (HA3.out.below hb4)
    have HX4 := Lib.hid (HX3.out.below hb4)
    have HB4 := Lib.hid (below_step HB3.out hb4)
    clear HA3 HX3 HB3 hb4
    go_wp2_with fail
    refine (fletcher_any _ _ _ xs _ ho4.bin hb hn).mono ?_
    rintro e w5 ⟨rfl, hb5⟩
    have HA5 := Lib.hid (HA4.out.below hb5)
    have HX5 := HX4.out.below hb5
    have HO5 := Lib.hid (ho4.below hb5)
    have HB5 := Lib.hid (below_step HB4.out hb5)
    have c0 := HX5.look 0
    have c1 := HX5.look 1
    have c2 := HX5.look 2
    have hlt := HX5.lt
    clear HA4 HX4 HX5 HB4 hb5 ho4
    go_wp2_with fail
    clear c0 c1 c2 hlt
    obtain ⟨W6, hW6⟩ : ∃ W6, W6 = w5.alloc (.cells #[.int .i64 (fcode xs), .int .i64 (flow xs), .int .i64 (fhigh xs)] 42) := ⟨_, rfl⟩
    have hbA : Below w5.heap.size w5 W6 := by rw [hW6]; exact (Below.refl _ _).alloc (Nat.le_refl _) _
    have HA6 := Lib.hid (HA5.out.below hbA)
    have HO6 := Lib.hid (HO5.out.below hbA)
    have HB6 := Lib.hid (below_step HB5.out hbA)
    rw [← hW6]
    clear hW6 hbA HA5 HO5 HB5
    refine (eqPairResult_yes _ _ _ _).mono ?_
    rintro e w7 ⟨rfl, hb7⟩
    have HA7 := Lib.hid (HA6.out.below hb7)
    have HO7 := Lib.hid (HO6.out.below hb7)
    have HB7 := Lib.hid (below_step HB6.out hb7)
    clear HA6 HO6 HB6 hb7
    go_wp2_with fail
    refine (toByteS_any _ _ _ xs _ HA7.out hn).mono ?_
    rintro e w8 ⟨rfl, ho8, hb8⟩
    have HO8 := Lib.hid (HO7.out.below hb8)
    have HB8 := Lib.hid (below_step HB7.out hb8)
    have HP8 := Lib.hid ho8
    clear HA7 HO7 HB7 hb8 ho8
    go_wp2_with fail
    refine (eqByteS_yes _ _ _ _ _ _ xs _ HO8.out.bin HP8.out.bin hn hn).mono ?_
    rintro e w9 ⟨rfl, hb9⟩
    have HB9 := Lib.hid (below_step HB8.out hb9)
    clear hb9 HO8 HP8 HB8
    go_wp2
    go_ret
    exact ⟨rfl, HB9.out⟩

end Go.Proofs.Ytbcfpgplkkggbaa
