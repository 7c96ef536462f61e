/-
  The walk of the law FnExactIsSealed: the program's IsSealed answers as the model's, whatever the bytes.
-/
import Derived.Test.YtbcfpgplkkggbaaSealed
namespace Go.Proofs.Ytbcfpgplkkggbaa
open Go.RowKit

theorem law_IsSealed (A : Option Addr) (n c : Nat) (xs : List Int) (w : World) (ha : BIn w A n xs) (hb : Bytes xs) (hm : n ≤ maxLen) :
    Calls Try.prog 8 #[.slice A n c] w fun e w' => e = .returned (.bool true) ∧ Below w.heap.size w w' := by
  unfold maxLen at hm
  by_cases hbig : 1048576 < n
  · have h1 : (1048576 : Int) < n := by omega
    go_enter Try.func8, Try.ntmps8
    go_wp2
    go_ret
    exact ⟨rfl, Below.refl _ _⟩
  · have h1 : ¬ (1048576 : Int) < n := by omega
    have hn : n ≤ 1048576 := by omega
    have hq : (sealedB xs != sealedB xs) = false := by simp
    go_enter Try.func8, Try.ntmps8
    have HB0 : Hid (Below w.heap.size w w) := Below.refl _ _
    have HA0 := Lib.hid ha
    clear ha
    go_wp2_with fail
    refine (toByteS_any _ _ _ xs _ HA0.out hn).mono ?_
    rintro e w1 ⟨rfl, HO_1, hb1⟩
    have HB1 := Lib.hid (below_step HB0.out hb1)
    have HA1 := Lib.hid (HA0.out.below hb1)
    clear HB0 HA0 hb1
    have HO1 := Lib.hid HO_1
    clear HO_1
    go_wp2_with fail
    refine (specIsSealed_any _ _ _ xs _ HO1.out.bin hb hn).mono ?_
    rintro e wq ⟨rfl, rfl⟩
    go_wp2_with fail
    refine (toByteS_any _ _ _ xs _ HA1.out hn).mono ?_
    rintro e w2 ⟨rfl, HP_2, hb2⟩
    have HB2 := Lib.hid (below_step HB1.out hb2)
    have HA2 := Lib.hid (HA1.out.below hb2)
    clear HB1 HA1 HO1 hb2
    have HP2 := Lib.hid HP_2
    clear HP_2
    go_wp2_with fail
    refine (isSealed_any _ _ _ xs _ HP2.out.bin hb hn).mono ?_
    rintro e w3 ⟨rfl, hb3⟩
    have HB3 := Lib.hid (below_step HB2.out hb3)
    have HA3 := Lib.hid (HA2.out.below hb3)
    have HP3 := Lib.hid (HP2.out.below hb3)
    clear HB2 HA2 HP2 hb3
    go_wp2_with fail
    refine (toByteS_any _ _ _ xs _ HA3.out hn).mono ?_
    rintro e w4 ⟨rfl, HO_4, hb4⟩
    have HB4 := Lib.hid (below_step HB3.out hb4)
    have HP4 := Lib.hid (HP3.out.below hb4)
    clear HB3 HA3 HP3 hb4
    have HO4 := Lib.hid HO_4
    clear HO_4
    go_wp2_with fail
    refine (eqByteS_yes _ _ _ _ _ _ xs _ HP4.out.bin HO4.out.bin hn hn).mono ?_
    rintro e w5 ⟨rfl, hb5⟩
    have HB5 := Lib.hid (below_step HB4.out hb5)
    clear HB4 HP4 HO4 hb5
    go_wp2
    go_ret
    exact ⟨rfl, HB5.out⟩

end Go.Proofs.Ytbcfpgplkkggbaa
