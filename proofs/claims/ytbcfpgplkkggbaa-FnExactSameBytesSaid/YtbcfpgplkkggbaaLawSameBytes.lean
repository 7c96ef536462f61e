/-
  The walk of the law FnExactSameBytes: the program's SameBytes answers as the model's, whatever the bytes.
-/
import Derived.Test.YtbcfpgplkkggbaaSame
namespace Go.Proofs.Ytbcfpgplkkggbaa
open Go.RowKit

theorem law_SameBytes (A : Option Addr) (n c : Nat) (xs : List Int) (B : Option Addr) (m d : Nat) (ys : List Int) (w : World) (ha : BIn w A n xs) (hb : BIn w B m ys) (hx : Bytes xs) (hy : Bytes ys) (hn0 : n ≤ maxLen) (hm0 : m ≤ maxLen) :
    Calls Try.prog 9 #[.slice A n c, .slice B m d] w fun e w' => e = .returned (.bool true) ∧ Below w.heap.size w w' := by
  unfold maxLen at hn0 hm0
  by_cases hbig : 1048576 < n
  · have h1 : (1048576 : Int) < n := by omega
    go_enter Try.func9, Try.ntmps9
    go_wp2
    go_ret
    exact ⟨rfl, Below.refl _ _⟩
  · by_cases hbig2 : 1048576 < m
    · have h1 : ¬ (1048576 : Int) < n := by omega
      have h2 : (1048576 : Int) < m := by omega
      go_enter Try.func9, Try.ntmps9
      go_wp2
      go_ret
      exact ⟨rfl, Below.refl _ _⟩
    · have h1 : ¬ (1048576 : Int) < n := by omega
      have h2 : ¬ (1048576 : Int) < m := by omega
      have hn : n ≤ 1048576 := by omega
      have hm : m ≤ 1048576 := by omega
      obtain ⟨q, hq⟩ : ∃ q, decide (xs = ys) = q := ⟨_, rfl⟩
      have hqq : (q != q) = false := by simp
      have HQ := Lib.hid hq
      clear hq
      go_enter Try.func9, Try.ntmps9
      have HB0 : Hid (Below w.heap.size w w) := Below.refl _ _
      have HA0 := Lib.hid ha
      have HC0 := Lib.hid hb
      clear ha hb
      go_wp2_with fail
      refine (toByteS_any _ _ _ xs _ HA0.out hn).mono ?_
      rintro e w1 ⟨rfl, HO_1, hb1⟩
      have HB1 := Lib.hid (below_step HB0.out hb1)
      have HA1 := Lib.hid (HA0.out.below hb1)
      have HC1 := Lib.hid (HC0.out.below hb1)
      clear HB0 HA0 HC0 hb1
      have HO1 := Lib.hid HO_1
      clear HO_1
      go_wp2_with fail
      refine (toByteS_any _ _ _ ys _ HC1.out hm).mono ?_
      rintro e w2 ⟨rfl, HP_2, hb2⟩
      have HB2 := Lib.hid (below_step HB1.out hb2)
      have HA2 := Lib.hid (HA1.out.below hb2)
      have HC2 := Lib.hid (HC1.out.below hb2)
      have HO2 := Lib.hid (HO1.out.below hb2)
      clear HB1 HA1 HC1 HO1 hb2
      have HP2 := Lib.hid HP_2
      clear HP_2
      go_wp2_with fail
      refine (specSame_any _ _ _ _ _ _ xs ys _ HO2.out.bin HP2.out.bin hx hy).mono ?_
      rw [HQ.out]
      rintro e wq ⟨rfl, rfl⟩
      go_wp2_with fail
      refine (toByteS_any _ _ _ xs _ HA2.out hn).mono ?_
      rintro e w3 ⟨rfl, HR_3, hb3⟩
      have HB3 := Lib.hid (below_step HB2.out hb3)
      have HA3 := Lib.hid (HA2.out.below hb3)
      have HC3 := Lib.hid (HC2.out.below hb3)
      clear HB2 HA2 HC2 HO2 HP2 hb3
      have HR3 := Lib.hid HR_3
      clear HR_3
      go_wp2_with fail
      refine (toByteS_any _ _ _ ys _ HC3.out hm).mono ?_
      rintro e w4 ⟨rfl, HS_4, hb4⟩
      have HB4 := Lib.hid (below_step HB3.out hb4)
      have HA4 := Lib.hid (HA3.out.below hb4)
      have HC4 := Lib.hid (HC3.out.below hb4)
      have HR4 := Lib.hid (HR3.out.below hb4)
      clear HB3 HA3 HC3 HR3 hb4
      have HS4 := Lib.hid HS_4
      clear HS_4
      go_wp2_with fail
      refine (same_any _ _ _ _ _ _ xs ys _ HR4.out.bin HS4.out.bin hx hy).mono ?_
      rw [HQ.out]
      rintro e wq ⟨rfl, rfl⟩
      go_wp2_with fail
      refine (toByteS_any _ _ _ xs _ HA4.out hn).mono ?_
      rintro e w5 ⟨rfl, HO_5, hb5⟩
      have HB5 := Lib.hid (below_step HB4.out hb5)
      have HC5 := Lib.hid (HC4.out.below hb5)
      have HR5 := Lib.hid (HR4.out.below hb5)
      have HS5 := Lib.hid (HS4.out.below hb5)
      clear HB4 HA4 HC4 HR4 HS4 hb5
      have HO5 := Lib.hid HO_5
      clear HO_5
      go_wp2_with fail
      refine (eqByteS_yes _ _ _ _ _ _ xs _ HR5.out.bin HO5.out.bin hn hn).mono ?_
      rintro e w6 ⟨rfl, hb6⟩
      have HB6 := Lib.hid (below_step HB5.out hb6)
      have HC6 := Lib.hid (HC5.out.below hb6)
      have HS6 := Lib.hid (HS5.out.below hb6)
      clear HB5 HC5 HR5 HS5 HO5 hb6
      go_wp2_with fail
      refine (toByteS_any _ _ _ ys _ HC6.out hm).mono ?_
      rintro e w7 ⟨rfl, HO_7, hb7⟩
      have HB7 := Lib.hid (below_step HB6.out hb7)
      have HS7 := Lib.hid (HS6.out.below hb7)
      clear HB6 HC6 HS6 hb7
      have HO7 := Lib.hid HO_7
      clear HO_7
      go_wp2_with fail
      refine (eqByteS_yes _ _ _ _ _ _ ys _ HS7.out.bin HO7.out.bin hm hm).mono ?_
      rintro e w8 ⟨rfl, hb8⟩
      have HB8 := Lib.hid (below_step HB7.out hb8)
      clear HB7 HS7 HO7 hb8
      go_wp2
      go_ret
      exact ⟨rfl, HB8.out⟩

end Go.Proofs.Ytbcfpgplkkggbaa
