/-
  The walk of the law FnWords.
-/
import Derived.Deep.RegionHeld3
import Derived.Test.YtbcfpgplkkggbaaDraws
import Derived.Test.YtbcfpgplkkggbaaLw
import Derived.Test.YtbcfpgplkkggbaaMath
namespace Go.Proofs.Ytbcfpgplkkggbaa
open Go.RowKit

theorem field0 (w : World) (x : Int) (A : Option Addr) (n c : Nat) : (Instr.field 27 (.agg #[.int .i64 x, .slice A n c]) 0).run Try.prog w = .ok (.int .i64 x) w := by kernel_rfl
theorem field1 (w : World) (x : Int) (A : Option Addr) (n c : Nat) : (Instr.field 27 (.agg #[.int .i64 x, .slice A n c]) 1).run Try.prog w = .ok (.slice A n c) w := by kernel_rfl
attribute [local go_sem] field0 field1

theorem pbytes_yes {m s : Int} (h : pOK m s) : pbytes m s = packN m s.toNat := if_pos h
theorem BIn.sub {w : World} {g o n a s : Nat} {zs : List Int} (h : BIn w (some ⟨g, o, none⟩) n zs) (has : a + s ≤ n) : BIn w (some ⟨g, o + a, none⟩) s ((zs.drop a).take s) := by
  have hl := h.1
  refine ⟨sub_len (by omega), fun hs => ⟨g, o + a, rfl, fun i hi => ?_⟩⟩
  obtain ⟨g', o', e, hc⟩ := h.at_ (k := a + i) (by omega)
  injection e with e
  injection e with e1 e2
  subst e1 e2
  rw [sub_at hi, Nat.add_assoc]
  exact hc
theorem subback {m2 an qn : Nat} {zs : List Int} (h : rOK m2 (an : Int) (qn : Int)) (hl : zs.length = m2) (hb : Bytes zs) : pbytes (rval m2 zs (an : Int) (qn : Int)) (qn : Int) = (zs.drop an).take qn ∧ rval m2 zs (an : Int) (qn : Int) ≤ 9223372036854775807 := by
  have h1 := h.1
  have h2 := h.2.1
  have h3 := h.2.2.2
  have hs : ((zs.drop an).take qn).length = qn := sub_len (by omega)
  have hv : rval m2 zs (an : Int) (qn : Int) = readN ((zs.drop an).take qn) := by unfold rval; rw [if_pos h]; simp
  have hk := readN_bd _ (hb.sub an qn) qn (by omega) (by omega)
  have hp := packN_readN _ (hb.sub an qn) qn (by omega)
  rw [List.take_of_length_le (by omega)] at hk hp
  rw [hv]
  have hok : pOK (readN ((zs.drop an).take qn)) (qn : Int) := ⟨h1, h2, hk.1, by simpa using hk.2⟩
  rw [pbytes_yes hok]
  exact ⟨by simpa using hp, by have := pow_lt qn (by omega) _ hk.2; omega⟩
theorem turnedB (z : Int) (b : Nat) (h0 : 0 ≤ z) (h1 : z < 256) (hb : b < 8) : 0 ≤ bits .xor .u8 z (2 ^ min b 8 % 256) ∧ bits .xor .u8 z (2 ^ min b 8 % 256) < 256 ∧ bits .xor .u8 z (2 ^ min b 8 % 256) - z ≠ 0 ∧ bits .xor .u8 z (2 ^ min b 8 % 256) - z < 255 ∧ -255 < bits .xor .u8 z (2 ^ min b 8 % 256) - z := by
  have key : ∀ z : Fin 256, ∀ b : Fin 8, 0 ≤ bits .xor .u8 (z.val : Int) (2 ^ min b.val 8 % 256) ∧ bits .xor .u8 (z.val : Int) (2 ^ min b.val 8 % 256) < 256 ∧ bits .xor .u8 (z.val : Int) (2 ^ min b.val 8 % 256) - (z.val : Int) ≠ 0 ∧ bits .xor .u8 (z.val : Int) (2 ^ min b.val 8 % 256) - (z.val : Int) < 255 ∧ -255 < bits .xor .u8 (z.val : Int) (2 ^ min b.val 8 % 256) - (z.val : Int) := by decide +kernel
  obtain ⟨n, rfl⟩ := Int.eq_ofNat_of_zero_le h0
  exact key ⟨n, by omega⟩ ⟨b, hb⟩
theorem scode_zero {n : Nat} {a : Int} (h : scode n a = 0) : sOK n a := by
  unfold scode at h
  by_cases h1 : 400 < n
  · rw [if_pos h1] at h; omega
  · rw [if_neg h1] at h
    by_cases h2 : sOK n a
    · exact h2
    · rw [if_neg h2] at h; omega
theorem readback {m : Int} {q : Nat} (h : pOK m (q : Int)) : rcode q 0 (q : Int) = 0 ∧ rval q (pbytes m (q : Int)) 0 (q : Int) = m := by
  have h1 : rOK q 0 (q : Int) := ⟨h.1, h.2.1, by omega, by omega⟩
  unfold rcode rval
  rw [if_pos h1, if_pos h1, pbytes_yes h]
  have hl : (packN m q).length = q := packN_len _ _
  refine ⟨rfl, ?_⟩
  simp only [Int.toNat_natCast, Int.toNat_zero, List.drop_zero]
  rw [List.take_of_length_le (by omega)]
  exact readN_packN q m h.2.2.1 h.2.2.2

set_option maxRecDepth 100000 in
set_option maxHeartbeats 4000000 in
theorem law_Words (A : Option Addr) (n c : Nat) (cs : List Int) (w : World) (ha : BIn w A n cs) (hb : Bytes cs) (hm : n ≤ maxLen) :
    Calls Try.prog 3 #[.slice A n c] w fun e w' => e = .returned (.bool true) ∧ Below w.heap.size w w' := by
  unfold maxLen at hm
  by_cases hbig : 1048576 < n
  · have h1 : (1048576 : Int) < n := by omega
    go_enter Try.func3, Try.ntmps3
    go_wp2
    go_ret
    exact ⟨rfl, Below.refl _ _⟩
  · have h1 : ¬ (1048576 : Int) < n := by omega
    have hn : n ≤ 1048576 := by omega
    go_enter Try.func3, Try.ntmps3
    have HB0 : Hid (Below w.heap.size w w) := Below.refl _ _
    have HA0 := Lib.hid ha
    clear ha
    go_wp2_with fail
    refine (lwBig_no A n c _ hn).mono ?_
    rintro e wq ⟨rfl, rfl⟩
    go_wp2_with fail
    refine (drawPack_any A n c cs _ HA0.out hb hn).mono ?_
    rintro e w1 ⟨m, s, rfl, hmx, hb1⟩
    have HB1 := Lib.hid (below_step HB0.out hb1)
    have HA1 := Lib.hid (HA0.out.below hb1)
    clear HB0 HA0 hb1
    go_wp2_with fail
    refine (pack_any m s _).mono ?_
    have SHP2 := Lib.hid HB1.out.size
    rintro e w2 ⟨A1, n1, c1, rfl, ho2, hb2⟩
    have HB2 := Lib.hid (below_step HB1.out hb2)
    have HA2 := Lib.hid (HA1.out.below hb2)
    clear HB1 HA1 hb2
    have HP2 := Lib.hid ho2
    clear ho2
    go_wp2_with fail
    obtain ⟨W3, hW3⟩ : ∃ W : World, W = w2.alloc (.cells #[.int .i64 (pcode m s), .slice A1 n1 c1] 27) := ⟨_, rfl⟩
    have hb3 : Below w2.heap.size w2 W3 := by rw [hW3]; exact (Below.refl _ _).alloc (Nat.le_refl _) _
    have HX3 : Hid (Box W3 w2.heap.size 27 #[.int .i64 (pcode m s), .slice A1 n1 c1]) := by rw [hW3]; exact Box.made _ _ _
    rw [← hW3]
    clear hW3
    have HB3 := Lib.hid (below_step HB2.out hb3)
    have HA3 := Lib.hid (HA2.out.below hb3)
    have HP3 := Lib.hid (HP2.out.below hb3)
    clear HB2 HA2 HP2 hb3
    refine (drawRead_any A n c cs _ HA3.out hb hn).mono ?_
    have SHD4 := Lib.hid HB3.out.size
    rintro e w4 ⟨B2, m2, d2, zs2, a2, s2, rfl, hm2, ho4, hz2, hb4⟩
    have HB4 := Lib.hid (below_step HB3.out hb4)
    have HA4 := Lib.hid (HA3.out.below hb4)
    have HP4 := Lib.hid (HP3.out.below hb4)
    have HX4 := Lib.hid (HX3.out.below hb4)
    clear HB3 HA3 HP3 HX3 hb4
    have HD4 := Lib.hid ho4
    clear ho4
    go_wp2_with fail
    refine (read_any _ _ _ zs2 a2 s2 _ HD4.out.bin hz2 (by omega) HD4.out.cap).mono ?_
    rintro e w5 ⟨rfl, hb5⟩
    have HB5 := Lib.hid (below_step HB4.out hb5)
    have HA5 := Lib.hid (HA4.out.below hb5)
    have HP5 := Lib.hid (HP4.out.below hb5)
    have HX5 := Lib.hid (HX4.out.below hb5)
    have HD5 := Lib.hid (HD4.out.below hb5)
    clear HB4 HA4 HP4 HX4 HD4 hb5
    go_wp2_with fail
    obtain ⟨W6, hW6⟩ : ∃ W : World, W = w5.alloc (.cells #[.int .i64 (rcode m2 a2 s2), .int .i64 (rval m2 zs2 a2 s2)] 32) := ⟨_, rfl⟩
    have hb6 : Below w5.heap.size w5 W6 := by rw [hW6]; exact (Below.refl _ _).alloc (Nat.le_refl _) _
    have HY6 : Hid (Box W6 w5.heap.size 32 #[.int .i64 (rcode m2 a2 s2), .int .i64 (rval m2 zs2 a2 s2)]) := by rw [hW6]; exact Box.made _ _ _
    rw [← hW6]
    clear hW6
    have HB6 := Lib.hid (below_step HB5.out hb6)
    have HA6 := Lib.hid (HA5.out.below hb6)
    have HP6 := Lib.hid (HP5.out.below hb6)
    have HX6 := Lib.hid (HX5.out.below hb6)
    have HD6 := Lib.hid (HD5.out.below hb6)
    clear HB5 HA5 HP5 HX5 HD5 hb6
    refine (drawSame_any A n c cs _ HA6.out hb hn).mono ?_
    have SHE7 := Lib.hid HB6.out.size
    have SHF7 := Lib.hid HB6.out.size
    rintro e w7 ⟨A3, n3, d3, zs3, A4, n4, d4, zs4, rfl, hm3, hm4, ho7, hz3, hp7, hz4, hb7⟩
    have HB7 := Lib.hid (below_step HB6.out hb7)
    have HA7 := Lib.hid (HA6.out.below hb7)
    have HP7 := Lib.hid (HP6.out.below hb7)
    have HX7 := Lib.hid (HX6.out.below hb7)
    have HD7 := Lib.hid (HD6.out.below hb7)
    have HY7 := Lib.hid (HY6.out.below hb7)
    clear HB6 HA6 HP6 HX6 HD6 HY6 hb7
    have HE7 := Lib.hid ho7
    clear ho7
    have HF7 := Lib.hid hp7
    clear hp7
    go_wp2_with fail
    refine (drawSeal_any A n c cs _ HA7.out hb hn).mono ?_
    have SHG8 := Lib.hid HB7.out.size
    rintro e w8 ⟨B5, m5, d5, zs5, a5, rfl, hm5, ho8, hz5, hb8⟩
    have HB8 := Lib.hid (below_step HB7.out hb8)
    have HA8 := Lib.hid (HA7.out.below hb8)
    have HP8 := Lib.hid (HP7.out.below hb8)
    have HX8 := Lib.hid (HX7.out.below hb8)
    have HD8 := Lib.hid (HD7.out.below hb8)
    have HY8 := Lib.hid (HY7.out.below hb8)
    have HE8 := Lib.hid (HE7.out.below hb8)
    have HF8 := Lib.hid (HF7.out.below hb8)
    clear HB7 HA7 HP7 HX7 HD7 HY7 HE7 HF7 hb8
    have HG8 := Lib.hid ho8
    clear ho8
    go_wp2_with fail
    refine (seal_any _ _ _ zs5 a5 _ HG8.out.bin hz5 (by omega)).mono ?_
    have SHS9 := Lib.hid HB8.out.size
    rintro e w9 ⟨A6, n6, c6, rfl, ho9, hb9⟩
    have HB9 := Lib.hid (below_step HB8.out hb9)
    have HA9 := Lib.hid (HA8.out.below hb9)
    have HP9 := Lib.hid (HP8.out.below hb9)
    have HX9 := Lib.hid (HX8.out.below hb9)
    have HD9 := Lib.hid (HD8.out.below hb9)
    have HY9 := Lib.hid (HY8.out.below hb9)
    have HE9 := Lib.hid (HE8.out.below hb9)
    have HF9 := Lib.hid (HF8.out.below hb9)
    have HG9 := Lib.hid (HG8.out.below hb9)
    clear HB8 HA8 HP8 HX8 HD8 HY8 HE8 HF8 HG8 hb9
    have HS9 := Lib.hid ho9
    clear ho9
    go_wp2_with fail
    obtain ⟨W10, hW10⟩ : ∃ W : World, W = w9.alloc (.cells #[.int .i64 (scode m5 a5), .slice A6 n6 c6] 27) := ⟨_, rfl⟩
    have hb10 : Below w9.heap.size w9 W10 := by rw [hW10]; exact (Below.refl _ _).alloc (Nat.le_refl _) _
    have HZ10 : Hid (Box W10 w9.heap.size 27 #[.int .i64 (scode m5 a5), .slice A6 n6 c6]) := by rw [hW10]; exact Box.made _ _ _
    rw [← hW10]
    clear hW10
    have HB10 := Lib.hid (below_step HB9.out hb10)
    have HA10 := Lib.hid (HA9.out.below hb10)
    have HP10 := Lib.hid (HP9.out.below hb10)
    have HX10 := Lib.hid (HX9.out.below hb10)
    have HD10 := Lib.hid (HD9.out.below hb10)
    have HY10 := Lib.hid (HY9.out.below hb10)
    have HE10 := Lib.hid (HE9.out.below hb10)
    have HF10 := Lib.hid (HF9.out.below hb10)
    have HG10 := Lib.hid (HG9.out.below hb10)
    have HS10 := Lib.hid (HS9.out.below hb10)
    clear HB9 HA9 HP9 HX9 HD9 HY9 HE9 HF9 HG9 HS9 hb10
    refine (drawSealed_any A n c cs _ HA10.out hb hn).mono ?_
    have SHV11 := Lib.hid HB10.out.size
    rintro e w11 ⟨B7, m7, d7, zs7, rfl, hm7, ho11, hz7, hb11⟩
    have HB11 := Lib.hid (below_step HB10.out hb11)
    have HA11 := Lib.hid (HA10.out.below hb11)
    have HP11 := Lib.hid (HP10.out.below hb11)
    have HX11 := Lib.hid (HX10.out.below hb11)
    have HD11 := Lib.hid (HD10.out.below hb11)
    have HY11 := Lib.hid (HY10.out.below hb11)
    have HE11 := Lib.hid (HE10.out.below hb11)
    have HF11 := Lib.hid (HF10.out.below hb11)
    have HG11 := Lib.hid (HG10.out.below hb11)
    have HS11 := Lib.hid (HS10.out.below hb11)
    have HZ11 := Lib.hid (HZ10.out.below hb11)
    clear HB10 HA10 HP10 HX10 HD10 HY10 HE10 HF10 HG10 HS10 HZ10 hb11
    have HV11 := Lib.hid ho11
    clear ho11
    go_wp2_with fail
    refine (drawFletcher_any A n c cs _ HA11.out hb hn).mono ?_
    have SHW12 := Lib.hid HB11.out.size
    rintro e w12 ⟨B8, m8, d8, zs8, rfl, hm8, ho12, hz8, hb12⟩
    have HB12 := Lib.hid (below_step HB11.out hb12)
    have HA12 := Lib.hid (HA11.out.below hb12)
    have HP12 := Lib.hid (HP11.out.below hb12)
    have HX12 := Lib.hid (HX11.out.below hb12)
    have HD12 := Lib.hid (HD11.out.below hb12)
    have HY12 := Lib.hid (HY11.out.below hb12)
    have HE12 := Lib.hid (HE11.out.below hb12)
    have HF12 := Lib.hid (HF11.out.below hb12)
    have HG12 := Lib.hid (HG11.out.below hb12)
    have HS12 := Lib.hid (HS11.out.below hb12)
    have HZ12 := Lib.hid (HZ11.out.below hb12)
    have HV12 := Lib.hid (HV11.out.below hb12)
    clear HB11 HA11 HP11 HX11 HD11 HY11 HE11 HF11 HG11 HS11 HZ11 HV11 hb12
    have HW12 := Lib.hid ho12
    clear ho12
    go_wp2_with fail
    have SB : Hid (∀ W', Hid (Below w12.heap.size w12 W') → (fun W' => W'.cell? ⟨w2.heap.size, 0, none⟩ = some (.int .i64 (pcode m s)) ∧ W'.cell? ⟨w5.heap.size, 0, none⟩ = some (.int .i64 (rcode m2 a2 s2)) ∧ W'.cell? ⟨w5.heap.size, 1, none⟩ = some (.int .i64 (rval m2 zs2 a2 s2)) ∧ W'.cell? ⟨w9.heap.size, 0, none⟩ = some (.int .i64 (scode m5 a5))) W') := fun W' hb' => ⟨(HX12.out.below hb'.out).look 0, (HY12.out.below hb'.out).look 0, (HY12.out.below hb'.out).look 1, (HZ12.out.below hb'.out).look 0⟩
    have V0 : Hid (Below w12.heap.size w12 w12.drew) := (Below.refl _ _).drew
    obtain ⟨q, hq⟩ : ∃ q, decide (zs3 = zs4) = q := ⟨_, rfl⟩
    have HQ := Lib.hid hq
    clear hq
    have HMX : Hid (m ≤ 9223372036854775807) := by unfold Hid; omega
    go_region_held3 (fun W' => W'.cell? ⟨w2.heap.size, 0, none⟩ = some (.int .i64 (pcode m s)) ∧ W'.cell? ⟨w5.heap.size, 0, none⟩ = some (.int .i64 (rcode m2 a2 s2)) ∧ W'.cell? ⟨w5.heap.size, 1, none⟩ = some (.int .i64 (rval m2 zs2 a2 s2)) ∧ W'.cell? ⟨w9.heap.size, 0, none⟩ = some (.int .i64 (scode m5 a5))) (exact SB.out _ (by assumption))
      (first | (go_at_call 20; refine (specPack_any m s _ HMX.out).mono ?_; rintro e v20 ⟨A20, n20, c20, rfl, ho20, hb20⟩; have V20 := Lib.hid (below_step V0.out hb20); clear ho20 hb20) | (go_at_call 21; refine (specRead_any _ _ _ zs2 a2 s2 _ (HD12.out.bin.below V20.out) hz2 (by omega)).mono ?_; rintro e v21 ⟨rfl, hb21⟩; have V21 := Lib.hid (below_step V20.out hb21); clear hb21) | (go_at_call 22; refine (same_any _ _ _ _ _ _ zs3 zs4 _ (HE12.out.bin.below V21.out) (HF12.out.bin.below V21.out) hz3 hz4).mono ?_; rw [HQ.out]; rintro e v22 ⟨rfl, rfl⟩) | (go_at_call 23; refine (lwSame_any _ _ _ _ _ _ zs3 zs4 _ (HE12.out.bin.below V21.out) (HF12.out.bin.below V21.out) hz3 hz4).mono ?_; rw [HQ.out]; rintro e v23 ⟨rfl, rfl⟩) | (go_at_call 24; refine (specSeal_any _ _ _ zs5 a5 _ (HG12.out.bin.below V21.out) hz5 (by omega)).mono ?_; rintro e v24 ⟨A24, n24, c24, rfl, ho24, hb24⟩; have V24 := Lib.hid (below_step V21.out hb24); clear ho24 hb24) | (go_at_call 25; refine (isSealed_any _ _ _ zs7 _ (HV12.out.bin.below V24.out) hz7 (by omega)).mono ?_; rintro e v25 ⟨rfl, hb25⟩; have V25 := Lib.hid (below_step V24.out hb25); clear hb25) | (go_at_call 26; refine (specIsSealed_any _ _ _ zs7 _ (HV12.out.bin.below V25.out) hz7 (by omega)).mono ?_; rintro e v26 ⟨rfl, rfl⟩) | (go_at_call 27; refine (fletcher_any _ _ _ zs8 _ (HW12.out.bin.below V25.out) hz8 (by omega)).mono ?_; rintro e v27 ⟨rfl, hb27⟩; have V27 := Lib.hid (below_step V25.out hb27); clear hb27) | (go_at_call 28; refine (specFletcher_any _ _ _ zs8 _ (HW12.out.bin.below V27.out) hz8 (by omega)).mono ?_; rintro e v28 ⟨rfl, hb28⟩; have V28 := Lib.hid (below_step V27.out hb28); clear hb28))
    clear SB V0 V20 V21 V24 V25 V27
    have hb13 := V28.out
    have HB13 := Lib.hid (below_step HB12.out hb13)
    have HA13 := Lib.hid (HA12.out.below hb13)
    have HP13 := Lib.hid (HP12.out.below hb13)
    have HX13 := Lib.hid (HX12.out.below hb13)
    have HD13 := Lib.hid (HD12.out.below hb13)
    have HY13 := Lib.hid (HY12.out.below hb13)
    have HE13 := Lib.hid (HE12.out.below hb13)
    have HF13 := Lib.hid (HF12.out.below hb13)
    have HG13 := Lib.hid (HG12.out.below hb13)
    have HS13 := Lib.hid (HS12.out.below hb13)
    have HZ13 := Lib.hid (HZ12.out.below hb13)
    have HV13 := Lib.hid (HV12.out.below hb13)
    have HW13 := Lib.hid (HW12.out.below hb13)
    clear HB12 HA12 HP12 HX12 HD12 HY12 HE12 HF12 HG12 HS12 HZ12 HV12 HW12 hb13
    by_cases hp : pOK m s
    · obtain ⟨sn, rfl⟩ := Int.eq_ofNat_of_zero_le (show 0 ≤ s by have := hp.1; omega)
      have hp6 : sn ≤ 6 := by have := hp.2.1; omega
      obtain rfl : n1 = sn := by have := HP13.out.len; rw [pbytes_yes hp, packN_len] at this; exact this.symm
      have e1 : pcode m (n1 : Int) = 0 := if_pos hp
      have HE1 : Hid (rcode n1 0 (n1 : Int) = 0 ∧ rval n1 (pbytes m (n1 : Int)) 0 (n1 : Int) = m) := readback hp
      have hk1 : n1 ≤ c1 := HP13.out.cap
      clear hp
      have cHX0 := HX13.out.look 0
      have cHX1 := HX13.out.look 1
      have lHX := HX13.out.lt
      go_wp2_with fail
      clear cHX0 cHX1 lHX
      refine (read_any _ _ _ (pbytes m (n1 : Int)) 0 (n1 : Int) _ HP13.out.bin (pbytes_bytes _ _) (by omega) hk1).mono ?_
      rintro e w14 ⟨rfl, hb14⟩
      have HB14 := Lib.hid (below_step HB13.out hb14)
      have HA14 := Lib.hid (HA13.out.below hb14)
      have HD14 := Lib.hid (HD13.out.below hb14)
      have HY14 := Lib.hid (HY13.out.below hb14)
      have HE14 := Lib.hid (HE13.out.below hb14)
      have HF14 := Lib.hid (HF13.out.below hb14)
      have HG14 := Lib.hid (HG13.out.below hb14)
      have HS14 := Lib.hid (HS13.out.below hb14)
      have HZ14 := Lib.hid (HZ13.out.below hb14)
      have HV14 := Lib.hid (HV13.out.below hb14)
      have HW14 := Lib.hid (HW13.out.below hb14)
      clear HB13 HA13 HP13 HX13 HD13 HY13 HE13 HF13 HG13 HS13 HZ13 HV13 HW13 hb14
      rw [HE1.out.1, HE1.out.2]
      clear HE1 e1
      go_wp2_with fail
      by_cases hr : rOK m2 a2 s2
      · obtain ⟨an, rfl⟩ := Int.eq_ofNat_of_zero_le hr.2.2.1
        obtain ⟨qn, rfl⟩ := Int.eq_ofNat_of_zero_le (show 0 ≤ s2 by have := hr.1; omega)
        have hr1 : 1 ≤ qn := by have := hr.1; omega
        have hr6 : qn ≤ 6 := by have := hr.2.1; omega
        have hrm : an + qn ≤ m2 := by have := hr.2.2.2; omega
        have e1 : rcode m2 (an : Int) (qn : Int) = 0 := if_pos hr
        have hl2 : zs2.length = m2 := HD14.out.len
        have HSUB : Hid (pbytes (rval m2 zs2 (an : Int) (qn : Int)) (qn : Int) = (zs2.drop an).take qn ∧ rval m2 zs2 (an : Int) (qn : Int) ≤ 9223372036854775807) := subback hr hl2 hz2
        have HLEN : Hid (((zs2.drop an).take qn).length = qn) := sub_len (by omega)
        have hmc : m2 ≤ d2 := HD14.out.cap
        obtain ⟨g2, hB2, _⟩ := HD14.out.form (by omega)
        obtain rfl : B2 = ⟨g2, 0, none⟩ := by injection hB2
        have HSB : Hid (BIn w14 (some ⟨g2, an, none⟩) qn ((zs2.drop an).take qn)) := by have h' := BIn.sub HD14.out.bin hrm; rw [Nat.zero_add] at h'; exact h'
        clear hB2 hr hl2
        have SB : Hid (∀ W', Hid (Below w14.heap.size w14 W') → (fun W' => W'.cell? ⟨w5.heap.size, 0, none⟩ = some (.int .i64 0) ∧ W'.cell? ⟨w5.heap.size, 1, none⟩ = some (.int .i64 (rval m2 zs2 (an : Int) (qn : Int)))) W') := fun W' hb' => ⟨((HY14.out.below hb'.out).look 0).trans (by rw [e1]; rfl), (HY14.out.below hb'.out).look 1⟩
        clear e1
        obtain ⟨rv, hrv⟩ : ∃ rv, rval m2 zs2 (an : Int) (qn : Int) = rv := ⟨_, rfl⟩
        rw [hrv] at SB HSUB
        clear hrv
        have V0 : Hid (Below w14.heap.size w14 w14.drew) := (Below.refl _ _).drew
        have g1 : (an : Int) ≤ (an : Int) + qn := by omega
        have g2' : (an : Int) + qn ≤ d2 := by omega
        have g3 : (0 : Int) ≤ an := by omega
        have g4 : IntKind.i64.wrap ((an : Int) + qn) = (an : Int) + qn := IntWalk.i64_in _ (by omega)
        have g5 : ((an : Int) + qn).toNat = an + qn := by omega
        have g6 : an + qn - an = qn := by omega
        have HS2 := HSUB.out.2
        go_region_held3 (fun W' => W'.cell? ⟨w5.heap.size, 0, none⟩ = some (.int .i64 0) ∧ W'.cell? ⟨w5.heap.size, 1, none⟩ = some (.int .i64 rv)) (exact SB.out _ (by assumption))
          (first | (go_at_call 12; refine (pack_any rv (qn : Int) _).mono ?_; rintro e u1 ⟨A30, n30, c30, rfl, ho30, hb30⟩; have U1 := Lib.hid (below_step V0.out hb30); have UO := Lib.hid ho30; clear ho30 hb30) | (go_at_call 23; refine (lwSame_yes _ _ _ _ _ _ ((zs2.drop an).take qn) _ (by rw [← HSUB.out.1]; exact UO.out.bin) (HSB.out.below U1.out)).mono ?_; rintro e u2 ⟨rfl, rfl⟩))
        clear SB V0 g1 g2' g3 g4 g5 g6 HS2 HSB HLEN HSUB UO
        have hb15 := U1.out
        have HB15 := Lib.hid (below_step HB14.out hb15)
        have HA15 := Lib.hid (HA14.out.below hb15)
        have HD15 := Lib.hid (HD14.out.below hb15)
        have HY15 := Lib.hid (HY14.out.below hb15)
        have HE15 := Lib.hid (HE14.out.below hb15)
        have HF15 := Lib.hid (HF14.out.below hb15)
        have HG15 := Lib.hid (HG14.out.below hb15)
        have HS15 := Lib.hid (HS14.out.below hb15)
        have HZ15 := Lib.hid (HZ14.out.below hb15)
        have HV15 := Lib.hid (HV14.out.below hb15)
        have HW15 := Lib.hid (HW14.out.below hb15)
        clear HB14 HA14 HD14 HY14 HE14 HF14 HG14 HS14 HZ14 HV14 HW14 hb15
        by_cases ht : scode m5 a5 = 0
        · have et : (scode m5 a5 != 0) = false := by rw [ht]; rfl
          have ho : sOK m5 a5 := scode_zero ht
          clear ht
          obtain ⟨pn, rfl⟩ := Int.eq_ofNat_of_zero_le ho.2.1
          have hp5 : pn + 2 ≤ m5 := by have := ho.2.2; omega
          have hm54 : m5 ≤ 400 := ho.1
          have hl5 := HG15.out.len
          have hsb : sbytes zs5 (pn : Int) = sealN zs5 pn := by unfold sbytes; rw [hl5, if_pos ho]; simp
          have HSE : Hid (Own u2 w8.heap.size A6 n6 c6 (sealN zs5 pn)) := by have h' := HS15.out; rw [hsb] at h'; exact h'
          obtain rfl : n6 = m5 := by have := HSE.out.len; rw [sealN_len, hl5] at this; exact this.symm
          have HSD : Hid (sealedB (sealN zs5 pn) = true) := sealN_sealed zs5 pn (by omega) (by omega)
          have HSA : Hid (sbytes (sealN zs5 pn) (pn : Int) = sealN zs5 pn) := by unfold Hid sbytes; rw [sealN_len, hl5, if_pos ho]; simpa using sealN_again zs5 pn (by omega)
          have HLS : Hid ((sealN zs5 pn).length = n6) := HSE.out.len
          have hbs : Bytes (sealN zs5 pn) := sealN_bytes hz5 pn
          have HSM := Lib.hid (sealN_sums zs5 pn (by omega))
          clear ho hsb hl5
          have cHZ0 := HZ15.out.look 0
          have cHZ1 := HZ15.out.look 1
          have lHZ := HZ15.out.lt
          go_wp2_with fail
          clear cHZ0 cHZ1 lHZ
          clear et
          have SB : Hid (∀ W', Hid (Below u2.heap.size u2 W') → (fun W' => W'.cell? ⟨w9.heap.size, 1, none⟩ = some (.slice A6 n6 c6)) W') := fun W' hb' => (HZ15.out.below hb'.out).look 1
          have V0 : Hid (Below u2.heap.size u2 u2.drew) := (Below.refl _ _).drew
          go_region_held3 (fun W' => W'.cell? ⟨w9.heap.size, 1, none⟩ = some (.slice A6 n6 c6)) (exact SB.out _ (by assumption))
            (first | (go_at_call 25; refine (isSealed_any _ _ _ (sealN zs5 pn) _ (HSE.out.bin.below V0.out) hbs (by omega)).mono ?_; rw [HSD.out]; rintro e t1 ⟨rfl, hb31⟩; have T1 := Lib.hid (below_step V0.out hb31); clear hb31) | (go_at_call 17; refine (seal_any _ _ _ (sealN zs5 pn) (pn : Int) _ (HSE.out.bin.below T1.out) hbs (by omega)).mono ?_; rintro e t2 ⟨A32, n32, c32, rfl, ho32, hb32⟩; have T2 := Lib.hid (below_step T1.out hb32); have TO := Lib.hid ho32; clear hb32 ho32) | (go_at_call 23; refine (lwSame_yes _ _ _ _ _ _ (sealN zs5 pn) _ (by rw [← HSA.out]; exact TO.out.bin) (HSE.out.bin.below T2.out)).mono ?_; rintro e t3 ⟨rfl, rfl⟩))
          clear SB V0 T1 TO HSA
          have hb16 := T2.out
          have HB16 := Lib.hid (below_step HB15.out hb16)
          have HA16 := Lib.hid (HA15.out.below hb16)
          have HD16 := Lib.hid (HD15.out.below hb16)
          have HY16 := Lib.hid (HY15.out.below hb16)
          have HE16 := Lib.hid (HE15.out.below hb16)
          have HF16 := Lib.hid (HF15.out.below hb16)
          have HG16 := Lib.hid (HG15.out.below hb16)
          have HS16 := Lib.hid (HS15.out.below hb16)
          have HZ16 := Lib.hid (HZ15.out.below hb16)
          have HV16 := Lib.hid (HV15.out.below hb16)
          have HW16 := Lib.hid (HW15.out.below hb16)
          have HSE16 := Lib.hid (HSE.out.below hb16)
          clear HB15 HA15 HD15 HY15 HE15 HF15 HG15 HS15 HZ15 HV15 HW15 HSE hb16
          have cHZ0 := HZ16.out.look 0
          have cHZ1 := HZ16.out.look 1
          have lHZ := HZ16.out.lt
          obtain ⟨g6, rfl, _, _⟩ := HSE16.out.form (by omega)
          have hbe : Below t3.heap.size t3 (t3.alloc (.cells #[] 5)) := (Below.refl _ _).alloc (Nat.le_refl _) _
          have HN := Lib.hid (HSE16.out.bin.below hbe).news
          have HE0 := Lib.hid (empty_own t3)
          have HBE := Lib.hid hbe
          clear hbe
          obtain ⟨i0, hi, hz0, hz1, hz2'⟩ := info_parts byteInfo
          go_wp2_with (at_builtin; refine wpList_append_own _ rfl (.tmp 165) (.tmp 167) _ rfl t3.heap.size 5 i0 (.int .u8 0) 1 1 Try.underlying22 hi hz0 hz1 hz2' rfl (by decide) _ 0 [] rfl HE0.out ⟨g6, 0, none⟩ n6 c6 ((sealN zs5 pn).map (Value.int .u8)) rfl (by rw [List.length_map, HLS.out, Nat.mul_one]) HN.out (bytes_oneCell _) (by unfold maxLen; omega) (by omega) (by simp) ?_; intro v1 t4 hown4 hg4 hv4)
          clear hi hz0 hz1 hz2' HN HE0 hv4
          have hown5 : t4.ownsRow t3.heap.size 5 1 v1 n6 ((sealN zs5 pn).map (Value.int .u8)) := by rw [Nat.zero_add, List.nil_append] at hown4; exact hown4
          obtain ⟨B9, d9, rfl, ho9⟩ := Own.of_row hown5 (by omega)
          obtain ⟨g9, rfl, hg9, _⟩ := ho9.form (by omega)
          have hb4 : Below t3.heap.size t3 t4 := HBE.out.grown hg4 (by simp) (fun k hk => by injection hk with hk; simp at hk; omega)
          have HO9 := Lib.hid ho9
          clear hown4 hown5 hg4 ho9 HBE
          have SB4 : Hid (wq.heap.size ≤ g9) := Nat.le_trans HB16.out.size hg9
          have HB17 := Lib.hid (below_step HB16.out hb4)
          have HA17 := Lib.hid (HA16.out.below hb4)
          clear HB16 HA16 HD16 HY16 HE16 HF16 HG16 HS16 HZ16 HV16 HW16 HSE16 hb4
          go_wp2_with fail
          go_region_with ((first | (go_at_call_of 29 (Value.int IntKind.i64 2); go_loud (refine (lwAt_two A n c cs n6 _ ?_ hb hn (by omega) (by omega)).mono ?_); go_loud (exact HA17.out); go_loud (rintro e t5 ⟨v5, rfl, hv5, q5, rfl⟩); go_loud (obtain ⟨j5, rfl⟩ := Int.eq_ofNat_of_zero_le hv5.1); go_loud (have hj5 : j5 < n6 := by omega); go_loud (have hc5 := HO9.out.cell hj5); go_loud (have hf5 := HO9.out.frozen j5); clear hv5) | (go_at_call_of 29 (Value.int IntKind.i64 3); refine (lwAt_three A n c cs _ ?_ hb hn).mono ?_; exact HA17.out; rintro e t6 ⟨v6, rfl, hv6, q6, rfl⟩; obtain ⟨j6, rfl⟩ := Int.eq_ofNat_of_zero_le hv6.1)))
          all_goals
            go_wp2_with fail
            have hz := hbs.at_ j5
            have hflip := turnedB _ j6 hz.1 hz.2 (by omega)
            rw [List.getD_eq_getElem?_getD] at hflip
            obtain ⟨v, hv⟩ : ∃ v, bits .xor .u8 ((sealN zs5 pn)[j5]?.getD 0) (2 ^ min j6 8 % 256) = v := ⟨_, rfl⟩
            rw [hv] at hflip ⊢
            rw [← List.getD_eq_getElem?_getD] at hflip
            have ho10 : Own (t4.drewN (1 + q5 + q6)) t3.heap.size (some ⟨g9, 0, none⟩) n6 d9 (sealN zs5 pn) := HO9.out
            obtain ⟨ho11, hg11⟩ := ho10.stored j5 v
            have hun := turned_unsealed (sealN zs5 pn) j5 v (by rw [HLS.out]; exact hj5) HSM.out.1 hflip.2.2.1 hflip.2.2.2.1 hflip.2.2.2.2
            have HUN := Lib.hid hun
            have HB11 : Hid (Below wq.heap.size wq _) := (below_drewN HB17.out (1 + q5 + q6)).grown hg11 HB17.out.size (fun r hr => by injection hr with hr; have := SB4.out; omega)
            refine (isSealed_any _ _ _ ((sealN zs5 pn).set j5 v) _ ho11.bin (hbs.set j5 v hflip.1 hflip.2.1) (by omega)).mono ?_
            rw [HUN.out]
            rintro e t7 ⟨rfl, hb7⟩
            have HB12 := Lib.hid (below_step HB11.out hb7)
            clear hb7 ho11 hg11 hun hflip hz hv ho10 hc5 hf5
            go_wp2
            go_ret
            exact ⟨rfl, HB12.out⟩
        · have et : (scode m5 a5 != 0) = true := by rw [bne_iff_ne]; exact ht
          clear ht
          have cHZ0 := HZ15.out.look 0
          have cHZ1 := HZ15.out.look 1
          have lHZ := HZ15.out.lt
          go_wp2_with fail
          clear cHZ0 cHZ1 lHZ
          go_ret
          exact ⟨rfl, HB15.out⟩
      · have e1 : rcode m2 a2 s2 = 3 := if_neg hr
        have c0 := HY14.out.look 0
        have c1 := HY14.out.look 1
        clear hr
        go_quiet (fail)
        clear c0 c1 e1
        obtain ⟨u1, hu1⟩ : ∃ u1 : World, u1 = w14.drewN nq := ⟨_, rfl⟩
        have U1 : Hid (Below w14.heap.size w14 u1) := by rw [hu1]; exact below_drewN (Below.refl _ _) _
        rw [← hu1]
        clear hu1
        have hb15 := U1.out
        have HB15 := Lib.hid (below_step HB14.out hb15)
        have HA15 := Lib.hid (HA14.out.below hb15)
        have HD15 := Lib.hid (HD14.out.below hb15)
        have HY15 := Lib.hid (HY14.out.below hb15)
        have HE15 := Lib.hid (HE14.out.below hb15)
        have HF15 := Lib.hid (HF14.out.below hb15)
        have HG15 := Lib.hid (HG14.out.below hb15)
        have HS15 := Lib.hid (HS14.out.below hb15)
        have HZ15 := Lib.hid (HZ14.out.below hb15)
        have HV15 := Lib.hid (HV14.out.below hb15)
        have HW15 := Lib.hid (HW14.out.below hb15)
        clear HB14 HA14 HD14 HY14 HE14 HF14 HG14 HS14 HZ14 HV14 HW14 hb15
        by_cases ht : scode m5 a5 = 0
        · have et : (scode m5 a5 != 0) = false := by rw [ht]; rfl
          have ho : sOK m5 a5 := scode_zero ht
          clear ht
          obtain ⟨pn, rfl⟩ := Int.eq_ofNat_of_zero_le ho.2.1
          have hp5 : pn + 2 ≤ m5 := by have := ho.2.2; omega
          have hm54 : m5 ≤ 400 := ho.1
          have hl5 := HG15.out.len
          have hsb : sbytes zs5 (pn : Int) = sealN zs5 pn := by unfold sbytes; rw [hl5, if_pos ho]; simp
          have HSE : Hid (Own u1 w8.heap.size A6 n6 c6 (sealN zs5 pn)) := by have h' := HS15.out; rw [hsb] at h'; exact h'
          obtain rfl : n6 = m5 := by have := HSE.out.len; rw [sealN_len, hl5] at this; exact this.symm
          have HSD : Hid (sealedB (sealN zs5 pn) = true) := sealN_sealed zs5 pn (by omega) (by omega)
          have HSA : Hid (sbytes (sealN zs5 pn) (pn : Int) = sealN zs5 pn) := by unfold Hid sbytes; rw [sealN_len, hl5, if_pos ho]; simpa using sealN_again zs5 pn (by omega)
          have HLS : Hid ((sealN zs5 pn).length = n6) := HSE.out.len
          have hbs : Bytes (sealN zs5 pn) := sealN_bytes hz5 pn
          have HSM := Lib.hid (sealN_sums zs5 pn (by omega))
          clear ho hsb hl5
          have cHZ0 := HZ15.out.look 0
          have cHZ1 := HZ15.out.look 1
          have lHZ := HZ15.out.lt
          go_wp2_with fail
          clear cHZ0 cHZ1 lHZ
          clear et
          have SB : Hid (∀ W', Hid (Below u1.heap.size u1 W') → (fun W' => W'.cell? ⟨w9.heap.size, 1, none⟩ = some (.slice A6 n6 c6)) W') := fun W' hb' => (HZ15.out.below hb'.out).look 1
          have V0 : Hid (Below u1.heap.size u1 u1.drew) := (Below.refl _ _).drew
          go_region_held3 (fun W' => W'.cell? ⟨w9.heap.size, 1, none⟩ = some (.slice A6 n6 c6)) (exact SB.out _ (by assumption))
            (first | (go_at_call 25; refine (isSealed_any _ _ _ (sealN zs5 pn) _ (HSE.out.bin.below V0.out) hbs (by omega)).mono ?_; rw [HSD.out]; rintro e t1 ⟨rfl, hb31⟩; have T1 := Lib.hid (below_step V0.out hb31); clear hb31) | (go_at_call 17; refine (seal_any _ _ _ (sealN zs5 pn) (pn : Int) _ (HSE.out.bin.below T1.out) hbs (by omega)).mono ?_; rintro e t2 ⟨A32, n32, c32, rfl, ho32, hb32⟩; have T2 := Lib.hid (below_step T1.out hb32); have TO := Lib.hid ho32; clear hb32 ho32) | (go_at_call 23; refine (lwSame_yes _ _ _ _ _ _ (sealN zs5 pn) _ (by rw [← HSA.out]; exact TO.out.bin) (HSE.out.bin.below T2.out)).mono ?_; rintro e t3 ⟨rfl, rfl⟩))
          clear SB V0 T1 TO HSA
          have hb16 := T2.out
          have HB16 := Lib.hid (below_step HB15.out hb16)
          have HA16 := Lib.hid (HA15.out.below hb16)
          have HD16 := Lib.hid (HD15.out.below hb16)
          have HY16 := Lib.hid (HY15.out.below hb16)
          have HE16 := Lib.hid (HE15.out.below hb16)
          have HF16 := Lib.hid (HF15.out.below hb16)
          have HG16 := Lib.hid (HG15.out.below hb16)
          have HS16 := Lib.hid (HS15.out.below hb16)
          have HZ16 := Lib.hid (HZ15.out.below hb16)
          have HV16 := Lib.hid (HV15.out.below hb16)
          have HW16 := Lib.hid (HW15.out.below hb16)
          have HSE16 := Lib.hid (HSE.out.below hb16)
          clear HB15 HA15 HD15 HY15 HE15 HF15 HG15 HS15 HZ15 HV15 HW15 HSE hb16
          have cHZ0 := HZ16.out.look 0
          have cHZ1 := HZ16.out.look 1
          have lHZ := HZ16.out.lt
          obtain ⟨g6, rfl, _, _⟩ := HSE16.out.form (by omega)
          have hbe : Below t3.heap.size t3 (t3.alloc (.cells #[] 5)) := (Below.refl _ _).alloc (Nat.le_refl _) _
          have HN := Lib.hid (HSE16.out.bin.below hbe).news
          have HE0 := Lib.hid (empty_own t3)
          have HBE := Lib.hid hbe
          clear hbe
          obtain ⟨i0, hi, hz0, hz1, hz2'⟩ := info_parts byteInfo
          go_wp2_with (at_builtin; refine wpList_append_own _ rfl (.tmp 165) (.tmp 167) _ rfl t3.heap.size 5 i0 (.int .u8 0) 1 1 Try.underlying22 hi hz0 hz1 hz2' rfl (by decide) _ 0 [] rfl HE0.out ⟨g6, 0, none⟩ n6 c6 ((sealN zs5 pn).map (Value.int .u8)) rfl (by rw [List.length_map, HLS.out, Nat.mul_one]) HN.out (bytes_oneCell _) (by unfold maxLen; omega) (by omega) (by simp) ?_; intro v1 t4 hown4 hg4 hv4)
          clear hi hz0 hz1 hz2' HN HE0 hv4
          have hown5 : t4.ownsRow t3.heap.size 5 1 v1 n6 ((sealN zs5 pn).map (Value.int .u8)) := by rw [Nat.zero_add, List.nil_append] at hown4; exact hown4
          obtain ⟨B9, d9, rfl, ho9⟩ := Own.of_row hown5 (by omega)
          obtain ⟨g9, rfl, hg9, _⟩ := ho9.form (by omega)
          have hb4 : Below t3.heap.size t3 t4 := HBE.out.grown hg4 (by simp) (fun k hk => by injection hk with hk; simp at hk; omega)
          have HO9 := Lib.hid ho9
          clear hown4 hown5 hg4 ho9 HBE
          have SB4 : Hid (wq.heap.size ≤ g9) := Nat.le_trans HB16.out.size hg9
          have HB17 := Lib.hid (below_step HB16.out hb4)
          have HA17 := Lib.hid (HA16.out.below hb4)
          clear HB16 HA16 HD16 HY16 HE16 HF16 HG16 HS16 HZ16 HV16 HW16 HSE16 hb4
          go_wp2_with fail
          go_region_with ((first | (go_at_call_of 29 (Value.int IntKind.i64 2); go_loud (refine (lwAt_two A n c cs n6 _ ?_ hb hn (by omega) (by omega)).mono ?_); go_loud (exact HA17.out); go_loud (rintro e t5 ⟨v5, rfl, hv5, q5, rfl⟩); go_loud (obtain ⟨j5, rfl⟩ := Int.eq_ofNat_of_zero_le hv5.1); go_loud (have hj5 : j5 < n6 := by omega); go_loud (have hc5 := HO9.out.cell hj5); go_loud (have hf5 := HO9.out.frozen j5); clear hv5) | (go_at_call_of 29 (Value.int IntKind.i64 3); refine (lwAt_three A n c cs _ ?_ hb hn).mono ?_; exact HA17.out; rintro e t6 ⟨v6, rfl, hv6, q6, rfl⟩; obtain ⟨j6, rfl⟩ := Int.eq_ofNat_of_zero_le hv6.1)))
          all_goals
            go_wp2_with fail
            have hz := hbs.at_ j5
            have hflip := turnedB _ j6 hz.1 hz.2 (by omega)
            rw [List.getD_eq_getElem?_getD] at hflip
            obtain ⟨v, hv⟩ : ∃ v, bits .xor .u8 ((sealN zs5 pn)[j5]?.getD 0) (2 ^ min j6 8 % 256) = v := ⟨_, rfl⟩
            rw [hv] at hflip ⊢
            rw [← List.getD_eq_getElem?_getD] at hflip
            have ho10 : Own (t4.drewN (1 + q5 + q6)) t3.heap.size (some ⟨g9, 0, none⟩) n6 d9 (sealN zs5 pn) := HO9.out
            obtain ⟨ho11, hg11⟩ := ho10.stored j5 v
            have hun := turned_unsealed (sealN zs5 pn) j5 v (by rw [HLS.out]; exact hj5) HSM.out.1 hflip.2.2.1 hflip.2.2.2.1 hflip.2.2.2.2
            have HUN := Lib.hid hun
            have HB11 : Hid (Below wq.heap.size wq _) := (below_drewN HB17.out (1 + q5 + q6)).grown hg11 HB17.out.size (fun r hr => by injection hr with hr; have := SB4.out; omega)
            refine (isSealed_any _ _ _ ((sealN zs5 pn).set j5 v) _ ho11.bin (hbs.set j5 v hflip.1 hflip.2.1) (by omega)).mono ?_
            rw [HUN.out]
            rintro e t7 ⟨rfl, hb7⟩
            have HB12 := Lib.hid (below_step HB11.out hb7)
            clear hb7 ho11 hg11 hun hflip hz hv ho10 hc5 hf5
            go_wp2
            go_ret
            exact ⟨rfl, HB12.out⟩
        · have et : (scode m5 a5 != 0) = true := by rw [bne_iff_ne]; exact ht
          clear ht
          have cHZ0 := HZ15.out.look 0
          have cHZ1 := HZ15.out.look 1
          have lHZ := HZ15.out.lt
          go_wp2_with fail
          clear cHZ0 cHZ1 lHZ
          go_ret
          exact ⟨rfl, HB15.out⟩
    · have e1 : pcode m s = 3 := if_neg hp
      clear hp
      have cHX0 := HX13.out.look 0
      have cHX1 := HX13.out.look 1
      have lHX := HX13.out.lt
      go_wp2_with fail
      clear cHX0 cHX1 lHX
      by_cases hr : rOK m2 a2 s2
      · obtain ⟨an, rfl⟩ := Int.eq_ofNat_of_zero_le hr.2.2.1
        obtain ⟨qn, rfl⟩ := Int.eq_ofNat_of_zero_le (show 0 ≤ s2 by have := hr.1; omega)
        have hr1 : 1 ≤ qn := by have := hr.1; omega
        have hr6 : qn ≤ 6 := by have := hr.2.1; omega
        have hrm : an + qn ≤ m2 := by have := hr.2.2.2; omega
        have e1 : rcode m2 (an : Int) (qn : Int) = 0 := if_pos hr
        have hl2 : zs2.length = m2 := HD13.out.len
        have HSUB : Hid (pbytes (rval m2 zs2 (an : Int) (qn : Int)) (qn : Int) = (zs2.drop an).take qn ∧ rval m2 zs2 (an : Int) (qn : Int) ≤ 9223372036854775807) := subback hr hl2 hz2
        have HLEN : Hid (((zs2.drop an).take qn).length = qn) := sub_len (by omega)
        have hmc : m2 ≤ d2 := HD13.out.cap
        obtain ⟨g2, hB2, _⟩ := HD13.out.form (by omega)
        obtain rfl : B2 = ⟨g2, 0, none⟩ := by injection hB2
        have HSB : Hid (BIn v28 (some ⟨g2, an, none⟩) qn ((zs2.drop an).take qn)) := by have h' := BIn.sub HD13.out.bin hrm; rw [Nat.zero_add] at h'; exact h'
        clear hB2 hr hl2
        have SB : Hid (∀ W', Hid (Below v28.heap.size v28 W') → (fun W' => W'.cell? ⟨w5.heap.size, 0, none⟩ = some (.int .i64 0) ∧ W'.cell? ⟨w5.heap.size, 1, none⟩ = some (.int .i64 (rval m2 zs2 (an : Int) (qn : Int)))) W') := fun W' hb' => ⟨((HY13.out.below hb'.out).look 0).trans (by rw [e1]; rfl), (HY13.out.below hb'.out).look 1⟩
        clear e1
        obtain ⟨rv, hrv⟩ : ∃ rv, rval m2 zs2 (an : Int) (qn : Int) = rv := ⟨_, rfl⟩
        rw [hrv] at SB HSUB
        clear hrv
        have V0 : Hid (Below v28.heap.size v28 v28.drew) := (Below.refl _ _).drew
        have g1 : (an : Int) ≤ (an : Int) + qn := by omega
        have g2' : (an : Int) + qn ≤ d2 := by omega
        have g3 : (0 : Int) ≤ an := by omega
        have g4 : IntKind.i64.wrap ((an : Int) + qn) = (an : Int) + qn := IntWalk.i64_in _ (by omega)
        have g5 : ((an : Int) + qn).toNat = an + qn := by omega
        have g6 : an + qn - an = qn := by omega
        have HS2 := HSUB.out.2
        go_region_held3 (fun W' => W'.cell? ⟨w5.heap.size, 0, none⟩ = some (.int .i64 0) ∧ W'.cell? ⟨w5.heap.size, 1, none⟩ = some (.int .i64 rv)) (exact SB.out _ (by assumption))
          (first | (go_at_call 12; refine (pack_any rv (qn : Int) _).mono ?_; rintro e u1 ⟨A30, n30, c30, rfl, ho30, hb30⟩; have U1 := Lib.hid (below_step V0.out hb30); have UO := Lib.hid ho30; clear ho30 hb30) | (go_at_call 23; refine (lwSame_yes _ _ _ _ _ _ ((zs2.drop an).take qn) _ (by rw [← HSUB.out.1]; exact UO.out.bin) (HSB.out.below U1.out)).mono ?_; rintro e u2 ⟨rfl, rfl⟩))
        clear SB V0 g1 g2' g3 g4 g5 g6 HS2 HSB HLEN HSUB UO
        have hb14 := U1.out
        have HB14 := Lib.hid (below_step HB13.out hb14)
        have HA14 := Lib.hid (HA13.out.below hb14)
        have HP14 := Lib.hid (HP13.out.below hb14)
        have HX14 := Lib.hid (HX13.out.below hb14)
        have HD14 := Lib.hid (HD13.out.below hb14)
        have HY14 := Lib.hid (HY13.out.below hb14)
        have HE14 := Lib.hid (HE13.out.below hb14)
        have HF14 := Lib.hid (HF13.out.below hb14)
        have HG14 := Lib.hid (HG13.out.below hb14)
        have HS14 := Lib.hid (HS13.out.below hb14)
        have HZ14 := Lib.hid (HZ13.out.below hb14)
        have HV14 := Lib.hid (HV13.out.below hb14)
        have HW14 := Lib.hid (HW13.out.below hb14)
        clear HB13 HA13 HP13 HX13 HD13 HY13 HE13 HF13 HG13 HS13 HZ13 HV13 HW13 hb14
        by_cases ht : scode m5 a5 = 0
        · have et : (scode m5 a5 != 0) = false := by rw [ht]; rfl
          have ho : sOK m5 a5 := scode_zero ht
          clear ht
          obtain ⟨pn, rfl⟩ := Int.eq_ofNat_of_zero_le ho.2.1
          have hp5 : pn + 2 ≤ m5 := by have := ho.2.2; omega
          have hm54 : m5 ≤ 400 := ho.1
          have hl5 := HG14.out.len
          have hsb : sbytes zs5 (pn : Int) = sealN zs5 pn := by unfold sbytes; rw [hl5, if_pos ho]; simp
          have HSE : Hid (Own u2 w8.heap.size A6 n6 c6 (sealN zs5 pn)) := by have h' := HS14.out; rw [hsb] at h'; exact h'
          obtain rfl : n6 = m5 := by have := HSE.out.len; rw [sealN_len, hl5] at this; exact this.symm
          have HSD : Hid (sealedB (sealN zs5 pn) = true) := sealN_sealed zs5 pn (by omega) (by omega)
          have HSA : Hid (sbytes (sealN zs5 pn) (pn : Int) = sealN zs5 pn) := by unfold Hid sbytes; rw [sealN_len, hl5, if_pos ho]; simpa using sealN_again zs5 pn (by omega)
          have HLS : Hid ((sealN zs5 pn).length = n6) := HSE.out.len
          have hbs : Bytes (sealN zs5 pn) := sealN_bytes hz5 pn
          have HSM := Lib.hid (sealN_sums zs5 pn (by omega))
          clear ho hsb hl5
          have cHZ0 := HZ14.out.look 0
          have cHZ1 := HZ14.out.look 1
          have lHZ := HZ14.out.lt
          go_wp2_with fail
          clear cHZ0 cHZ1 lHZ
          clear et
          have SB : Hid (∀ W', Hid (Below u2.heap.size u2 W') → (fun W' => W'.cell? ⟨w9.heap.size, 1, none⟩ = some (.slice A6 n6 c6)) W') := fun W' hb' => (HZ14.out.below hb'.out).look 1
          have V0 : Hid (Below u2.heap.size u2 u2.drew) := (Below.refl _ _).drew
          go_region_held3 (fun W' => W'.cell? ⟨w9.heap.size, 1, none⟩ = some (.slice A6 n6 c6)) (exact SB.out _ (by assumption))
            (first | (go_at_call 25; refine (isSealed_any _ _ _ (sealN zs5 pn) _ (HSE.out.bin.below V0.out) hbs (by omega)).mono ?_; rw [HSD.out]; rintro e t1 ⟨rfl, hb31⟩; have T1 := Lib.hid (below_step V0.out hb31); clear hb31) | (go_at_call 17; refine (seal_any _ _ _ (sealN zs5 pn) (pn : Int) _ (HSE.out.bin.below T1.out) hbs (by omega)).mono ?_; rintro e t2 ⟨A32, n32, c32, rfl, ho32, hb32⟩; have T2 := Lib.hid (below_step T1.out hb32); have TO := Lib.hid ho32; clear hb32 ho32) | (go_at_call 23; refine (lwSame_yes _ _ _ _ _ _ (sealN zs5 pn) _ (by rw [← HSA.out]; exact TO.out.bin) (HSE.out.bin.below T2.out)).mono ?_; rintro e t3 ⟨rfl, rfl⟩))
          clear SB V0 T1 TO HSA
          have hb15 := T2.out
          have HB15 := Lib.hid (below_step HB14.out hb15)
          have HA15 := Lib.hid (HA14.out.below hb15)
          have HP15 := Lib.hid (HP14.out.below hb15)
          have HX15 := Lib.hid (HX14.out.below hb15)
          have HD15 := Lib.hid (HD14.out.below hb15)
          have HY15 := Lib.hid (HY14.out.below hb15)
          have HE15 := Lib.hid (HE14.out.below hb15)
          have HF15 := Lib.hid (HF14.out.below hb15)
          have HG15 := Lib.hid (HG14.out.below hb15)
          have HS15 := Lib.hid (HS14.out.below hb15)
          have HZ15 := Lib.hid (HZ14.out.below hb15)
          have HV15 := Lib.hid (HV14.out.below hb15)
          have HW15 := Lib.hid (HW14.out.below hb15)
          have HSE15 := Lib.hid (HSE.out.below hb15)
          clear HB14 HA14 HP14 HX14 HD14 HY14 HE14 HF14 HG14 HS14 HZ14 HV14 HW14 HSE hb15
          have cHZ0 := HZ15.out.look 0
          have cHZ1 := HZ15.out.look 1
          have lHZ := HZ15.out.lt
          obtain ⟨g6, rfl, _, _⟩ := HSE15.out.form (by omega)
          have hbe : Below t3.heap.size t3 (t3.alloc (.cells #[] 5)) := (Below.refl _ _).alloc (Nat.le_refl _) _
          have HN := Lib.hid (HSE15.out.bin.below hbe).news
          have HE0 := Lib.hid (empty_own t3)
          have HBE := Lib.hid hbe
          clear hbe
          obtain ⟨i0, hi, hz0, hz1, hz2'⟩ := info_parts byteInfo
          go_wp2_with (at_builtin; refine wpList_append_own _ rfl (.tmp 165) (.tmp 167) _ rfl t3.heap.size 5 i0 (.int .u8 0) 1 1 Try.underlying22 hi hz0 hz1 hz2' rfl (by decide) _ 0 [] rfl HE0.out ⟨g6, 0, none⟩ n6 c6 ((sealN zs5 pn).map (Value.int .u8)) rfl (by rw [List.length_map, HLS.out, Nat.mul_one]) HN.out (bytes_oneCell _) (by unfold maxLen; omega) (by omega) (by simp) ?_; intro v1 t4 hown4 hg4 hv4)
          clear hi hz0 hz1 hz2' HN HE0 hv4
          have hown5 : t4.ownsRow t3.heap.size 5 1 v1 n6 ((sealN zs5 pn).map (Value.int .u8)) := by rw [Nat.zero_add, List.nil_append] at hown4; exact hown4
          obtain ⟨B9, d9, rfl, ho9⟩ := Own.of_row hown5 (by omega)
          obtain ⟨g9, rfl, hg9, _⟩ := ho9.form (by omega)
          have hb4 : Below t3.heap.size t3 t4 := HBE.out.grown hg4 (by simp) (fun k hk => by injection hk with hk; simp at hk; omega)
          have HO9 := Lib.hid ho9
          clear hown4 hown5 hg4 ho9 HBE
          have SB4 : Hid (wq.heap.size ≤ g9) := Nat.le_trans HB15.out.size hg9
          have HB16 := Lib.hid (below_step HB15.out hb4)
          have HA16 := Lib.hid (HA15.out.below hb4)
          clear HB15 HA15 HP15 HX15 HD15 HY15 HE15 HF15 HG15 HS15 HZ15 HV15 HW15 HSE15 hb4
          go_wp2_with fail
          go_region_with ((first | (go_at_call_of 29 (Value.int IntKind.i64 2); go_loud (refine (lwAt_two A n c cs n6 _ ?_ hb hn (by omega) (by omega)).mono ?_); go_loud (exact HA16.out); go_loud (rintro e t5 ⟨v5, rfl, hv5, q5, rfl⟩); go_loud (obtain ⟨j5, rfl⟩ := Int.eq_ofNat_of_zero_le hv5.1); go_loud (have hj5 : j5 < n6 := by omega); go_loud (have hc5 := HO9.out.cell hj5); go_loud (have hf5 := HO9.out.frozen j5); clear hv5) | (go_at_call_of 29 (Value.int IntKind.i64 3); refine (lwAt_three A n c cs _ ?_ hb hn).mono ?_; exact HA16.out; rintro e t6 ⟨v6, rfl, hv6, q6, rfl⟩; obtain ⟨j6, rfl⟩ := Int.eq_ofNat_of_zero_le hv6.1)))
          all_goals
            go_wp2_with fail
            have hz := hbs.at_ j5
            have hflip := turnedB _ j6 hz.1 hz.2 (by omega)
            rw [List.getD_eq_getElem?_getD] at hflip
            obtain ⟨v, hv⟩ : ∃ v, bits .xor .u8 ((sealN zs5 pn)[j5]?.getD 0) (2 ^ min j6 8 % 256) = v := ⟨_, rfl⟩
            rw [hv] at hflip ⊢
            rw [← List.getD_eq_getElem?_getD] at hflip
            have ho10 : Own (t4.drewN (1 + q5 + q6)) t3.heap.size (some ⟨g9, 0, none⟩) n6 d9 (sealN zs5 pn) := HO9.out
            obtain ⟨ho11, hg11⟩ := ho10.stored j5 v
            have hun := turned_unsealed (sealN zs5 pn) j5 v (by rw [HLS.out]; exact hj5) HSM.out.1 hflip.2.2.1 hflip.2.2.2.1 hflip.2.2.2.2
            have HUN := Lib.hid hun
            have HB11 : Hid (Below wq.heap.size wq _) := (below_drewN HB16.out (1 + q5 + q6)).grown hg11 HB16.out.size (fun r hr => by injection hr with hr; have := SB4.out; omega)
            refine (isSealed_any _ _ _ ((sealN zs5 pn).set j5 v) _ ho11.bin (hbs.set j5 v hflip.1 hflip.2.1) (by omega)).mono ?_
            rw [HUN.out]
            rintro e t7 ⟨rfl, hb7⟩
            have HB12 := Lib.hid (below_step HB11.out hb7)
            clear hb7 ho11 hg11 hun hflip hz hv ho10 hc5 hf5
            go_wp2
            go_ret
            exact ⟨rfl, HB12.out⟩
        · have et : (scode m5 a5 != 0) = true := by rw [bne_iff_ne]; exact ht
          clear ht
          have cHZ0 := HZ14.out.look 0
          have cHZ1 := HZ14.out.look 1
          have lHZ := HZ14.out.lt
          go_wp2_with fail
          clear cHZ0 cHZ1 lHZ
          go_ret
          exact ⟨rfl, HB14.out⟩
      · have e1 : rcode m2 a2 s2 = 3 := if_neg hr
        have c0 := HY13.out.look 0
        have c1 := HY13.out.look 1
        clear hr
        go_quiet (fail)
        clear c0 c1 e1
        obtain ⟨u1, hu1⟩ : ∃ u1 : World, u1 = v28.drewN nq := ⟨_, rfl⟩
        have U1 : Hid (Below v28.heap.size v28 u1) := by rw [hu1]; exact below_drewN (Below.refl _ _) _
        rw [← hu1]
        clear hu1
        have hb14 := U1.out
        have HB14 := Lib.hid (below_step HB13.out hb14)
        have HA14 := Lib.hid (HA13.out.below hb14)
        have HP14 := Lib.hid (HP13.out.below hb14)
        have HX14 := Lib.hid (HX13.out.below hb14)
        have HD14 := Lib.hid (HD13.out.below hb14)
        have HY14 := Lib.hid (HY13.out.below hb14)
        have HE14 := Lib.hid (HE13.out.below hb14)
        have HF14 := Lib.hid (HF13.out.below hb14)
        have HG14 := Lib.hid (HG13.out.below hb14)
        have HS14 := Lib.hid (HS13.out.below hb14)
        have HZ14 := Lib.hid (HZ13.out.below hb14)
        have HV14 := Lib.hid (HV13.out.below hb14)
        have HW14 := Lib.hid (HW13.out.below hb14)
        clear HB13 HA13 HP13 HX13 HD13 HY13 HE13 HF13 HG13 HS13 HZ13 HV13 HW13 hb14
        by_cases ht : scode m5 a5 = 0
        · have et : (scode m5 a5 != 0) = false := by rw [ht]; rfl
          have ho : sOK m5 a5 := scode_zero ht
          clear ht
          obtain ⟨pn, rfl⟩ := Int.eq_ofNat_of_zero_le ho.2.1
          have hp5 : pn + 2 ≤ m5 := by have := ho.2.2; omega
          have hm54 : m5 ≤ 400 := ho.1
          have hl5 := HG14.out.len
          have hsb : sbytes zs5 (pn : Int) = sealN zs5 pn := by unfold sbytes; rw [hl5, if_pos ho]; simp
          have HSE : Hid (Own u1 w8.heap.size A6 n6 c6 (sealN zs5 pn)) := by have h' := HS14.out; rw [hsb] at h'; exact h'
          obtain rfl : n6 = m5 := by have := HSE.out.len; rw [sealN_len, hl5] at this; exact this.symm
          have HSD : Hid (sealedB (sealN zs5 pn) = true) := sealN_sealed zs5 pn (by omega) (by omega)
          have HSA : Hid (sbytes (sealN zs5 pn) (pn : Int) = sealN zs5 pn) := by unfold Hid sbytes; rw [sealN_len, hl5, if_pos ho]; simpa using sealN_again zs5 pn (by omega)
          have HLS : Hid ((sealN zs5 pn).length = n6) := HSE.out.len
          have hbs : Bytes (sealN zs5 pn) := sealN_bytes hz5 pn
          have HSM := Lib.hid (sealN_sums zs5 pn (by omega))
          clear ho hsb hl5
          have cHZ0 := HZ14.out.look 0
          have cHZ1 := HZ14.out.look 1
          have lHZ := HZ14.out.lt
          go_wp2_with fail
          clear cHZ0 cHZ1 lHZ
          clear et
          have SB : Hid (∀ W', Hid (Below u1.heap.size u1 W') → (fun W' => W'.cell? ⟨w9.heap.size, 1, none⟩ = some (.slice A6 n6 c6)) W') := fun W' hb' => (HZ14.out.below hb'.out).look 1
          have V0 : Hid (Below u1.heap.size u1 u1.drew) := (Below.refl _ _).drew
          go_region_held3 (fun W' => W'.cell? ⟨w9.heap.size, 1, none⟩ = some (.slice A6 n6 c6)) (exact SB.out _ (by assumption))
            (first | (go_at_call 25; refine (isSealed_any _ _ _ (sealN zs5 pn) _ (HSE.out.bin.below V0.out) hbs (by omega)).mono ?_; rw [HSD.out]; rintro e t1 ⟨rfl, hb31⟩; have T1 := Lib.hid (below_step V0.out hb31); clear hb31) | (go_at_call 17; refine (seal_any _ _ _ (sealN zs5 pn) (pn : Int) _ (HSE.out.bin.below T1.out) hbs (by omega)).mono ?_; rintro e t2 ⟨A32, n32, c32, rfl, ho32, hb32⟩; have T2 := Lib.hid (below_step T1.out hb32); have TO := Lib.hid ho32; clear hb32 ho32) | (go_at_call 23; refine (lwSame_yes _ _ _ _ _ _ (sealN zs5 pn) _ (by rw [← HSA.out]; exact TO.out.bin) (HSE.out.bin.below T2.out)).mono ?_; rintro e t3 ⟨rfl, rfl⟩))
          clear SB V0 T1 TO HSA
          have hb15 := T2.out
          have HB15 := Lib.hid (below_step HB14.out hb15)
          have HA15 := Lib.hid (HA14.out.below hb15)
          have HP15 := Lib.hid (HP14.out.below hb15)
          have HX15 := Lib.hid (HX14.out.below hb15)
          have HD15 := Lib.hid (HD14.out.below hb15)
          have HY15 := Lib.hid (HY14.out.below hb15)
          have HE15 := Lib.hid (HE14.out.below hb15)
          have HF15 := Lib.hid (HF14.out.below hb15)
          have HG15 := Lib.hid (HG14.out.below hb15)
          have HS15 := Lib.hid (HS14.out.below hb15)
          have HZ15 := Lib.hid (HZ14.out.below hb15)
          have HV15 := Lib.hid (HV14.out.below hb15)
          have HW15 := Lib.hid (HW14.out.below hb15)
          have HSE15 := Lib.hid (HSE.out.below hb15)
          clear HB14 HA14 HP14 HX14 HD14 HY14 HE14 HF14 HG14 HS14 HZ14 HV14 HW14 HSE hb15
          have cHZ0 := HZ15.out.look 0
          have cHZ1 := HZ15.out.look 1
          have lHZ := HZ15.out.lt
          obtain ⟨g6, rfl, _, _⟩ := HSE15.out.form (by omega)
          have hbe : Below t3.heap.size t3 (t3.alloc (.cells #[] 5)) := (Below.refl _ _).alloc (Nat.le_refl _) _
          have HN := Lib.hid (HSE15.out.bin.below hbe).news
          have HE0 := Lib.hid (empty_own t3)
          have HBE := Lib.hid hbe
          clear hbe
          obtain ⟨i0, hi, hz0, hz1, hz2'⟩ := info_parts byteInfo
          go_wp2_with (at_builtin; refine wpList_append_own _ rfl (.tmp 165) (.tmp 167) _ rfl t3.heap.size 5 i0 (.int .u8 0) 1 1 Try.underlying22 hi hz0 hz1 hz2' rfl (by decide) _ 0 [] rfl HE0.out ⟨g6, 0, none⟩ n6 c6 ((sealN zs5 pn).map (Value.int .u8)) rfl (by rw [List.length_map, HLS.out, Nat.mul_one]) HN.out (bytes_oneCell _) (by unfold maxLen; omega) (by omega) (by simp) ?_; intro v1 t4 hown4 hg4 hv4)
          clear hi hz0 hz1 hz2' HN HE0 hv4
          have hown5 : t4.ownsRow t3.heap.size 5 1 v1 n6 ((sealN zs5 pn).map (Value.int .u8)) := by rw [Nat.zero_add, List.nil_append] at hown4; exact hown4
          obtain ⟨B9, d9, rfl, ho9⟩ := Own.of_row hown5 (by omega)
          obtain ⟨g9, rfl, hg9, _⟩ := ho9.form (by omega)
          have hb4 : Below t3.heap.size t3 t4 := HBE.out.grown hg4 (by simp) (fun k hk => by injection hk with hk; simp at hk; omega)
          have HO9 := Lib.hid ho9
          clear hown4 hown5 hg4 ho9 HBE
          have SB4 : Hid (wq.heap.size ≤ g9) := Nat.le_trans HB15.out.size hg9
          have HB16 := Lib.hid (below_step HB15.out hb4)
          have HA16 := Lib.hid (HA15.out.below hb4)
          clear HB15 HA15 HP15 HX15 HD15 HY15 HE15 HF15 HG15 HS15 HZ15 HV15 HW15 HSE15 hb4
          go_wp2_with fail
          go_region_with ((first | (go_at_call_of 29 (Value.int IntKind.i64 2); go_loud (refine (lwAt_two A n c cs n6 _ ?_ hb hn (by omega) (by omega)).mono ?_); go_loud (exact HA16.out); go_loud (rintro e t5 ⟨v5, rfl, hv5, q5, rfl⟩); go_loud (obtain ⟨j5, rfl⟩ := Int.eq_ofNat_of_zero_le hv5.1); go_loud (have hj5 : j5 < n6 := by omega); go_loud (have hc5 := HO9.out.cell hj5); go_loud (have hf5 := HO9.out.frozen j5); clear hv5) | (go_at_call_of 29 (Value.int IntKind.i64 3); refine (lwAt_three A n c cs _ ?_ hb hn).mono ?_; exact HA16.out; rintro e t6 ⟨v6, rfl, hv6, q6, rfl⟩; obtain ⟨j6, rfl⟩ := Int.eq_ofNat_of_zero_le hv6.1)))
          all_goals
            go_wp2_with fail
            have hz := hbs.at_ j5
            have hflip := turnedB _ j6 hz.1 hz.2 (by omega)
            rw [List.getD_eq_getElem?_getD] at hflip
            obtain ⟨v, hv⟩ : ∃ v, bits .xor .u8 ((sealN zs5 pn)[j5]?.getD 0) (2 ^ min j6 8 % 256) = v := ⟨_, rfl⟩
            rw [hv] at hflip ⊢
            rw [← List.getD_eq_getElem?_getD] at hflip
            have ho10 : Own (t4.drewN (1 + q5 + q6)) t3.heap.size (some ⟨g9, 0, none⟩) n6 d9 (sealN zs5 pn) := HO9.out
            obtain ⟨ho11, hg11⟩ := ho10.stored j5 v
            have hun := turned_unsealed (sealN zs5 pn) j5 v (by rw [HLS.out]; exact hj5) HSM.out.1 hflip.2.2.1 hflip.2.2.2.1 hflip.2.2.2.2
            have HUN := Lib.hid hun
            have HB11 : Hid (Below wq.heap.size wq _) := (below_drewN HB16.out (1 + q5 + q6)).grown hg11 HB16.out.size (fun r hr => by injection hr with hr; have := SB4.out; omega)
            refine (isSealed_any _ _ _ ((sealN zs5 pn).set j5 v) _ ho11.bin (hbs.set j5 v hflip.1 hflip.2.1) (by omega)).mono ?_
            rw [HUN.out]
            rintro e t7 ⟨rfl, hb7⟩
            have HB12 := Lib.hid (below_step HB11.out hb7)
            clear hb7 ho11 hg11 hun hflip hz hv ho10 hc5 hf5
            go_wp2
            go_ret
            exact ⟨rfl, HB12.out⟩
        · have et : (scode m5 a5 != 0) = true := by rw [bne_iff_ne]; exact ht
          clear ht
          have cHZ0 := HZ14.out.look 0
          have cHZ1 := HZ14.out.look 1
          have lHZ := HZ14.out.lt
          go_wp2_with fail
          clear cHZ0 cHZ1 lHZ
          go_ret
          exact ⟨rfl, HB14.out⟩

end Go.Proofs.Ytbcfpgplkkggbaa
