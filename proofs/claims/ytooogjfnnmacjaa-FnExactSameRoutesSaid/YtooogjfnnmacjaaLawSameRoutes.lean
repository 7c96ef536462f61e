/-
  The walk of the law FnExactSameRoutes: the program's SameRoutes answers as the model's.
-/
import Derived.Test.YtooogjfnnmacjaaSameRoute
import Derived.Test.YtooogjfnnmacjaaOpenRoute
import Derived.Test.YtooogjfnnmacjaaOpenBase
namespace Go.Proofs.Ytooogjfnnmacjaa
open Go.RowKit
set_option linter.unusedVariables false

set_option maxRecDepth 100000 in
set_option maxHeartbeats 3200000 in
theorem law_SameRoutes (ys0 : List Rt) (q0 : Bool) (lo0 hi0 : Nat) (A0 : Option Addr) (n0 c0 : Nat) (ys1 : List Rt) (q1 : Bool) (lo1 hi1 : Nat) (A1 : Option Addr) (n1 c1 : Nat) (w : World) (ha0 : Rep.route.Sl q0 lo0 hi0 w A0 n0 ys0) (hh0 : hi0 ≤ w.heap.size) (hn0 : n0 ≤ maxLen) (hm0 : ∀ y ∈ ys0, y.hops.length ≤ maxLen) (ha1 : Rep.route.Sl q1 lo1 hi1 w A1 n1 ys1) (hh1 : hi1 ≤ w.heap.size) (hn1 : n1 ≤ maxLen) (hm1 : ∀ y ∈ ys1, y.hops.length ≤ maxLen) :
    Calls Try.prog 9 #[.slice A0 n0 c0, .slice A1 n1 c1] w fun e w' => e = .returned (.bool true) ∧ Below w.heap.size w w' := by
  have hle0 := szSS_bd (rtRows ys0) 1048576 (by omega)
  by_cases hbig0 : szSS 1048576 (rtRows ys0) < 0
  · have HB := Lib.hid (Below.refl w.heap.size w)
    have HA0 := Rep.Sl.kept ha0 hh0
    have HMX0 := Lib.hid hm0
    clear ha0 hm0
    have HA1 := Rep.Sl.kept ha1 hh1
    have HMX1 := Lib.hid hm1
    clear ha1 hm1
    have HR0 := Lib.hid (szSS_neg (rtRows ys0) 1048576 hbig0)
    clear hbig0 hle0
    go_enter Try.func9, Try.ntmps9
    go_wp2_with fail
    refine (szRouteS_any q0 lo0 hi0 A0 n0 c0 ys0 (1048576) _ HA0.sl HA0.le hn0 HMX0.out (by omega) (by omega)).mono ?_
    rw [HR0.out]
    rintro e w1 ⟨rfl, hb⟩
    have Z1 := Lib.hid hb.size
    replace HA0 := HA0.below hb
    replace HA1 := HA1.below hb
    replace HB := Lib.hid (below_step HB.out hb)
    clear hb
    go_wp2
    go_ret
    exact ⟨rfl, HB.out⟩
  have hsz0 := szSS_nonneg (show (0 : Int) ≤ 1048576 by omega) (show 0 ≤ szSS 1048576 (rtRows ys0) by omega)
  obtain ⟨r0, hr0⟩ : ∃ r, szSS 1048576 (rtRows ys0) = r := ⟨_, rfl⟩
  rw [hr0] at hle0 hbig0 hsz0
  have HR0 := Lib.hid hr0
  have hln0 := ha0.1
  rw [rtRows_len, hln0] at hsz0
  have hN0 : n0 ≤ 1048576 := by omega
  have HM0 : Hid (∀ y ∈ ys0, y.hops.length ≤ 1048576) := Lib.hid (fun y hy => by obtain ⟨i, hi, rfl⟩ := List.getElem_of_mem hy; have := tot_rt (List.getElem?_eq_getElem hi); omega)
  have hz0 : 0 ≤ r0 := by omega
  clear hr0 hln0 hsz0 hbig0
  have hle1 := szSS_bd (rtRows ys1) r0 (by omega)
  by_cases hbig1 : szSS r0 (rtRows ys1) < 0
  · have HB := Lib.hid (Below.refl w.heap.size w)
    have HA0 := Rep.Sl.kept ha0 hh0
    have HMX0 := Lib.hid hm0
    clear ha0 hm0
    have HA1 := Rep.Sl.kept ha1 hh1
    have HMX1 := Lib.hid hm1
    clear ha1 hm1
    have HR1 := Lib.hid (szSS_neg (rtRows ys1) r0 hbig1)
    clear hbig1 hle1
    go_enter Try.func9, Try.ntmps9
    go_wp2_with fail
    refine (szRouteS_any q0 lo0 hi0 A0 n0 c0 ys0 (1048576) _ HA0.sl HA0.le hn0 HMX0.out (by omega) (by omega)).mono ?_
    rw [HR0.out]
    rintro e w1 ⟨rfl, hb⟩
    have Z1 := Lib.hid hb.size
    replace HA0 := HA0.below hb
    replace HA1 := HA1.below hb
    replace HB := Lib.hid (below_step HB.out hb)
    clear hb
    go_wp2_with fail
    refine (szRouteS_any q1 lo1 hi1 A1 n1 c1 ys1 (r0) _ HA1.sl HA1.le hn1 HMX1.out (by omega) (by omega)).mono ?_
    rw [HR1.out]
    rintro e w2 ⟨rfl, hb⟩
    have Z2 := Lib.hid hb.size
    replace HA0 := HA0.below hb
    replace HA1 := HA1.below hb
    replace HB := Lib.hid (below_step HB.out hb)
    clear hb
    go_wp2
    go_ret
    exact ⟨rfl, HB.out⟩
  have hsz1 := szSS_nonneg (show (0 : Int) ≤ r0 by omega) (show 0 ≤ szSS r0 (rtRows ys1) by omega)
  obtain ⟨r1, hr1⟩ : ∃ r, szSS r0 (rtRows ys1) = r := ⟨_, rfl⟩
  rw [hr1] at hle1 hbig1 hsz1
  have HR1 := Lib.hid hr1
  have hln1 := ha1.1
  rw [rtRows_len, hln1] at hsz1
  have hN1 : n1 ≤ 1048576 := by omega
  have HM1 : Hid (∀ y ∈ ys1, y.hops.length ≤ 1048576) := Lib.hid (fun y hy => by obtain ⟨i, hi, rfl⟩ := List.getElem_of_mem hy; have := tot_rt (List.getElem?_eq_getElem hi); omega)
  have hz1 : 0 ≤ r1 := by omega
  clear hr1 hln1 hsz1 hbig1
  have HB := Lib.hid (Below.refl w.heap.size w)
  have HA0 := Rep.Sl.kept ha0 hh0
  have HMX0 := Lib.hid hm0
  clear ha0 hm0
  have HA1 := Rep.Sl.kept ha1 hh1
  have HMX1 := Lib.hid hm1
  clear ha1 hm1
  obtain ⟨r, hr⟩ := is_of (ys0 = ys1)
  have HRR := Lib.hid hr
  clear hr
  go_enter Try.func9, Try.ntmps9
  go_wp2_with fail
  refine (szRouteS_any q0 lo0 hi0 A0 n0 c0 ys0 (1048576) _ HA0.sl HA0.le hn0 HMX0.out (by omega) (by omega)).mono ?_
  rw [HR0.out]
  rintro e w1 ⟨rfl, hb⟩
  have Z1 := Lib.hid hb.size
  replace HA0 := HA0.below hb
  replace HA1 := HA1.below hb
  replace HB := Lib.hid (below_step HB.out hb)
  clear hb
  go_wp2_with fail
  refine (szRouteS_any q1 lo1 hi1 A1 n1 c1 ys1 (r0) _ HA1.sl HA1.le hn1 HMX1.out (by omega) (by omega)).mono ?_
  rw [HR1.out]
  rintro e w2 ⟨rfl, hb⟩
  have Z2 := Lib.hid hb.size
  replace HA0 := HA0.below hb
  replace HA1 := HA1.below hb
  replace HB := Lib.hid (below_step HB.out hb)
  clear hb
  go_wp2_with fail
  refine (toRouteS_any q0 lo0 hi0 A0 n0 c0 ys0 _ HA0.sl HA0.le hN0 HM0.out).mono ?_
  rintro e w3 ⟨rfl, hk, hb⟩
  have Z3 := Lib.hid hb.size
  replace HA0 := HA0.below hb
  replace HA1 := HA1.below hb
  replace HB := Lib.hid (below_step HB.out hb)
  clear hb
  have HS0 := FRepK.kept hk (Nat.le_refl _); clear hk
  go_wp2_with fail
  refine (toRouteS_any q1 lo1 hi1 A1 n1 c1 ys1 _ HA1.sl HA1.le hN1 HM1.out).mono ?_
  rintro e w4 ⟨rfl, hk, hb⟩
  have Z4 := Lib.hid hb.size
  replace HA0 := HA0.below hb
  replace HA1 := HA1.below hb
  replace HS0 := HS0.below hb
  replace HB := Lib.hid (below_step HB.out hb)
  clear hb
  have HS1 := FRepK.kept hk (Nat.le_refl _); clear hk
  go_wp2_with fail
  refine (specSameRoutes_any true true _ _ _ _ (some ⟨w2.heap.size, 0, none⟩) (some ⟨w3.heap.size, 0, none⟩) n0 n1 n0 n1 ys0 ys1 r _ HS0.routes HS1.routes HS0.le HS1.le hN0 hN1 HM0.out HM1.out HRR.out).mono ?_
  rintro e w5 ⟨rfl, hb⟩
  have Z5 := Lib.hid hb.size
  replace HA0 := HA0.below hb
  replace HA1 := HA1.below hb
  replace HS0 := HS0.below hb
  replace HS1 := HS1.below hb
  replace HB := Lib.hid (below_step HB.out hb)
  clear hb
  clear HS0
  clear HS1
  go_wp2_with fail
  refine (toRouteS_any q0 lo0 hi0 A0 n0 c0 ys0 _ HA0.sl HA0.le hN0 HM0.out).mono ?_
  rintro e w6 ⟨rfl, hk, hb⟩
  have Z6 := Lib.hid hb.size
  replace HA0 := HA0.below hb
  replace HA1 := HA1.below hb
  replace HB := Lib.hid (below_step HB.out hb)
  clear hb
  have HG0 := FRepK.kept hk (Nat.le_refl _); clear hk
  go_wp2_with fail
  refine (toRouteS_any q1 lo1 hi1 A1 n1 c1 ys1 _ HA1.sl HA1.le hN1 HM1.out).mono ?_
  rintro e w7 ⟨rfl, hk, hb⟩
  have Z7 := Lib.hid hb.size
  replace HA0 := HA0.below hb
  replace HA1 := HA1.below hb
  replace HG0 := HG0.below hb
  replace HB := Lib.hid (below_step HB.out hb)
  clear hb
  have HG1 := FRepK.kept hk (Nat.le_refl _); clear hk
  go_wp2_with fail
  refine (sameRoutes_any true true _ _ _ _ (some ⟨w5.heap.size, 0, none⟩) (some ⟨w6.heap.size, 0, none⟩) n0 n1 n0 n1 ys0 ys1 r _ HG0.routes HG1.routes HG0.le HG1.le hN0 hN1 HM0.out HM1.out HRR.out).mono ?_
  rintro e w8 ⟨rfl, hb⟩
  have Z8 := Lib.hid hb.size
  replace HA0 := HA0.below hb
  replace HA1 := HA1.below hb
  replace HG0 := HG0.below hb
  replace HG1 := HG1.below hb
  replace HB := Lib.hid (below_step HB.out hb)
  clear hb
  go_wp2_with fail
  refine (toRouteS_any q0 lo0 hi0 A0 n0 c0 ys0 _ HA0.sl HA0.le hN0 HM0.out).mono ?_
  rintro e w9 ⟨rfl, hk, hb⟩
  have Z9 := Lib.hid hb.size
  replace HA0 := HA0.below hb
  replace HA1 := HA1.below hb
  replace HG0 := HG0.below hb
  replace HG1 := HG1.below hb
  replace HB := Lib.hid (below_step HB.out hb)
  clear hb
  have HZ0 := FRepK.kept hk (Nat.le_refl _); clear hk
  go_wp2_with fail
  refine (eqRouteS_yes true true _ _ _ _ (some ⟨w5.heap.size, 0, none⟩) (some ⟨w8.heap.size, 0, none⟩) n0 n0 n0 ys0 _ HG0.routes HZ0.routes HG0.le HZ0.le hN0 HM0.out).mono ?_
  rintro e w10 ⟨rfl, hb⟩
  have Z10 := Lib.hid hb.size
  replace HA0 := HA0.below hb
  replace HA1 := HA1.below hb
  replace HG0 := HG0.below hb
  replace HG1 := HG1.below hb
  replace HZ0 := HZ0.below hb
  replace HB := Lib.hid (below_step HB.out hb)
  clear hb
  clear HZ0
  go_wp2_with fail
  refine (toRouteS_any q1 lo1 hi1 A1 n1 c1 ys1 _ HA1.sl HA1.le hN1 HM1.out).mono ?_
  rintro e w11 ⟨rfl, hk, hb⟩
  have Z11 := Lib.hid hb.size
  replace HA0 := HA0.below hb
  replace HA1 := HA1.below hb
  replace HG0 := HG0.below hb
  replace HG1 := HG1.below hb
  replace HB := Lib.hid (below_step HB.out hb)
  clear hb
  have HZ1 := FRepK.kept hk (Nat.le_refl _); clear hk
  go_wp2_with fail
  refine (eqRouteS_yes true true _ _ _ _ (some ⟨w6.heap.size, 0, none⟩) (some ⟨w10.heap.size, 0, none⟩) n1 n1 n1 ys1 _ HG1.routes HZ1.routes HG1.le HZ1.le hN1 HM1.out).mono ?_
  rintro e w12 ⟨rfl, hb⟩
  have Z12 := Lib.hid hb.size
  replace HA0 := HA0.below hb
  replace HA1 := HA1.below hb
  replace HG0 := HG0.below hb
  replace HG1 := HG1.below hb
  replace HZ1 := HZ1.below hb
  replace HB := Lib.hid (below_step HB.out hb)
  clear hb
  clear HZ1
  go_wp2
  go_ret
  exact ⟨rfl, HB.out⟩

end Go.Proofs.Ytooogjfnnmacjaa
