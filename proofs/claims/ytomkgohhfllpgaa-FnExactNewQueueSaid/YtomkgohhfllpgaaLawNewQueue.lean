/-
  The walk of the law FnExactNewQueue: the program's NewQueue answers as the model's, in new memory.
-/
import Derived.Test.YtomkgohhfllpgaaNewQueue
namespace Go.Proofs.Ytomkgohhfllpgaa
open Go.RowKit
set_option linter.unusedVariables false

set_option maxRecDepth 100000 in
set_option maxHeartbeats 3200000 in
theorem law_NewQueue (a0 : Int) (w : World)  :
    Calls Try.prog 6 #[.int .i64 a0] w fun e w' => e = .returned (.bool true) ∧ Below w.heap.size w w' := by
  have HB := Lib.hid (Below.refl w.heap.size w)
  obtain ⟨r, hr⟩ : ∃ z, nqC a0 = z := ⟨_, rfl⟩
  have HRr := Lib.hid hr
  clear hr
  obtain ⟨x, hr⟩ : ∃ z, nqV a0 = z := ⟨_, rfl⟩
  have HRx := Lib.hid hr
  clear hr
  obtain ⟨p, hr⟩ : ∃ z, false = z := ⟨_, rfl⟩
  have HRp := Lib.hid hr
  clear hr
  obtain ⟨us, hr⟩ : ∃ z, ([] : List Tmr) = z := ⟨_, rfl⟩
  have HRus := Lib.hid hr
  clear hr
  obtain ⟨t, hr⟩ : ∃ z, false = z := ⟨_, rfl⟩
  have HRt := Lib.hid hr
  clear hr
  obtain ⟨zs, hr⟩ : ∃ z, ([] : List Tmr) = z := ⟨_, rfl⟩
  have HRzs := Lib.hid hr
  clear hr
  obtain rfl := HRp.out
  obtain rfl := HRt.out
  obtain rfl := HRus.out
  obtain rfl := HRzs.out
  have HBD : Hid (([] : List Tmr).length ≤ 1048576 ∧ ([] : List Tmr).length ≤ 1048576) := Lib.hid ⟨by simp, by simp⟩
  go_enter Try.func6, Try.ntmps6
  go_wp2_with fail
  refine (specNewQueue_any a0 _).mono ?_
  rw [HRr.out, HRx.out]
  rintro e w1 ⟨O0, j0, k0, E0, m0, d0, rfl, hk, hb⟩
  have Z1 := Lib.hid hb.size
  replace HB := Lib.hid (below_step HB.out hb)
  clear hb
  have HO0 := hk; clear hk
  have HQ : Hid (([] : List Tmr).length = j0 ∧ ([] : List Tmr).length = m0) := Lib.hid ⟨HO0.q_list.1, HO0.q_items.1⟩
  have hj0 : j0 ≤ 1048576 := by have := HQ.out.1; have := HBD.out.1; omega
  have hm0 : m0 ≤ 1048576 := by have := HQ.out.2; have := HBD.out.2; omega
  go_wp2_with fail
  refine Calls.name ?_
  intro U2 hU2
  have hb : Below w1.heap.size w1 U2 := by rw [hU2]; exact ((Below.refl _ _).alloc (Nat.le_refl _) _)
  have zz : Hid (w1.heap.size + 1 = U2.heap.size) := Lib.hid (by rw [hU2]; simp)
  have HX1 : Kept w1.heap.size (w1.heap.size + 1) (BoxK w1.heap.size 30 #[.int .i64 r, .int .i64 x, .bool false, .slice O0 j0 k0, .bool false, .slice E0 m0 d0]) U2 := by rw [hU2]; exact Kept.box (Box.made_at _ _ _ rfl)
  replace HO0 := HO0.below hb
  replace HB := Lib.hid (below_step HB.out hb)
  clear hb
  have Z2 := zz; clear zz
  clear hU2
  refine (newQueue_any a0 _).mono ?_
  rw [HRr.out, HRx.out]
  rintro e w3 ⟨O1, j1, k1, E1, m1, d1, rfl, hk, hb⟩
  have Z3 := Lib.hid hb.size
  replace HO0 := HO0.below hb
  replace HX1 := HX1.below hb
  replace HB := Lib.hid (below_step HB.out hb)
  clear hb
  have HO1 := hk; clear hk
  obtain rfl : j0 = j1 := by have := HO1.q_list.1; have := HO0.q_list.1; omega
  obtain rfl : m0 = m1 := by have := HO1.q_items.1; have := HO0.q_items.1; omega
  have c3_0 := HX1.look 0
  have c3_1 := HX1.look 1
  have c3_2 := HX1.look 2
  have c3_3 := HX1.look 3
  have c3_4 := HX1.look 4
  have c3_5 := HX1.look 5
  have l3_0 := HX1.bx.lt
  go_wp2_with fail
  clear c3_0 c3_1 c3_2 c3_3 c3_4 c3_5 l3_0
  refine Calls.name ?_
  intro U4 hU4
  have hb : Below w3.heap.size w3 U4 := by rw [hU4]; exact ((Below.refl _ _).alloc (Nat.le_refl _) _)
  have zz : Hid (w3.heap.size + 1 = U4.heap.size) := Lib.hid (by rw [hU4]; simp)
  have HX2 : Kept w3.heap.size (w3.heap.size + 1) (BoxK w3.heap.size 30 #[.int .i64 r, .int .i64 x, .bool false, .slice O1 j0 k1, .bool false, .slice E1 m0 d1]) U4 := by rw [hU4]; exact Kept.box (Box.made_at _ _ _ rfl)
  replace HO0 := HO0.below hb
  replace HX1 := HX1.below hb
  replace HO1 := HO1.below hb
  replace HB := Lib.hid (below_step HB.out hb)
  clear hb
  have Z4 := zz; clear zz
  clear hU4
  refine (eqQueueResult_yes r x false false true true _ _ _ _ O1 O0 j0 k1 k0 [] _ _ _ _ E1 E0 m0 d1 d0 [] _ HO1.q_list HO0.q_list HO1.le HO0.le hj0 HO1.q_items HO0.q_items HO1.le HO0.le hm0).mono ?_
  rintro e w5 ⟨rfl, hb⟩
  have Z5 := Lib.hid hb.size
  replace HO0 := HO0.below hb
  replace HX1 := HX1.below hb
  replace HO1 := HO1.below hb
  replace HX2 := HX2.below hb
  replace HB := Lib.hid (below_step HB.out hb)
  clear hb
  have c4_0 := HX2.look 0
  have c4_1 := HX2.look 1
  have c4_2 := HX2.look 2
  have c4_3 := HX2.look 3
  have c4_4 := HX2.look 4
  have c4_5 := HX2.look 5
  have l4_0 := HX1.bx.lt
  have l4_1 := HX2.bx.lt
  go_wp2_with fail
  clear c4_0 c4_1 c4_2 c4_3 c4_4 c4_5 l4_0 l4_1
  obtain ⟨bs, cs, hfr, hfs, hnd, hin⟩ := HO1.out
  have HLE := HO1.le
  refine (markQueueResult_F r x false false O1 j0 k1 [] E1 m0 d1 [] bs cs 1 _ hfr hfs hnd (fun b hb => Nat.lt_of_lt_of_le (hin b hb).2 HLE) hj0 hm0 (by omega) (by omega)).mono ?_
  rintro e w6 ⟨rfl, hfr2, hfs2, hob⟩
  have ho := hob.only hin
  have Z6 := Lib.hid ho.size
  replace HO0 := HO0.only ho (by have := Z1.out; have := Z2.out; have := Z3.out; have := Z4.out; have := Z5.out; have := Z6.out; omega)
  replace HX1 := HX1.only ho (by have := Z1.out; have := Z2.out; have := Z3.out; have := Z4.out; have := Z5.out; have := Z6.out; omega)
  replace HX2 := HX2.only ho (by have := Z1.out; have := Z2.out; have := Z3.out; have := Z4.out; have := Z5.out; have := Z6.out; omega)
  replace HB := Lib.hid (Below.only HB.out ho (by have := Z1.out; have := Z2.out; have := Z3.out; have := Z4.out; have := Z5.out; have := Z6.out; omega) HB.out.size)
  have HM := QK.kept (us := mTimers 1 j0) (zs := mTimers (1 + 4 * (j0 : Int)) m0) ⟨bs, cs, hfr2, hfs2, hnd, hin⟩ (Nat.le_trans HLE ho.size); clear HO1 hob ho hfr hfs hnd hin hfr2 hfs2 HLE
  have hq1 : ¬ (1 + 4 * (j0 : Int) + 4 * (m0 : Int) < 0) := by omega
  have c5_0 := HX2.look 0
  have c5_1 := HX2.look 1
  have c5_2 := HX2.look 2
  have c5_3 := HX2.look 3
  have c5_4 := HX2.look 4
  have c5_5 := HX2.look 5
  have l5_0 := HX1.bx.lt
  have l5_1 := HX2.bx.lt
  go_wp2_with fail
  clear c5_0 c5_1 c5_2 c5_3 c5_4 c5_5 l5_0 l5_1
  refine (heldQueueResult_yes true true _ _ _ _ r x false false O1 j0 k1 E1 m0 d1 1 _ HM.q_list HM.q_items HM.le HM.le hj0 hm0 (by omega) (by omega)).mono ?_
  rintro e w7 ⟨rfl, hb⟩
  have Z7 := Lib.hid hb.size
  replace HO0 := HO0.below hb
  replace HX1 := HX1.below hb
  replace HX2 := HX2.below hb
  replace HM := HM.below hb
  replace HB := Lib.hid (below_step HB.out hb)
  clear hb
  have l6_0 := HX1.bx.lt
  have l6_1 := HX2.bx.lt
  go_wp2_with fail
  clear l6_0 l6_1
  refine (newQueue_any a0 _).mono ?_
  rw [HRr.out, HRx.out]
  rintro e w8 ⟨O2, j2, k2, E2, m2, d2, rfl, hk, hb⟩
  have Z8 := Lib.hid hb.size
  replace HO0 := HO0.below hb
  replace HX1 := HX1.below hb
  replace HX2 := HX2.below hb
  replace HM := HM.below hb
  replace HB := Lib.hid (below_step HB.out hb)
  clear hb
  have HO2 := hk; clear hk
  obtain rfl : j0 = j2 := by have := HO2.q_list.1; have := HO0.q_list.1; omega
  obtain rfl : m0 = m2 := by have := HO2.q_items.1; have := HO0.q_items.1; omega
  have c7_0 := HX1.look 0
  have c7_1 := HX1.look 1
  have c7_2 := HX1.look 2
  have c7_3 := HX1.look 3
  have c7_4 := HX1.look 4
  have c7_5 := HX1.look 5
  have l7_0 := HX1.bx.lt
  have l7_1 := HX2.bx.lt
  go_wp2_with fail
  clear c7_0 c7_1 c7_2 c7_3 c7_4 c7_5 l7_0 l7_1
  refine Calls.name ?_
  intro U9 hU9
  have hb : Below w8.heap.size w8 U9 := by rw [hU9]; exact ((Below.refl _ _).alloc (Nat.le_refl _) _)
  have zz : Hid (w8.heap.size + 1 = U9.heap.size) := Lib.hid (by rw [hU9]; simp)
  have HX3 : Kept w8.heap.size (w8.heap.size + 1) (BoxK w8.heap.size 30 #[.int .i64 r, .int .i64 x, .bool false, .slice O2 j0 k2, .bool false, .slice E2 m0 d2]) U9 := by rw [hU9]; exact Kept.box (Box.made_at _ _ _ rfl)
  replace HO0 := HO0.below hb
  replace HX1 := HX1.below hb
  replace HX2 := HX2.below hb
  replace HM := HM.below hb
  replace HO2 := HO2.below hb
  replace HB := Lib.hid (below_step HB.out hb)
  clear hb
  have Z9 := zz; clear zz
  clear hU9
  refine (eqQueueResult_yes r x false false true true _ _ _ _ O2 O0 j0 k2 k0 [] _ _ _ _ E2 E0 m0 d2 d0 [] _ HO2.q_list HO0.q_list HO2.le HO0.le hj0 HO2.q_items HO0.q_items HO2.le HO0.le hm0).mono ?_
  rintro e w10 ⟨rfl, hb⟩
  have Z10 := Lib.hid hb.size
  replace HO0 := HO0.below hb
  replace HX1 := HX1.below hb
  replace HX2 := HX2.below hb
  replace HM := HM.below hb
  replace HO2 := HO2.below hb
  replace HX3 := HX3.below hb
  replace HB := Lib.hid (below_step HB.out hb)
  clear hb
  have c8_0 := HX2.look 0
  have c8_1 := HX2.look 1
  have c8_2 := HX2.look 2
  have c8_3 := HX2.look 3
  have c8_4 := HX2.look 4
  have c8_5 := HX2.look 5
  have l8_0 := HX1.bx.lt
  have l8_1 := HX2.bx.lt
  have l8_2 := HX3.bx.lt
  go_wp2_with fail
  clear c8_0 c8_1 c8_2 c8_3 c8_4 c8_5 l8_0 l8_1 l8_2
  refine (heldQueueResult_yes true true _ _ _ _ r x false false O1 j0 k1 E1 m0 d1 1 _ HM.q_list HM.q_items HM.le HM.le hj0 hm0 (by omega) (by omega)).mono ?_
  rintro e w11 ⟨rfl, hb⟩
  have Z11 := Lib.hid hb.size
  replace HO0 := HO0.below hb
  replace HX1 := HX1.below hb
  replace HX2 := HX2.below hb
  replace HM := HM.below hb
  replace HO2 := HO2.below hb
  replace HX3 := HX3.below hb
  replace HB := Lib.hid (below_step HB.out hb)
  clear hb
  have l9_0 := HX1.bx.lt
  have l9_1 := HX2.bx.lt
  have l9_2 := HX3.bx.lt
  go_wp2
  clear l9_0 l9_1 l9_2
  go_ret
  exact ⟨rfl, HB.out⟩

end Go.Proofs.Ytomkgohhfllpgaa
