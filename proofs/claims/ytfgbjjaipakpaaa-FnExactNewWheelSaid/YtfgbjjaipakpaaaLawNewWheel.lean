/-
  The walk of the law FnExactNewWheel: the program's NewWheel answers as the model's, in new memory.
-/
import Derived.Test.YtfgbjjaipakpaaaWheelOut
namespace Go.Proofs.Ytfgbjjaipakpaaa
open Go.RowKit
set_option linter.unusedVariables false

set_option maxRecDepth 100000 in
set_option maxHeartbeats 3200000 in
theorem law_NewWheel (a0 : Int) (w : World)  :
    Calls Try.prog 7 #[.int .i64 a0] w fun e w' => e = .returned (.bool true) ∧ Below w.heap.size w w' := by
  have HB := Lib.hid (Below.refl w.heap.size w)
  have HBD0 := Lib.hid (nwR_bd a0)
  obtain ⟨r, hr⟩ : ∃ z, nwC a0 = z := ⟨_, rfl⟩
  have HRr := Lib.hid hr
  clear hr
  obtain ⟨x, hr⟩ : ∃ z, nwN a0 = z := ⟨_, rfl⟩
  have HRx := Lib.hid hr
  clear hr
  obtain ⟨us, hr⟩ : ∃ z, nwR a0 = z := ⟨_, rfl⟩
  have HRus := Lib.hid hr
  clear hr
  obtain ⟨zs, hr⟩ : ∃ z, ([] : List Tmr) = z := ⟨_, rfl⟩
  have HRzs := Lib.hid hr
  clear hr
  have HBD : Hid (us.length ≤ 1048576 ∧ (∀ y ∈ us, y.length ≤ 1048576) ∧ tot us ≤ 1048576 ∧ zs.length ≤ 1048576) := Lib.hid (by rw [← HRus.out, ← HRzs.out]; exact ⟨HBD0.out.1, HBD0.out.2.1, HBD0.out.2.2, by simp⟩)
  clear HBD0
  go_enter Try.func7, Try.ntmps7
  go_wp2_with fail
  refine (specNewWheel_any a0 _).mono ?_
  rw [HRr.out, HRx.out, HRus.out, HRzs.out]
  rintro e w1 ⟨O0, j0, b0, E0, m0, d0, rfl, hk, hb⟩
  have Z1 := Lib.hid hb.size
  replace HB := Lib.hid (below_step HB.out hb)
  clear hb
  have HO0 := hk; clear hk
  have HQ : Hid (us.length = j0 ∧ zs.length = m0) := Lib.hid ⟨HO0.res_rows.1, HO0.res_due.1⟩
  have hj0 : j0 ≤ 1048576 := by have := HQ.out.1; have := HBD.out.1; omega
  have hm0 : m0 ≤ 1048576 := by have := HQ.out.2; have := HBD.out.2.2.2; omega
  go_wp2_with fail
  refine Calls.name ?_
  intro U2 hU2
  have hb : Below w1.heap.size w1 U2 := by rw [hU2]; exact ((Below.refl _ _).alloc (Nat.le_refl _) _)
  have zz : Hid (w1.heap.size + 1 = U2.heap.size) := Lib.hid (by rw [hU2]; simp)
  have HX1 : Kept w1.heap.size (w1.heap.size + 1) (BoxK w1.heap.size 31 #[.int .i64 r, .int .i64 x, .slice O0 j0 b0, .slice E0 m0 d0]) U2 := by rw [hU2]; exact Kept.box (Box.made_at _ _ _ rfl)
  replace HO0 := HO0.below hb
  replace HB := Lib.hid (below_step HB.out hb)
  clear hb
  have Z2 := zz; clear zz
  clear hU2
  refine (newWheel_any a0 _).mono ?_
  rw [HRr.out, HRx.out, HRus.out, HRzs.out]
  rintro e w3 ⟨O1, j1, b1, E1, m1, d1, rfl, hk, hb⟩
  have Z3 := Lib.hid hb.size
  replace HO0 := HO0.below hb
  replace HX1 := HX1.below hb
  replace HB := Lib.hid (below_step HB.out hb)
  clear hb
  have HO1 := hk; clear hk
  obtain rfl : j0 = j1 := by have := HO1.res_rows.1; have := HO0.res_rows.1; omega
  obtain rfl : m0 = m1 := by have := HO1.res_due.1; have := HO0.res_due.1; omega
  have c3_0 := HX1.look 0
  have c3_1 := HX1.look 1
  have c3_2 := HX1.look 2
  have c3_3 := HX1.look 3
  have l3_0 := HX1.bx.lt
  go_wp2_with fail
  clear c3_0 c3_1 c3_2 c3_3 l3_0
  refine Calls.name ?_
  intro U4 hU4
  have hb : Below w3.heap.size w3 U4 := by rw [hU4]; exact ((Below.refl _ _).alloc (Nat.le_refl _) _)
  have zz : Hid (w3.heap.size + 1 = U4.heap.size) := Lib.hid (by rw [hU4]; simp)
  have HX2 : Kept w3.heap.size (w3.heap.size + 1) (BoxK w3.heap.size 31 #[.int .i64 r, .int .i64 x, .slice O1 j0 b1, .slice E1 m0 d1]) U4 := by rw [hU4]; exact Kept.box (Box.made_at _ _ _ rfl)
  replace HO0 := HO0.below hb
  replace HX1 := HX1.below hb
  replace HO1 := HO1.below hb
  replace HB := Lib.hid (below_step HB.out hb)
  clear hb
  have Z4 := zz; clear zz
  clear hU4
  refine (eqWheelResult_yes false false _ _ _ _ O1 O0 j0 b1 b0 us _ _ _ _ E1 E0 m0 d1 d0 zs r x _ HO1.res_rows HO0.res_rows HO1.le HO0.le hj0 HBD.out.2.1 (Rep.Sl.unq HO1.res_due) (Rep.Sl.unq HO0.res_due) HO1.le HO0.le hm0).mono ?_
  rintro e w5 ⟨rfl, hb⟩
  have Z5 := Lib.hid hb.size
  replace HO0 := HO0.below hb
  replace HX1 := HX1.below hb
  replace HO1 := HO1.below hb
  replace HX2 := HX2.below hb
  replace HB := Lib.hid (below_step HB.out hb)
  clear hb
  have c4_0 := HX2.look 0
  have c4_1 := HX2.look 1
  have c4_2 := HX2.look 2
  have c4_3 := HX2.look 3
  have l4_0 := HX1.bx.lt
  have l4_1 := HX2.bx.lt
  go_wp2_with fail
  clear c4_0 c4_1 c4_2 c4_3 l4_0 l4_1
  obtain ⟨bs, cs, hfr, hfs, hnd, hin⟩ := HO1.out
  have HLE := HO1.le
  refine (markWheelResult_F O1 j0 b1 us bs cs E1 m0 d1 zs r x 1 _ hfr hfs hnd (fun b hb => Nat.lt_of_lt_of_le (hin b hb).2 HLE) hj0 HBD.out.2.2.1 hm0 (by omega) (by omega)).mono ?_
  rintro e w6 ⟨rfl, ⟨vs1, hmk, hfr2⟩, hfs2, hob⟩
  have ho := hob.only hin
  have Z6 := Lib.hid ho.size
  replace HO0 := HO0.only ho (by have := Z1.out; have := Z2.out; have := Z3.out; have := Z4.out; have := Z5.out; have := Z6.out; omega)
  replace HX1 := HX1.only ho (by have := Z1.out; have := Z2.out; have := Z3.out; have := Z4.out; have := Z5.out; have := Z6.out; omega)
  replace HX2 := HX2.only ho (by have := Z1.out; have := Z2.out; have := Z3.out; have := Z4.out; have := Z5.out; have := Z6.out; omega)
  replace HB := Lib.hid (Below.only HB.out ho (by have := Z1.out; have := Z2.out; have := Z3.out; have := Z4.out; have := Z5.out; have := Z6.out; omega) HB.out.size)
  have HM := ResK.kept (ys := vs1) (zs := mTimers (1 + 4 * (tot us : Int)) m0) ⟨bs, cs, hfr2, hfs2, hnd, hin⟩ (Nat.le_trans HLE ho.size); clear HO1 hob ho hfr hfs hnd hin hfr2 hfs2 HLE
  have HMK := Lib.hid hmk; clear hmk
  obtain ⟨tt, htt⟩ : ∃ t, tot us = t := ⟨_, rfl⟩
  have HTT := Lib.hid htt
  have hbt : tt ≤ 1048576 := by have := HBD.out.2.2.1; omega
  rw [htt]
  clear htt
  have hq1 : ¬ (1 + 4 * (tt : Int) + 4 * (m0 : Int) < 0) := by omega
  have c5_0 := HX2.look 0
  have c5_1 := HX2.look 1
  have c5_2 := HX2.look 2
  have c5_3 := HX2.look 3
  have l5_0 := HX1.bx.lt
  have l5_1 := HX2.bx.lt
  go_wp2_with fail
  clear c5_0 c5_1 c5_2 c5_3 l5_0 l5_1
  refine (heldWheelResult_yes false true _ _ _ _ O1 j0 b1 us vs1 E1 m0 d1 r x 1 _ HMK.out HM.res_rows HM.le HM.res_due HM.le hj0 HBD.out.2.2.1 hm0 (by omega) (by omega)).mono ?_
  rw [HTT.out]
  rintro e w7 ⟨rfl, hb⟩
  have Z7 := Lib.hid hb.size
  replace HO0 := HO0.below hb
  replace HX1 := HX1.below hb
  replace HX2 := HX2.below hb
  replace HM := HM.below hb
  replace HB := Lib.hid (below_step HB.out hb)
  clear hb
  have l6_0 := HX1.bx.lt
  have l6_1 := HX2.bx.lt
  go_wp2_with fail
  clear l6_0 l6_1
  refine (newWheel_any a0 _).mono ?_
  rw [HRr.out, HRx.out, HRus.out, HRzs.out]
  rintro e w8 ⟨O2, j2, b2, E2, m2, d2, rfl, hk, hb⟩
  have Z8 := Lib.hid hb.size
  replace HO0 := HO0.below hb
  replace HX1 := HX1.below hb
  replace HX2 := HX2.below hb
  replace HM := HM.below hb
  replace HB := Lib.hid (below_step HB.out hb)
  clear hb
  have HO2 := hk; clear hk
  obtain rfl : j0 = j2 := by have := HO2.res_rows.1; have := HO0.res_rows.1; omega
  obtain rfl : m0 = m2 := by have := HO2.res_due.1; have := HO0.res_due.1; omega
  have c7_0 := HX1.look 0
  have c7_1 := HX1.look 1
  have c7_2 := HX1.look 2
  have c7_3 := HX1.look 3
  have l7_0 := HX1.bx.lt
  have l7_1 := HX2.bx.lt
  go_wp2_with fail
  clear c7_0 c7_1 c7_2 c7_3 l7_0 l7_1
  refine Calls.name ?_
  intro U9 hU9
  have hb : Below w8.heap.size w8 U9 := by rw [hU9]; exact ((Below.refl _ _).alloc (Nat.le_refl _) _)
  have zz : Hid (w8.heap.size + 1 = U9.heap.size) := Lib.hid (by rw [hU9]; simp)
  have HX3 : Kept w8.heap.size (w8.heap.size + 1) (BoxK w8.heap.size 31 #[.int .i64 r, .int .i64 x, .slice O2 j0 b2, .slice E2 m0 d2]) U9 := by rw [hU9]; exact Kept.box (Box.made_at _ _ _ rfl)
  replace HO0 := HO0.below hb
  replace HX1 := HX1.below hb
  replace HX2 := HX2.below hb
  replace HM := HM.below hb
  replace HO2 := HO2.below hb
  replace HB := Lib.hid (below_step HB.out hb)
  clear hb
  have Z9 := zz; clear zz
  clear hU9
  refine (eqWheelResult_yes false false _ _ _ _ O2 O0 j0 b2 b0 us _ _ _ _ E2 E0 m0 d2 d0 zs r x _ HO2.res_rows HO0.res_rows HO2.le HO0.le hj0 HBD.out.2.1 (Rep.Sl.unq HO2.res_due) (Rep.Sl.unq HO0.res_due) HO2.le HO0.le hm0).mono ?_
  rintro e w10 ⟨rfl, hb⟩
  have Z10 := Lib.hid hb.size
  replace HO0 := HO0.below hb
  replace HX1 := HX1.below hb
  replace HX2 := HX2.below hb
  replace HM := HM.below hb
  replace HO2 := HO2.below hb
  replace HX3 := HX3.below hb
  replace HB := Lib.hid (below_step HB.out hb)
  clear hb
  have c8_0 := HX2.look 0
  have c8_1 := HX2.look 1
  have c8_2 := HX2.look 2
  have c8_3 := HX2.look 3
  have l8_0 := HX1.bx.lt
  have l8_1 := HX2.bx.lt
  have l8_2 := HX3.bx.lt
  go_wp2_with fail
  clear c8_0 c8_1 c8_2 c8_3 l8_0 l8_1 l8_2
  refine (heldWheelResult_yes false true _ _ _ _ O1 j0 b1 us vs1 E1 m0 d1 r x 1 _ HMK.out HM.res_rows HM.le HM.res_due HM.le hj0 HBD.out.2.2.1 hm0 (by omega) (by omega)).mono ?_
  rw [HTT.out]
  rintro e w11 ⟨rfl, hb⟩
  have Z11 := Lib.hid hb.size
  replace HO0 := HO0.below hb
  replace HX1 := HX1.below hb
  replace HX2 := HX2.below hb
  replace HM := HM.below hb
  replace HO2 := HO2.below hb
  replace HX3 := HX3.below hb
  replace HB := Lib.hid (below_step HB.out hb)
  clear hb
  have l9_0 := HX1.bx.lt
  have l9_1 := HX2.bx.lt
  have l9_2 := HX3.bx.lt
  go_wp2
  clear l9_0 l9_1 l9_2
  go_ret
  exact ⟨rfl, HB.out⟩

end Go.Proofs.Ytfgbjjaipakpaaa
