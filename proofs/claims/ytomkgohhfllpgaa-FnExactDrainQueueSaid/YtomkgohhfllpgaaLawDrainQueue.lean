/-
  The walk of the law FnExactDrainQueue: the program's DrainQueue answers as the model's, in new memory.
-/
import Derived.Test.YtomkgohhfllpgaaSpecDrain
namespace Go.Proofs.Ytomkgohhfllpgaa
open Go.RowKit
set_option linter.unusedVariables false

set_option maxRecDepth 100000 in
set_option maxHeartbeats 3200000 in
theorem law_DrainQueue (v0 : Int) (b0 : Bool) (ys0 : List Tmr) (q0 : Bool) (lo0 hi0 : Nat) (A0 : Option Addr) (n0 c0 : Nat) (w : World) (ha0 : Rep.timer.Sl q0 lo0 hi0 w A0 n0 ys0) (hh0 : hi0 ≤ w.heap.size) (hn0 : n0 ≤ maxLen) :
    Calls Try.prog 10 #[.agg #[.int .i64 v0, .bool b0, .slice A0 n0 c0]] w fun e w' => e = .returned (.bool true) ∧ Below w.heap.size w w' := by
  by_cases hbig0 : (1048576 : Int) - (n0 : Int) < 0
  · have HB := Lib.hid (Below.refl w.heap.size w)
    have HA0 := Rep.Sl.kept ha0 hh0
    clear ha0
    have HR0 : Hid ((if (1048576 : Int) - (n0 : Int) < 0 then -1 else (1048576 : Int) - (n0 : Int)) = -1) := Lib.hid (if_pos hbig0)
    clear hbig0
    go_enter Try.func10, Try.ntmps10
    go_wp2_with fail
    refine Calls.name ?_
    intro U1 hU1
    have hb : Below w.heap.size w U1 := by rw [hU1]; exact ((Below.refl _ _).alloc (Nat.le_refl _) _)
    have zz : Hid (w.heap.size + 1 = U1.heap.size) := Lib.hid (by rw [hU1]; simp)
    have HX1 : Kept w.heap.size (w.heap.size + 1) (BoxK w.heap.size 50 #[.int .i64 v0, .bool b0, .slice A0 n0 c0]) U1 := by rw [hU1]; exact Kept.box (Box.made_at _ _ _ rfl)
    replace HA0 := HA0.below hb
    replace HB := Lib.hid (below_step HB.out hb)
    clear hb
    have Z1 := zz; clear zz
    clear hU1
    refine (szQueue_any v0 b0 A0 n0 c0 (1048576) _ hn0 (by omega) (by omega)).mono ?_
    rw [HR0.out]
    rintro e w2 ⟨rfl, hb⟩
    have Z2 := Lib.hid hb.size
    replace HA0 := HA0.below hb
    replace HX1 := HX1.below hb
    replace HB := Lib.hid (below_step HB.out hb)
    clear hb
    have l2_0 := HX1.bx.lt
    go_wp2
    clear l2_0
    go_ret
    exact ⟨rfl, HB.out⟩
  have HR0 : Hid ((if (1048576 : Int) - (n0 : Int) < 0 then -1 else (1048576 : Int) - (n0 : Int)) = (1048576 : Int) - (n0 : Int)) := Lib.hid (if_neg hbig0)
  have hN0 : n0 ≤ 1048576 := by omega
  have hz0 : ¬ ((1048576 : Int) - (n0 : Int) < 0) := hbig0
  clear hbig0
  have HB := Lib.hid (Below.refl w.heap.size w)
  have HA0 := Rep.Sl.kept ha0 hh0
  clear ha0
  have HBD0 := Lib.hid (dq_bd v0 ys0)
  obtain ⟨r, hr⟩ : ∃ z, qf v0 ys0 = z := ⟨_, rfl⟩
  have HRr := Lib.hid hr
  clear hr
  obtain ⟨x, hr⟩ : ∃ z, dqX v0 ys0 = z := ⟨_, rfl⟩
  have HRx := Lib.hid hr
  clear hr
  obtain ⟨p, hr⟩ : ∃ z, ppP ys0 = z := ⟨_, rfl⟩
  have HRp := Lib.hid hr
  clear hr
  obtain ⟨us, hr⟩ : ∃ z, dqU ys0 = z := ⟨_, rfl⟩
  have HRus := Lib.hid hr
  clear hr
  obtain ⟨t, hr⟩ : ∃ z, dqT v0 b0 ys0 = z := ⟨_, rfl⟩
  have HRt := Lib.hid hr
  clear hr
  obtain ⟨zs, hr⟩ : ∃ z, dqZ v0 ys0 = z := ⟨_, rfl⟩
  have HRzs := Lib.hid hr
  clear hr
  have HBD : Hid (us.length ≤ 1048576 ∧ zs.length ≤ 1048576) := Lib.hid (by rw [← HRus.out, ← HRzs.out]; exact HBD0.out)
  clear HBD0
  go_enter Try.func10, Try.ntmps10
  go_wp2_with fail
  refine Calls.name ?_
  intro U1 hU1
  have hb : Below w.heap.size w U1 := by rw [hU1]; exact ((Below.refl _ _).alloc (Nat.le_refl _) _)
  have zz : Hid (w.heap.size + 1 = U1.heap.size) := Lib.hid (by rw [hU1]; simp)
  have HX1 : Kept w.heap.size (w.heap.size + 1) (BoxK w.heap.size 50 #[.int .i64 v0, .bool b0, .slice A0 n0 c0]) U1 := by rw [hU1]; exact Kept.box (Box.made_at _ _ _ rfl)
  replace HA0 := HA0.below hb
  replace HB := Lib.hid (below_step HB.out hb)
  clear hb
  have Z1 := zz; clear zz
  clear hU1
  refine (szQueue_any v0 b0 A0 n0 c0 (1048576) _ hn0 (by omega) (by omega)).mono ?_
  rw [HR0.out]
  rintro e w2 ⟨rfl, hb⟩
  have Z2 := Lib.hid hb.size
  replace HA0 := HA0.below hb
  replace HX1 := HX1.below hb
  replace HB := Lib.hid (below_step HB.out hb)
  clear hb
  have c2_0 := HX1.look 0
  have c2_1 := HX1.look 1
  have c2_2 := HX1.look 2
  have l2_0 := HX1.bx.lt
  go_wp2_with fail
  clear c2_0 c2_1 c2_2 l2_0
  refine (toQueue_any q0 lo0 hi0 v0 b0 A0 n0 c0 ys0 _ HA0.sl HA0.le hN0).mono ?_
  rintro e w3 ⟨Ps0, rfl, hk, hb⟩
  have Z3 := Lib.hid hb.size
  replace HA0 := HA0.below hb
  replace HX1 := HX1.below hb
  replace HB := Lib.hid (below_step HB.out hb)
  clear hb
  have HS0 := hk; clear hk
  have l3_0 := HX1.bx.lt
  go_wp2_with fail
  clear l3_0
  refine (specDrainQueue_any v0 b0 true _ _ Ps0 n0 n0 ys0 _ HS0.sl HS0.le hN0).mono ?_
  rw [HRr.out, HRx.out, HRp.out, HRus.out, HRt.out, HRzs.out]
  rintro e w4 ⟨O0, j0, k0, E0, m0, d0, rfl, hk, hb⟩
  have Z4 := Lib.hid hb.size
  replace HA0 := HA0.below hb
  replace HX1 := HX1.below hb
  replace HS0 := HS0.below hb
  replace HB := Lib.hid (below_step HB.out hb)
  clear hb
  have HO0 := hk; clear hk
  have HQ : Hid (us.length = j0 ∧ zs.length = m0) := Lib.hid ⟨HO0.q_list.1, HO0.q_items.1⟩
  have hj0 : j0 ≤ 1048576 := by have := HQ.out.1; have := HBD.out.1; omega
  have hm0 : m0 ≤ 1048576 := by have := HQ.out.2; have := HBD.out.2; omega
  clear HS0
  have c4_0 := HX1.look 0
  have c4_1 := HX1.look 1
  have c4_2 := HX1.look 2
  have l4_0 := HX1.bx.lt
  go_wp2_with fail
  clear c4_0 c4_1 c4_2 l4_0
  refine Calls.name ?_
  intro U5 hU5
  have hb : Below w4.heap.size w4 U5 := by rw [hU5]; exact ((Below.refl _ _).alloc (Nat.le_refl _) _)
  have zz : Hid (w4.heap.size + 1 = U5.heap.size) := Lib.hid (by rw [hU5]; simp)
  have HX2 : Kept w4.heap.size (w4.heap.size + 1) (BoxK w4.heap.size 30 #[.int .i64 r, .int .i64 x, .bool p, .slice O0 j0 k0, .bool t, .slice E0 m0 d0]) U5 := by rw [hU5]; exact Kept.box (Box.made_at _ _ _ rfl)
  replace HA0 := HA0.below hb
  replace HX1 := HX1.below hb
  replace HO0 := HO0.below hb
  replace HB := Lib.hid (below_step HB.out hb)
  clear hb
  have Z5 := zz; clear zz
  clear hU5
  refine (toQueue_any q0 lo0 hi0 v0 b0 A0 n0 c0 ys0 _ HA0.sl HA0.le hN0).mono ?_
  rintro e w6 ⟨Px0, rfl, hk, hb⟩
  have Z6 := Lib.hid hb.size
  replace HA0 := HA0.below hb
  replace HX1 := HX1.below hb
  replace HO0 := HO0.below hb
  replace HX2 := HX2.below hb
  replace HB := Lib.hid (below_step HB.out hb)
  clear hb
  have HG0 := hk; clear hk
  have l5_0 := HX1.bx.lt
  have l5_1 := HX2.bx.lt
  go_wp2_with fail
  clear l5_0 l5_1
  refine Calls.name ?_
  intro U7 hU7
  have hb : Below w6.heap.size w6 U7 := by rw [hU7]; exact ((Below.refl _ _).alloc (Nat.le_refl _) _)
  have zz : Hid (w6.heap.size + 1 = U7.heap.size) := Lib.hid (by rw [hU7]; simp)
  have HX3 : Kept w6.heap.size (w6.heap.size + 1) (BoxK w6.heap.size 26 #[.int .i64 v0, .bool b0, .slice Px0 n0 n0]) U7 := by rw [hU7]; exact Kept.box (Box.made_at _ _ _ rfl)
  replace HA0 := HA0.below hb
  replace HX1 := HX1.below hb
  replace HO0 := HO0.below hb
  replace HX2 := HX2.below hb
  replace HG0 := HG0.below hb
  replace HB := Lib.hid (below_step HB.out hb)
  clear hb
  have Z7 := zz; clear zz
  clear hU7
  refine (drainQueue_any v0 b0 true _ _ Px0 n0 n0 ys0 _ HG0.sl HG0.le hN0 (Nat.le_refl _)).mono ?_
  rw [HRr.out, HRx.out, HRp.out, HRus.out, HRt.out, HRzs.out]
  rintro e w8 ⟨O1, j1, k1, E1, m1, d1, rfl, hk, hb⟩
  have Z8 := Lib.hid hb.size
  replace HA0 := HA0.below hb
  replace HX1 := HX1.below hb
  replace HO0 := HO0.below hb
  replace HX2 := HX2.below hb
  replace HG0 := HG0.below hb
  replace HX3 := HX3.below hb
  replace HB := Lib.hid (below_step HB.out hb)
  clear hb
  have HO1 := hk; clear hk
  obtain rfl : j0 = j1 := by have := HO1.q_list.1; have := HO0.q_list.1; omega
  obtain rfl : m0 = m1 := by have := HO1.q_items.1; have := HO0.q_items.1; omega
  have c6_0 := HX2.look 0
  have c6_1 := HX2.look 1
  have c6_2 := HX2.look 2
  have c6_3 := HX2.look 3
  have c6_4 := HX2.look 4
  have c6_5 := HX2.look 5
  have l6_0 := HX1.bx.lt
  have l6_1 := HX2.bx.lt
  have l6_2 := HX3.bx.lt
  go_wp2_with fail
  clear c6_0 c6_1 c6_2 c6_3 c6_4 c6_5 l6_0 l6_1 l6_2
  refine Calls.name ?_
  intro U9 hU9
  have hb : Below w8.heap.size w8 U9 := by rw [hU9]; exact ((Below.refl _ _).alloc (Nat.le_refl _) _)
  have zz : Hid (w8.heap.size + 1 = U9.heap.size) := Lib.hid (by rw [hU9]; simp)
  have HX4 : Kept w8.heap.size (w8.heap.size + 1) (BoxK w8.heap.size 30 #[.int .i64 r, .int .i64 x, .bool p, .slice O1 j0 k1, .bool t, .slice E1 m0 d1]) U9 := by rw [hU9]; exact Kept.box (Box.made_at _ _ _ rfl)
  replace HA0 := HA0.below hb
  replace HX1 := HX1.below hb
  replace HO0 := HO0.below hb
  replace HX2 := HX2.below hb
  replace HG0 := HG0.below hb
  replace HX3 := HX3.below hb
  replace HO1 := HO1.below hb
  replace HB := Lib.hid (below_step HB.out hb)
  clear hb
  have Z9 := zz; clear zz
  clear hU9
  refine (eqQueueResult_yes r x p t true true _ _ _ _ O1 O0 j0 k1 k0 us _ _ _ _ E1 E0 m0 d1 d0 zs _ HO1.q_list HO0.q_list HO1.le HO0.le hj0 HO1.q_items HO0.q_items HO1.le HO0.le hm0).mono ?_
  rintro e w10 ⟨rfl, hb⟩
  have Z10 := Lib.hid hb.size
  replace HA0 := HA0.below hb
  replace HX1 := HX1.below hb
  replace HO0 := HO0.below hb
  replace HX2 := HX2.below hb
  replace HG0 := HG0.below hb
  replace HX3 := HX3.below hb
  replace HO1 := HO1.below hb
  replace HX4 := HX4.below hb
  replace HB := Lib.hid (below_step HB.out hb)
  clear hb
  have l7_0 := HX1.bx.lt
  have l7_1 := HX2.bx.lt
  have l7_2 := HX3.bx.lt
  have l7_3 := HX4.bx.lt
  go_wp2
  clear l7_0 l7_1 l7_2 l7_3
  have SB : Hid (∀ W, Hid (Below w10.heap.size w10 W) → (fun W => W.cell? ⟨w.heap.size, 0, none⟩ = some (.int .i64 v0) ∧ W.cell? ⟨w.heap.size, 1, none⟩ = some (.bool b0) ∧ W.cell? ⟨w.heap.size, 2, none⟩ = some (.slice A0 n0 c0) ∧ W.cell? ⟨w6.heap.size, 0, none⟩ = some (.int .i64 v0) ∧ W.cell? ⟨w6.heap.size, 1, none⟩ = some (.bool b0) ∧ W.cell? ⟨w6.heap.size, 2, none⟩ = some (.slice Px0 n0 n0)) W) := fun W h => ⟨(HX1.below h.out).look 0, (HX1.below h.out).look 1, (HX1.below h.out).look 2, (HX3.below h.out).look 0, (HX3.below h.out).look 1, (HX3.below h.out).look 2⟩
  have V0 : Hid (Below w10.heap.size w10 w10.drew) := (Below.refl _ _).drew
  go_region_held3 (fun W => W.cell? ⟨w.heap.size, 0, none⟩ = some (.int .i64 v0) ∧ W.cell? ⟨w.heap.size, 1, none⟩ = some (.bool b0) ∧ W.cell? ⟨w.heap.size, 2, none⟩ = some (.slice A0 n0 c0) ∧ W.cell? ⟨w6.heap.size, 0, none⟩ = some (.int .i64 v0) ∧ W.cell? ⟨w6.heap.size, 1, none⟩ = some (.bool b0) ∧ W.cell? ⟨w6.heap.size, 2, none⟩ = some (.slice Px0 n0 n0)) (exact SB.out _ (by assumption))
    (first | (go_at_call 35; ((with_reducible refine (toQueue_any q0 lo0 hi0 v0 b0 A0 n0 c0 ys0 _ (HA0.below V0.out).sl (HA0.below V0.out).le hN0).mono ?_); rintro e u1_0 ⟨Pz0, rfl, hk, hb⟩; have V1 := Lib.hid (below_step V0.out hb); clear hb; have HZ0 := hk; clear hk)) | (go_at_call 36; ((with_reducible refine (eqQueue_yes v0 b0 true true _ _ _ _ Px0 _ n0 n0 n0 ys0 _ (HG0.below V1.out).sl HZ0.sl (HG0.below V1.out).le HZ0.le hN0).mono ?_); rintro e u1_1 ⟨rfl, hb⟩; have V2 := Lib.hid (below_step V1.out hb); clear hb)))
  have hb := V2.out
  clear SB V0 V1 V2
  have Z11 := Lib.hid hb.size
  replace HA0 := HA0.below hb
  replace HX1 := HX1.below hb
  replace HO0 := HO0.below hb
  replace HX2 := HX2.below hb
  replace HG0 := HG0.below hb
  replace HX3 := HX3.below hb
  replace HO1 := HO1.below hb
  replace HX4 := HX4.below hb
  replace HB := Lib.hid (below_step HB.out hb)
  clear hb
  clear HZ0
  have c8_0 := HX3.look 0
  have c8_1 := HX3.look 1
  have c8_2 := HX3.look 2
  have l8_0 := HX1.bx.lt
  have l8_1 := HX2.bx.lt
  have l8_2 := HX3.bx.lt
  have l8_3 := HX4.bx.lt
  go_wp2_with fail
  clear c8_0 c8_1 c8_2 l8_0 l8_1 l8_2 l8_3
  refine (markQueue_any _ _ v0 b0 Px0 n0 n0 ys0 1 _ HG0.sl HG0.le hN0 (by omega) (by omega)).mono ?_
  rintro e w11 ⟨rfl, ho⟩
  have Z12 := Lib.hid ho.size
  replace HA0 := HA0.only ho (by have := Z1.out; have := Z2.out; have := Z3.out; have := Z4.out; have := Z5.out; have := Z6.out; have := Z7.out; have := Z8.out; have := Z9.out; have := Z10.out; have := Z11.out; have := Z12.out; omega)
  replace HX1 := HX1.only ho (by have := Z1.out; have := Z2.out; have := Z3.out; have := Z4.out; have := Z5.out; have := Z6.out; have := Z7.out; have := Z8.out; have := Z9.out; have := Z10.out; have := Z11.out; have := Z12.out; omega)
  replace HO0 := HO0.only ho (by have := Z1.out; have := Z2.out; have := Z3.out; have := Z4.out; have := Z5.out; have := Z6.out; have := Z7.out; have := Z8.out; have := Z9.out; have := Z10.out; have := Z11.out; have := Z12.out; omega)
  replace HX2 := HX2.only ho (by have := Z1.out; have := Z2.out; have := Z3.out; have := Z4.out; have := Z5.out; have := Z6.out; have := Z7.out; have := Z8.out; have := Z9.out; have := Z10.out; have := Z11.out; have := Z12.out; omega)
  replace HX3 := HX3.only ho (by have := Z1.out; have := Z2.out; have := Z3.out; have := Z4.out; have := Z5.out; have := Z6.out; have := Z7.out; have := Z8.out; have := Z9.out; have := Z10.out; have := Z11.out; have := Z12.out; omega)
  replace HO1 := HO1.only ho (by have := Z1.out; have := Z2.out; have := Z3.out; have := Z4.out; have := Z5.out; have := Z6.out; have := Z7.out; have := Z8.out; have := Z9.out; have := Z10.out; have := Z11.out; have := Z12.out; omega)
  replace HX4 := HX4.only ho (by have := Z1.out; have := Z2.out; have := Z3.out; have := Z4.out; have := Z5.out; have := Z6.out; have := Z7.out; have := Z8.out; have := Z9.out; have := Z10.out; have := Z11.out; have := Z12.out; omega)
  replace HB := Lib.hid (Below.only HB.out ho (by have := Z1.out; have := Z2.out; have := Z3.out; have := Z4.out; have := Z5.out; have := Z6.out; have := Z7.out; have := Z8.out; have := Z9.out; have := Z10.out; have := Z11.out; have := Z12.out; omega) HB.out.size)
  clear HG0
  clear ho
  have hq0 : ¬ (1 + 4 * (n0 : Int) < 0) := by omega
  have c9_0 := HX2.look 0
  have c9_1 := HX2.look 1
  have c9_2 := HX2.look 2
  have c9_3 := HX2.look 3
  have c9_4 := HX2.look 4
  have c9_5 := HX2.look 5
  have c9_6 := HX4.look 0
  have c9_7 := HX4.look 1
  have c9_8 := HX4.look 2
  have c9_9 := HX4.look 3
  have c9_10 := HX4.look 4
  have c9_11 := HX4.look 5
  have l9_0 := HX1.bx.lt
  have l9_1 := HX2.bx.lt
  have l9_2 := HX3.bx.lt
  have l9_3 := HX4.bx.lt
  go_wp2_with fail
  clear c9_0 c9_1 c9_2 c9_3 c9_4 c9_5 c9_6 c9_7 c9_8 c9_9 c9_10 c9_11 l9_0 l9_1 l9_2 l9_3
  refine (eqQueueResult_yes r x p t true true _ _ _ _ O1 O0 j0 k1 k0 us _ _ _ _ E1 E0 m0 d1 d0 zs _ HO1.q_list HO0.q_list HO1.le HO0.le hj0 HO1.q_items HO0.q_items HO1.le HO0.le hm0).mono ?_
  rintro e w12 ⟨rfl, hb⟩
  have Z13 := Lib.hid hb.size
  replace HA0 := HA0.below hb
  replace HX1 := HX1.below hb
  replace HO0 := HO0.below hb
  replace HX2 := HX2.below hb
  replace HX3 := HX3.below hb
  replace HO1 := HO1.below hb
  replace HX4 := HX4.below hb
  replace HB := Lib.hid (below_step HB.out hb)
  clear hb
  have c10_0 := HX4.look 0
  have c10_1 := HX4.look 1
  have c10_2 := HX4.look 2
  have c10_3 := HX4.look 3
  have c10_4 := HX4.look 4
  have c10_5 := HX4.look 5
  have l10_0 := HX1.bx.lt
  have l10_1 := HX2.bx.lt
  have l10_2 := HX3.bx.lt
  have l10_3 := HX4.bx.lt
  go_wp2_with fail
  clear c10_0 c10_1 c10_2 c10_3 c10_4 c10_5 l10_0 l10_1 l10_2 l10_3
  obtain ⟨bs, cs, hfr, hfs, hnd, hin⟩ := HO1.out
  have HLE := HO1.le
  refine (markQueueResult_F r x p t O1 j0 k1 us E1 m0 d1 zs bs cs 1 _ hfr hfs hnd (fun b hb => Nat.lt_of_lt_of_le (hin b hb).2 HLE) hj0 hm0 (by omega) (by omega)).mono ?_
  rintro e w13 ⟨rfl, hfr2, hfs2, hob⟩
  have ho := hob.only hin
  have Z14 := Lib.hid ho.size
  replace HA0 := HA0.only ho (by have := Z1.out; have := Z2.out; have := Z3.out; have := Z4.out; have := Z5.out; have := Z6.out; have := Z7.out; have := Z8.out; have := Z9.out; have := Z10.out; have := Z11.out; have := Z12.out; have := Z13.out; have := Z14.out; omega)
  replace HX1 := HX1.only ho (by have := Z1.out; have := Z2.out; have := Z3.out; have := Z4.out; have := Z5.out; have := Z6.out; have := Z7.out; have := Z8.out; have := Z9.out; have := Z10.out; have := Z11.out; have := Z12.out; have := Z13.out; have := Z14.out; omega)
  replace HO0 := HO0.only ho (by have := Z1.out; have := Z2.out; have := Z3.out; have := Z4.out; have := Z5.out; have := Z6.out; have := Z7.out; have := Z8.out; have := Z9.out; have := Z10.out; have := Z11.out; have := Z12.out; have := Z13.out; have := Z14.out; omega)
  replace HX2 := HX2.only ho (by have := Z1.out; have := Z2.out; have := Z3.out; have := Z4.out; have := Z5.out; have := Z6.out; have := Z7.out; have := Z8.out; have := Z9.out; have := Z10.out; have := Z11.out; have := Z12.out; have := Z13.out; have := Z14.out; omega)
  replace HX3 := HX3.only ho (by have := Z1.out; have := Z2.out; have := Z3.out; have := Z4.out; have := Z5.out; have := Z6.out; have := Z7.out; have := Z8.out; have := Z9.out; have := Z10.out; have := Z11.out; have := Z12.out; have := Z13.out; have := Z14.out; omega)
  replace HX4 := HX4.only ho (by have := Z1.out; have := Z2.out; have := Z3.out; have := Z4.out; have := Z5.out; have := Z6.out; have := Z7.out; have := Z8.out; have := Z9.out; have := Z10.out; have := Z11.out; have := Z12.out; have := Z13.out; have := Z14.out; omega)
  replace HB := Lib.hid (Below.only HB.out ho (by have := Z1.out; have := Z2.out; have := Z3.out; have := Z4.out; have := Z5.out; have := Z6.out; have := Z7.out; have := Z8.out; have := Z9.out; have := Z10.out; have := Z11.out; have := Z12.out; have := Z13.out; have := Z14.out; omega) HB.out.size)
  have HM := QK.kept (us := mTimers 1 j0) (zs := mTimers (1 + 4 * (j0 : Int)) m0) ⟨bs, cs, hfr2, hfs2, hnd, hin⟩ (Nat.le_trans HLE ho.size); clear HO1 hob ho hfr hfs hnd hin hfr2 hfs2 HLE
  have hq1 : ¬ (1 + 4 * (j0 : Int) + 4 * (m0 : Int) < 0) := by omega
  have c11_0 := HX4.look 0
  have c11_1 := HX4.look 1
  have c11_2 := HX4.look 2
  have c11_3 := HX4.look 3
  have c11_4 := HX4.look 4
  have c11_5 := HX4.look 5
  have l11_0 := HX1.bx.lt
  have l11_1 := HX2.bx.lt
  have l11_2 := HX3.bx.lt
  have l11_3 := HX4.bx.lt
  go_wp2_with fail
  clear c11_0 c11_1 c11_2 c11_3 c11_4 c11_5 l11_0 l11_1 l11_2 l11_3
  refine (heldQueueResult_yes true true _ _ _ _ r x p t O1 j0 k1 E1 m0 d1 1 _ HM.q_list HM.q_items HM.le HM.le hj0 hm0 (by omega) (by omega)).mono ?_
  rintro e w14 ⟨rfl, hb⟩
  have Z15 := Lib.hid hb.size
  replace HA0 := HA0.below hb
  replace HX1 := HX1.below hb
  replace HO0 := HO0.below hb
  replace HX2 := HX2.below hb
  replace HX3 := HX3.below hb
  replace HX4 := HX4.below hb
  replace HM := HM.below hb
  replace HB := Lib.hid (below_step HB.out hb)
  clear hb
  have c12_0 := HX1.look 0
  have c12_1 := HX1.look 1
  have c12_2 := HX1.look 2
  have l12_0 := HX1.bx.lt
  have l12_1 := HX2.bx.lt
  have l12_2 := HX3.bx.lt
  have l12_3 := HX4.bx.lt
  go_wp2_with fail
  clear c12_0 c12_1 c12_2 l12_0 l12_1 l12_2 l12_3
  refine (toQueue_any q0 lo0 hi0 v0 b0 A0 n0 c0 ys0 _ HA0.sl HA0.le hN0).mono ?_
  rintro e w15 ⟨Py0, rfl, hk, hb⟩
  have Z16 := Lib.hid hb.size
  replace HA0 := HA0.below hb
  replace HX1 := HX1.below hb
  replace HO0 := HO0.below hb
  replace HX2 := HX2.below hb
  replace HX3 := HX3.below hb
  replace HX4 := HX4.below hb
  replace HM := HM.below hb
  replace HB := Lib.hid (below_step HB.out hb)
  clear hb
  have HH0 := hk; clear hk
  have l13_0 := HX1.bx.lt
  have l13_1 := HX2.bx.lt
  have l13_2 := HX3.bx.lt
  have l13_3 := HX4.bx.lt
  go_wp2_with fail
  clear l13_0 l13_1 l13_2 l13_3
  refine (drainQueue_any v0 b0 true _ _ Py0 n0 n0 ys0 _ HH0.sl HH0.le hN0 (Nat.le_refl _)).mono ?_
  rw [HRr.out, HRx.out, HRp.out, HRus.out, HRt.out, HRzs.out]
  rintro e w16 ⟨O2, j2, k2, E2, m2, d2, rfl, hk, hb⟩
  have Z17 := Lib.hid hb.size
  replace HA0 := HA0.below hb
  replace HX1 := HX1.below hb
  replace HO0 := HO0.below hb
  replace HX2 := HX2.below hb
  replace HX3 := HX3.below hb
  replace HX4 := HX4.below hb
  replace HM := HM.below hb
  replace HH0 := HH0.below hb
  replace HB := Lib.hid (below_step HB.out hb)
  clear hb
  have HO2 := hk; clear hk
  obtain rfl : j0 = j2 := by have := HO2.q_list.1; have := HO0.q_list.1; omega
  obtain rfl : m0 = m2 := by have := HO2.q_items.1; have := HO0.q_items.1; omega
  clear HH0
  have c14_0 := HX2.look 0
  have c14_1 := HX2.look 1
  have c14_2 := HX2.look 2
  have c14_3 := HX2.look 3
  have c14_4 := HX2.look 4
  have c14_5 := HX2.look 5
  have l14_0 := HX1.bx.lt
  have l14_1 := HX2.bx.lt
  have l14_2 := HX3.bx.lt
  have l14_3 := HX4.bx.lt
  go_wp2_with fail
  clear c14_0 c14_1 c14_2 c14_3 c14_4 c14_5 l14_0 l14_1 l14_2 l14_3
  refine Calls.name ?_
  intro U17 hU17
  have hb : Below w16.heap.size w16 U17 := by rw [hU17]; exact ((Below.refl _ _).alloc (Nat.le_refl _) _)
  have zz : Hid (w16.heap.size + 1 = U17.heap.size) := Lib.hid (by rw [hU17]; simp)
  have HX5 : Kept w16.heap.size (w16.heap.size + 1) (BoxK w16.heap.size 30 #[.int .i64 r, .int .i64 x, .bool p, .slice O2 j0 k2, .bool t, .slice E2 m0 d2]) U17 := by rw [hU17]; exact Kept.box (Box.made_at _ _ _ rfl)
  replace HA0 := HA0.below hb
  replace HX1 := HX1.below hb
  replace HO0 := HO0.below hb
  replace HX2 := HX2.below hb
  replace HX3 := HX3.below hb
  replace HX4 := HX4.below hb
  replace HM := HM.below hb
  replace HO2 := HO2.below hb
  replace HB := Lib.hid (below_step HB.out hb)
  clear hb
  have Z18 := zz; clear zz
  clear hU17
  refine (eqQueueResult_yes r x p t true true _ _ _ _ O2 O0 j0 k2 k0 us _ _ _ _ E2 E0 m0 d2 d0 zs _ HO2.q_list HO0.q_list HO2.le HO0.le hj0 HO2.q_items HO0.q_items HO2.le HO0.le hm0).mono ?_
  rintro e w18 ⟨rfl, hb⟩
  have Z19 := Lib.hid hb.size
  replace HA0 := HA0.below hb
  replace HX1 := HX1.below hb
  replace HO0 := HO0.below hb
  replace HX2 := HX2.below hb
  replace HX3 := HX3.below hb
  replace HX4 := HX4.below hb
  replace HM := HM.below hb
  replace HO2 := HO2.below hb
  replace HX5 := HX5.below hb
  replace HB := Lib.hid (below_step HB.out hb)
  clear hb
  have c15_0 := HX4.look 0
  have c15_1 := HX4.look 1
  have c15_2 := HX4.look 2
  have c15_3 := HX4.look 3
  have c15_4 := HX4.look 4
  have c15_5 := HX4.look 5
  have l15_0 := HX1.bx.lt
  have l15_1 := HX2.bx.lt
  have l15_2 := HX3.bx.lt
  have l15_3 := HX4.bx.lt
  have l15_4 := HX5.bx.lt
  go_wp2_with fail
  clear c15_0 c15_1 c15_2 c15_3 c15_4 c15_5 l15_0 l15_1 l15_2 l15_3 l15_4
  refine (heldQueueResult_yes true true _ _ _ _ r x p t O1 j0 k1 E1 m0 d1 1 _ HM.q_list HM.q_items HM.le HM.le hj0 hm0 (by omega) (by omega)).mono ?_
  rintro e w19 ⟨rfl, hb⟩
  have Z20 := Lib.hid hb.size
  replace HA0 := HA0.below hb
  replace HX1 := HX1.below hb
  replace HO0 := HO0.below hb
  replace HX2 := HX2.below hb
  replace HX3 := HX3.below hb
  replace HX4 := HX4.below hb
  replace HM := HM.below hb
  replace HO2 := HO2.below hb
  replace HX5 := HX5.below hb
  replace HB := Lib.hid (below_step HB.out hb)
  clear hb
  have l16_0 := HX1.bx.lt
  have l16_1 := HX2.bx.lt
  have l16_2 := HX3.bx.lt
  have l16_3 := HX4.bx.lt
  have l16_4 := HX5.bx.lt
  go_wp2
  clear l16_0 l16_1 l16_2 l16_3 l16_4
  go_ret
  exact ⟨rfl, HB.out⟩

end Go.Proofs.Ytomkgohhfllpgaa
