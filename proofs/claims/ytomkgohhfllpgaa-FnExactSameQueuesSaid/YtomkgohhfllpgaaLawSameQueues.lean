/-
  The walk of the law FnExactSameQueues: the program's SameQueues answers as the model's.
-/
import Derived.Test.YtomkgohhfllpgaaSameQueue
namespace Go.Proofs.Ytomkgohhfllpgaa
open Go.RowKit
set_option linter.unusedVariables false

set_option maxRecDepth 100000 in
set_option maxHeartbeats 3200000 in
theorem law_SameQueues (v0 : Int) (b0 : Bool) (ys0 : List Tmr) (q0 : Bool) (lo0 hi0 : Nat) (A0 : Option Addr) (n0 c0 : Nat) (v1 : Int) (b1 : Bool) (ys1 : List Tmr) (q1 : Bool) (lo1 hi1 : Nat) (A1 : Option Addr) (n1 c1 : Nat) (w : World) (ha0 : Rep.timer.Sl q0 lo0 hi0 w A0 n0 ys0) (hh0 : hi0 ≤ w.heap.size) (hn0 : n0 ≤ maxLen) (ha1 : Rep.timer.Sl q1 lo1 hi1 w A1 n1 ys1) (hh1 : hi1 ≤ w.heap.size) (hn1 : n1 ≤ maxLen) :
    Calls Try.prog 11 #[.agg #[.int .i64 v0, .bool b0, .slice A0 n0 c0], .agg #[.int .i64 v1, .bool b1, .slice A1 n1 c1]] w fun e w' => e = .returned (.bool true) ∧ Below w.heap.size w w' := by
  by_cases hbig0 : (1048576 : Int) - (n0 : Int) < 0
  · have HB := Lib.hid (Below.refl w.heap.size w)
    have HA0 := Rep.Sl.kept ha0 hh0
    clear ha0
    have HA1 := Rep.Sl.kept ha1 hh1
    clear ha1
    have HR0 : Hid ((if (1048576 : Int) - (n0 : Int) < 0 then -1 else (1048576 : Int) - (n0 : Int)) = -1) := Lib.hid (if_pos hbig0)
    clear hbig0
    go_enter Try.func11, Try.ntmps11
    go_wp2_with fail
    refine Calls.name ?_
    intro U1 hU1
    have hb : Below w.heap.size w U1 := by rw [hU1]; exact (((Below.refl _ _).alloc (Nat.le_refl _) _).alloc (by simp <;> omega) _)
    have zz : Hid (w.heap.size + 2 = U1.heap.size) := Lib.hid (by rw [hU1]; simp)
    have HX1 : Kept w.heap.size (w.heap.size + 1) (BoxK w.heap.size 50 #[.int .i64 v0, .bool b0, .slice A0 n0 c0]) U1 := by rw [hU1]; exact Kept.box ((Box.made_at _ _ _ rfl).over _)
    have HX2 : Kept (w.heap.size + 1) (w.heap.size + 1 + 1) (BoxK (w.heap.size + 1) 50 #[.int .i64 v1, .bool b1, .slice A1 n1 c1]) U1 := by rw [hU1]; exact Kept.box (Box.made_at _ _ _ (by simp <;> omega))
    replace HA0 := HA0.below hb
    replace HA1 := HA1.below hb
    replace HB := Lib.hid (below_step HB.out hb)
    clear hb
    have Z1 := zz; clear zz
    clear hU1
    refine (szQueue_any v0 b0 A0 n0 c0 (1048576) _ hn0 (by omega) (by omega)).mono ?_
    rw [HR0.out]
    rintro e w2 ⟨rfl, hb⟩
    have Z2 := Lib.hid hb.size
    replace HA0 := HA0.below hb
    replace HA1 := HA1.below hb
    replace HX1 := HX1.below hb
    replace HX2 := HX2.below hb
    replace HB := Lib.hid (below_step HB.out hb)
    clear hb
    have l2_0 := HX1.bx.lt
    have l2_1 := HX2.bx.lt
    go_wp2
    clear l2_0 l2_1
    go_ret
    exact ⟨rfl, HB.out⟩
  have HR0 : Hid ((if (1048576 : Int) - (n0 : Int) < 0 then -1 else (1048576 : Int) - (n0 : Int)) = (1048576 : Int) - (n0 : Int)) := Lib.hid (if_neg hbig0)
  have hN0 : n0 ≤ 1048576 := by omega
  have hz0 : ¬ ((1048576 : Int) - (n0 : Int) < 0) := hbig0
  clear hbig0
  by_cases hbig1 : (1048576 - n0 : Int) - (n1 : Int) < 0
  · have HB := Lib.hid (Below.refl w.heap.size w)
    have HA0 := Rep.Sl.kept ha0 hh0
    clear ha0
    have HA1 := Rep.Sl.kept ha1 hh1
    clear ha1
    have HR1 : Hid ((if (1048576 - n0 : Int) - (n1 : Int) < 0 then -1 else (1048576 - n0 : Int) - (n1 : Int)) = -1) := Lib.hid (if_pos hbig1)
    clear hbig1
    go_enter Try.func11, Try.ntmps11
    go_wp2_with fail
    refine Calls.name ?_
    intro U1 hU1
    have hb : Below w.heap.size w U1 := by rw [hU1]; exact (((Below.refl _ _).alloc (Nat.le_refl _) _).alloc (by simp <;> omega) _)
    have zz : Hid (w.heap.size + 2 = U1.heap.size) := Lib.hid (by rw [hU1]; simp)
    have HX1 : Kept w.heap.size (w.heap.size + 1) (BoxK w.heap.size 50 #[.int .i64 v0, .bool b0, .slice A0 n0 c0]) U1 := by rw [hU1]; exact Kept.box ((Box.made_at _ _ _ rfl).over _)
    have HX2 : Kept (w.heap.size + 1) (w.heap.size + 1 + 1) (BoxK (w.heap.size + 1) 50 #[.int .i64 v1, .bool b1, .slice A1 n1 c1]) U1 := by rw [hU1]; exact Kept.box (Box.made_at _ _ _ (by simp <;> omega))
    replace HA0 := HA0.below hb
    replace HA1 := HA1.below hb
    replace HB := Lib.hid (below_step HB.out hb)
    clear hb
    have Z1 := zz; clear zz
    clear hU1
    refine (szQueue_any v0 b0 A0 n0 c0 (1048576) _ hn0 (by omega) (by omega)).mono ?_
    rw [HR0.out]
    rintro e w2 ⟨rfl, hb⟩
    have Z2 := Lib.hid hb.size
    replace HA0 := HA0.below hb
    replace HA1 := HA1.below hb
    replace HX1 := HX1.below hb
    replace HX2 := HX2.below hb
    replace HB := Lib.hid (below_step HB.out hb)
    clear hb
    have c2_0 := HX2.look 0
    have c2_1 := HX2.look 1
    have c2_2 := HX2.look 2
    have l2_0 := HX1.bx.lt
    have l2_1 := HX2.bx.lt
    go_wp2_with fail
    clear c2_0 c2_1 c2_2 l2_0 l2_1
    refine (szQueue_any v1 b1 A1 n1 c1 (1048576 - n0) _ hn1 (by omega) (by omega)).mono ?_
    rw [HR1.out]
    rintro e w3 ⟨rfl, hb⟩
    have Z3 := Lib.hid hb.size
    replace HA0 := HA0.below hb
    replace HA1 := HA1.below hb
    replace HX1 := HX1.below hb
    replace HX2 := HX2.below hb
    replace HB := Lib.hid (below_step HB.out hb)
    clear hb
    have l3_0 := HX1.bx.lt
    have l3_1 := HX2.bx.lt
    go_wp2
    clear l3_0 l3_1
    go_ret
    exact ⟨rfl, HB.out⟩
  have HR1 : Hid ((if (1048576 - n0 : Int) - (n1 : Int) < 0 then -1 else (1048576 - n0 : Int) - (n1 : Int)) = (1048576 - n0 : Int) - (n1 : Int)) := Lib.hid (if_neg hbig1)
  have hN1 : n1 ≤ 1048576 := by omega
  have hz1 : ¬ ((1048576 - n0 : Int) - (n1 : Int) < 0) := hbig1
  clear hbig1
  have HB := Lib.hid (Below.refl w.heap.size w)
  have HA0 := Rep.Sl.kept ha0 hh0
  clear ha0
  have HA1 := Rep.Sl.kept ha1 hh1
  clear ha1
  obtain ⟨r, hr⟩ := is_of (v0 = v1 ∧ b0 = b1 ∧ ys0 = ys1)
  have HRR := Lib.hid hr
  clear hr
  go_enter Try.func11, Try.ntmps11
  go_wp2_with fail
  refine Calls.name ?_
  intro U1 hU1
  have hb : Below w.heap.size w U1 := by rw [hU1]; exact (((Below.refl _ _).alloc (Nat.le_refl _) _).alloc (by simp <;> omega) _)
  have zz : Hid (w.heap.size + 2 = U1.heap.size) := Lib.hid (by rw [hU1]; simp)
  have HX1 : Kept w.heap.size (w.heap.size + 1) (BoxK w.heap.size 50 #[.int .i64 v0, .bool b0, .slice A0 n0 c0]) U1 := by rw [hU1]; exact Kept.box ((Box.made_at _ _ _ rfl).over _)
  have HX2 : Kept (w.heap.size + 1) (w.heap.size + 1 + 1) (BoxK (w.heap.size + 1) 50 #[.int .i64 v1, .bool b1, .slice A1 n1 c1]) U1 := by rw [hU1]; exact Kept.box (Box.made_at _ _ _ (by simp <;> omega))
  replace HA0 := HA0.below hb
  replace HA1 := HA1.below hb
  replace HB := Lib.hid (below_step HB.out hb)
  clear hb
  have Z1 := zz; clear zz
  clear hU1
  refine (szQueue_any v0 b0 A0 n0 c0 (1048576) _ hn0 (by omega) (by omega)).mono ?_
  rw [HR0.out]
  rintro e w2 ⟨rfl, hb⟩
  have Z2 := Lib.hid hb.size
  replace HA0 := HA0.below hb
  replace HA1 := HA1.below hb
  replace HX1 := HX1.below hb
  replace HX2 := HX2.below hb
  replace HB := Lib.hid (below_step HB.out hb)
  clear hb
  have c2_0 := HX2.look 0
  have c2_1 := HX2.look 1
  have c2_2 := HX2.look 2
  have l2_0 := HX1.bx.lt
  have l2_1 := HX2.bx.lt
  go_wp2_with fail
  clear c2_0 c2_1 c2_2 l2_0 l2_1
  refine (szQueue_any v1 b1 A1 n1 c1 (1048576 - n0) _ hn1 (by omega) (by omega)).mono ?_
  rw [HR1.out]
  rintro e w3 ⟨rfl, hb⟩
  have Z3 := Lib.hid hb.size
  replace HA0 := HA0.below hb
  replace HA1 := HA1.below hb
  replace HX1 := HX1.below hb
  replace HX2 := HX2.below hb
  replace HB := Lib.hid (below_step HB.out hb)
  clear hb
  have l3_0 := HX1.bx.lt
  have l3_1 := HX2.bx.lt
  go_wp2_with fail
  clear l3_0 l3_1
  have SB : Hid (∀ W, Hid (Below w3.heap.size w3 W) → (fun W => W.cell? ⟨w.heap.size, 0, none⟩ = some (.int .i64 v0) ∧ W.cell? ⟨w.heap.size, 1, none⟩ = some (.bool b0) ∧ W.cell? ⟨w.heap.size, 2, none⟩ = some (.slice A0 n0 c0) ∧ W.cell? ⟨w.heap.size + 1, 0, none⟩ = some (.int .i64 v1) ∧ W.cell? ⟨w.heap.size + 1, 1, none⟩ = some (.bool b1) ∧ W.cell? ⟨w.heap.size + 1, 2, none⟩ = some (.slice A1 n1 c1)) W) := fun W h => ⟨(HX1.below h.out).look 0, (HX1.below h.out).look 1, (HX1.below h.out).look 2, (HX2.below h.out).look 0, (HX2.below h.out).look 1, (HX2.below h.out).look 2⟩
  have V0 : Hid (Below w3.heap.size w3 w3.drew) := (Below.refl _ _).drew
  go_region_held3 (fun W => W.cell? ⟨w.heap.size, 0, none⟩ = some (.int .i64 v0) ∧ W.cell? ⟨w.heap.size, 1, none⟩ = some (.bool b0) ∧ W.cell? ⟨w.heap.size, 2, none⟩ = some (.slice A0 n0 c0) ∧ W.cell? ⟨w.heap.size + 1, 0, none⟩ = some (.int .i64 v1) ∧ W.cell? ⟨w.heap.size + 1, 1, none⟩ = some (.bool b1) ∧ W.cell? ⟨w.heap.size + 1, 2, none⟩ = some (.slice A1 n1 c1)) (exact SB.out _ (by assumption))
    (first | (go_at_call 35; ((with_reducible refine (toQueue_any q0 lo0 hi0 v0 b0 A0 n0 c0 ys0 _ (HA0.below V0.out).sl (HA0.below V0.out).le hN0).mono ?_); rintro e u1_0 ⟨Ps0, rfl, hk, hb⟩; have V1 := Lib.hid (below_step V0.out hb); clear hb; have HS0 := hk; clear hk)) | (go_at_call 35; ((with_reducible refine (toQueue_any q1 lo1 hi1 v1 b1 A1 n1 c1 ys1 _ (HA1.below V1.out).sl (HA1.below V1.out).le hN1).mono ?_); rintro e u1_1 ⟨Ps1, rfl, hk, hb⟩; have V2 := Lib.hid (below_step V1.out hb); (try replace HS0 := HS0.below hb); clear hb; have HS1 := hk; clear hk)) | (go_at_call 28; ((with_reducible refine (specSameQueues_any v0 v1 b0 b1 true true _ _ _ _ Ps0 Ps1 n0 n1 n0 n1 ys0 ys1 r _ HS0.sl HS1.sl HS0.le HS1.le hN0 hN1 HRR.out).mono ?_); rintro e u1_2 ⟨rfl, hb⟩; have V3 := Lib.hid (below_step V2.out hb); (try replace HS0 := HS0.below hb); clear hb)))
  have hb := V3.out
  clear SB V0 V1 V2 V3
  have Z4 := Lib.hid hb.size
  replace HA0 := HA0.below hb
  replace HA1 := HA1.below hb
  replace HX1 := HX1.below hb
  replace HX2 := HX2.below hb
  replace HB := Lib.hid (below_step HB.out hb)
  clear hb
  clear HS0 HS1
  have c4_0 := HX1.look 0
  have c4_1 := HX1.look 1
  have c4_2 := HX1.look 2
  have l4_0 := HX1.bx.lt
  have l4_1 := HX2.bx.lt
  go_wp2_with fail
  clear c4_0 c4_1 c4_2 l4_0 l4_1
  refine (toQueue_any q0 lo0 hi0 v0 b0 A0 n0 c0 ys0 _ HA0.sl HA0.le hN0).mono ?_
  rintro e w4 ⟨Px0, rfl, hk, hb⟩
  have Z5 := Lib.hid hb.size
  replace HA0 := HA0.below hb
  replace HA1 := HA1.below hb
  replace HX1 := HX1.below hb
  replace HX2 := HX2.below hb
  replace HB := Lib.hid (below_step HB.out hb)
  clear hb
  have HG0 := hk; clear hk
  have c5_0 := HX2.look 0
  have c5_1 := HX2.look 1
  have c5_2 := HX2.look 2
  have l5_0 := HX1.bx.lt
  have l5_1 := HX2.bx.lt
  go_wp2_with fail
  clear c5_0 c5_1 c5_2 l5_0 l5_1
  refine Calls.name ?_
  intro U5 hU5
  have hb : Below w4.heap.size w4 U5 := by rw [hU5]; exact ((Below.refl _ _).alloc (Nat.le_refl _) _)
  have zz : Hid (w4.heap.size + 1 = U5.heap.size) := Lib.hid (by rw [hU5]; simp)
  have HX3 : Kept w4.heap.size (w4.heap.size + 1) (BoxK w4.heap.size 26 #[.int .i64 v0, .bool b0, .slice Px0 n0 n0]) U5 := by rw [hU5]; exact Kept.box (Box.made_at _ _ _ rfl)
  replace HA0 := HA0.below hb
  replace HA1 := HA1.below hb
  replace HX1 := HX1.below hb
  replace HX2 := HX2.below hb
  replace HG0 := HG0.below hb
  replace HB := Lib.hid (below_step HB.out hb)
  clear hb
  have Z6 := zz; clear zz
  clear hU5
  refine (toQueue_any q1 lo1 hi1 v1 b1 A1 n1 c1 ys1 _ HA1.sl HA1.le hN1).mono ?_
  rintro e w6 ⟨Px1, rfl, hk, hb⟩
  have Z7 := Lib.hid hb.size
  replace HA0 := HA0.below hb
  replace HA1 := HA1.below hb
  replace HX1 := HX1.below hb
  replace HX2 := HX2.below hb
  replace HG0 := HG0.below hb
  replace HX3 := HX3.below hb
  replace HB := Lib.hid (below_step HB.out hb)
  clear hb
  have HG1 := hk; clear hk
  have c6_0 := HX3.look 0
  have c6_1 := HX3.look 1
  have c6_2 := HX3.look 2
  have l6_0 := HX1.bx.lt
  have l6_1 := HX2.bx.lt
  have l6_2 := HX3.bx.lt
  go_wp2_with fail
  clear c6_0 c6_1 c6_2 l6_0 l6_1 l6_2
  refine Calls.name ?_
  intro U7 hU7
  have hb : Below w6.heap.size w6 U7 := by rw [hU7]; exact ((Below.refl _ _).alloc (Nat.le_refl _) _)
  have zz : Hid (w6.heap.size + 1 = U7.heap.size) := Lib.hid (by rw [hU7]; simp)
  have HX4 : Kept w6.heap.size (w6.heap.size + 1) (BoxK w6.heap.size 26 #[.int .i64 v1, .bool b1, .slice Px1 n1 n1]) U7 := by rw [hU7]; exact Kept.box (Box.made_at _ _ _ rfl)
  replace HA0 := HA0.below hb
  replace HA1 := HA1.below hb
  replace HX1 := HX1.below hb
  replace HX2 := HX2.below hb
  replace HG0 := HG0.below hb
  replace HX3 := HX3.below hb
  replace HG1 := HG1.below hb
  replace HB := Lib.hid (below_step HB.out hb)
  clear hb
  have Z8 := zz; clear zz
  clear hU7
  refine (sameQueues_any v0 v1 b0 b1 true true _ _ _ _ Px0 Px1 n0 n1 n0 n1 ys0 ys1 r _ HG0.sl HG1.sl HG0.le HG1.le hN0 hN1 HRR.out).mono ?_
  rintro e w8 ⟨rfl, hb⟩
  have Z9 := Lib.hid hb.size
  replace HA0 := HA0.below hb
  replace HA1 := HA1.below hb
  replace HX1 := HX1.below hb
  replace HX2 := HX2.below hb
  replace HG0 := HG0.below hb
  replace HX3 := HX3.below hb
  replace HG1 := HG1.below hb
  replace HX4 := HX4.below hb
  replace HB := Lib.hid (below_step HB.out hb)
  clear hb
  have l7_0 := HX1.bx.lt
  have l7_1 := HX2.bx.lt
  have l7_2 := HX3.bx.lt
  have l7_3 := HX4.bx.lt
  go_wp2
  clear l7_0 l7_1 l7_2 l7_3
  have SB : Hid (∀ W, Hid (Below w8.heap.size w8 W) → (fun W => W.cell? ⟨w.heap.size, 0, none⟩ = some (.int .i64 v0) ∧ W.cell? ⟨w.heap.size, 1, none⟩ = some (.bool b0) ∧ W.cell? ⟨w.heap.size, 2, none⟩ = some (.slice A0 n0 c0) ∧ W.cell? ⟨w4.heap.size, 0, none⟩ = some (.int .i64 v0) ∧ W.cell? ⟨w4.heap.size, 1, none⟩ = some (.bool b0) ∧ W.cell? ⟨w4.heap.size, 2, none⟩ = some (.slice Px0 n0 n0)) W) := fun W h => ⟨(HX1.below h.out).look 0, (HX1.below h.out).look 1, (HX1.below h.out).look 2, (HX3.below h.out).look 0, (HX3.below h.out).look 1, (HX3.below h.out).look 2⟩
  have V0 : Hid (Below w8.heap.size w8 w8.drew) := (Below.refl _ _).drew
  go_region_held3 (fun W => W.cell? ⟨w.heap.size, 0, none⟩ = some (.int .i64 v0) ∧ W.cell? ⟨w.heap.size, 1, none⟩ = some (.bool b0) ∧ W.cell? ⟨w.heap.size, 2, none⟩ = some (.slice A0 n0 c0) ∧ W.cell? ⟨w4.heap.size, 0, none⟩ = some (.int .i64 v0) ∧ W.cell? ⟨w4.heap.size, 1, none⟩ = some (.bool b0) ∧ W.cell? ⟨w4.heap.size, 2, none⟩ = some (.slice Px0 n0 n0)) (exact SB.out _ (by assumption))
    (first | (go_at_call 35; ((with_reducible refine (toQueue_any q0 lo0 hi0 v0 b0 A0 n0 c0 ys0 _ (HA0.below V0.out).sl (HA0.below V0.out).le hN0).mono ?_); rintro e u2_0 ⟨Pz0, rfl, hk, hb⟩; have V1 := Lib.hid (below_step V0.out hb); clear hb; have HZ0 := hk; clear hk)) | (go_at_call 36; ((with_reducible refine (eqQueue_yes v0 b0 true true _ _ _ _ Px0 _ n0 n0 n0 ys0 _ (HG0.below V1.out).sl HZ0.sl (HG0.below V1.out).le HZ0.le hN0).mono ?_); rintro e u2_1 ⟨rfl, hb⟩; have V2 := Lib.hid (below_step V1.out hb); clear hb)))
  have hb := V2.out
  clear SB V0 V1 V2
  have Z10 := Lib.hid hb.size
  replace HA0 := HA0.below hb
  replace HA1 := HA1.below hb
  replace HX1 := HX1.below hb
  replace HX2 := HX2.below hb
  replace HG0 := HG0.below hb
  replace HX3 := HX3.below hb
  replace HG1 := HG1.below hb
  replace HX4 := HX4.below hb
  replace HB := Lib.hid (below_step HB.out hb)
  clear hb
  clear HZ0
  have l8_0 := HX1.bx.lt
  have l8_1 := HX2.bx.lt
  have l8_2 := HX3.bx.lt
  have l8_3 := HX4.bx.lt
  go_wp2
  clear l8_0 l8_1 l8_2 l8_3
  have SB : Hid (∀ W, Hid (Below u2_1.heap.size u2_1 W) → (fun W => W.cell? ⟨w.heap.size + 1, 0, none⟩ = some (.int .i64 v1) ∧ W.cell? ⟨w.heap.size + 1, 1, none⟩ = some (.bool b1) ∧ W.cell? ⟨w.heap.size + 1, 2, none⟩ = some (.slice A1 n1 c1) ∧ W.cell? ⟨w6.heap.size, 0, none⟩ = some (.int .i64 v1) ∧ W.cell? ⟨w6.heap.size, 1, none⟩ = some (.bool b1) ∧ W.cell? ⟨w6.heap.size, 2, none⟩ = some (.slice Px1 n1 n1)) W) := fun W h => ⟨(HX2.below h.out).look 0, (HX2.below h.out).look 1, (HX2.below h.out).look 2, (HX4.below h.out).look 0, (HX4.below h.out).look 1, (HX4.below h.out).look 2⟩
  have V0 : Hid (Below u2_1.heap.size u2_1 u2_1.drew) := (Below.refl _ _).drew
  go_region_held3 (fun W => W.cell? ⟨w.heap.size + 1, 0, none⟩ = some (.int .i64 v1) ∧ W.cell? ⟨w.heap.size + 1, 1, none⟩ = some (.bool b1) ∧ W.cell? ⟨w.heap.size + 1, 2, none⟩ = some (.slice A1 n1 c1) ∧ W.cell? ⟨w6.heap.size, 0, none⟩ = some (.int .i64 v1) ∧ W.cell? ⟨w6.heap.size, 1, none⟩ = some (.bool b1) ∧ W.cell? ⟨w6.heap.size, 2, none⟩ = some (.slice Px1 n1 n1)) (exact SB.out _ (by assumption))
    (first | (go_at_call 35; ((with_reducible refine (toQueue_any q1 lo1 hi1 v1 b1 A1 n1 c1 ys1 _ (HA1.below V0.out).sl (HA1.below V0.out).le hN1).mono ?_); rintro e u3_0 ⟨Pz1, rfl, hk, hb⟩; have V1 := Lib.hid (below_step V0.out hb); clear hb; have HZ1 := hk; clear hk)) | (go_at_call 36; ((with_reducible refine (eqQueue_yes v1 b1 true true _ _ _ _ Px1 _ n1 n1 n1 ys1 _ (HG1.below V1.out).sl HZ1.sl (HG1.below V1.out).le HZ1.le hN1).mono ?_); rintro e u3_1 ⟨rfl, hb⟩; have V2 := Lib.hid (below_step V1.out hb); clear hb)))
  have hb := V2.out
  clear SB V0 V1 V2
  have Z11 := Lib.hid hb.size
  replace HA0 := HA0.below hb
  replace HA1 := HA1.below hb
  replace HX1 := HX1.below hb
  replace HX2 := HX2.below hb
  replace HG0 := HG0.below hb
  replace HX3 := HX3.below hb
  replace HG1 := HG1.below hb
  replace HX4 := HX4.below hb
  replace HB := Lib.hid (below_step HB.out hb)
  clear hb
  clear HZ1
  have l9_0 := HX1.bx.lt
  have l9_1 := HX2.bx.lt
  have l9_2 := HX3.bx.lt
  have l9_3 := HX4.bx.lt
  go_wp2
  clear l9_0 l9_1 l9_2 l9_3
  go_ret
  exact ⟨rfl, HB.out⟩

end Go.Proofs.Ytomkgohhfllpgaa
