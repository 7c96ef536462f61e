/-
  The walk of the law FnExactEventFault: the program's EventFault answers as the model's.
-/
import Derived.Test.YtiffhjofabaflaaEventFault
namespace Go.Proofs.Ytiffhjofabaflaa
open Go.RowKit
set_option linter.unusedVariables false

set_option maxRecDepth 100000 in
set_option maxHeartbeats 3200000 in
theorem law_EventFault (x0 y0 k0 t0 i0 a0 N0 : Int) (ys0 : List Int) (q0 : Bool) (lo0 hi0 : Nat) (A0 : Option Addr) (n0 c0 : Nat) (w : World) (ha0 : Rep.u8.Sl q0 lo0 hi0 w A0 n0 ys0) (hh0 : hi0 ≤ w.heap.size) (hn0 : n0 ≤ maxLen) :
    Calls Try.prog 8 #[.agg #[.int .i64 x0, .int .i64 y0, .int .i64 k0, .slice A0 n0 c0, .int .i64 t0, .int .i64 i0, .int .i64 a0, .int .i64 N0]] w fun e w' => e = .returned (.bool true) ∧ Below w.heap.size w w' := by
  by_cases hbig0 : (1048576 : Int) - (n0 : Int) < 0
  · have HB := Lib.hid (Below.refl w.heap.size w)
    have HA0 := Rep.Sl.kept ha0 hh0
    clear ha0
    have HR0 : Hid ((if (1048576 : Int) - (n0 : Int) < 0 then -1 else (1048576 : Int) - (n0 : Int)) = -1) := Lib.hid (if_pos hbig0)
    clear hbig0
    go_enter Try.func8, Try.ntmps8
    go_wp2_with fail
    refine Calls.name ?_
    intro U1 hU1
    have hb : Below w.heap.size w U1 := by rw [hU1]; exact ((Below.refl _ _).alloc (Nat.le_refl _) _)
    have zz : Hid (w.heap.size + 1 = U1.heap.size) := Lib.hid (by rw [hU1]; simp)
    have HX1 : Kept w.heap.size (w.heap.size + 1) (BoxK w.heap.size 98 #[.int .i64 x0, .int .i64 y0, .int .i64 k0, .slice A0 n0 c0, .int .i64 t0, .int .i64 i0, .int .i64 a0, .int .i64 N0]) U1 := by rw [hU1]; exact Kept.box (Box.made_at _ _ _ rfl)
    replace HA0 := HA0.below hb
    replace HB := Lib.hid (below_step HB.out hb)
    clear hb
    have Z1 := zz; clear zz
    clear hU1
    refine (szEvent_any x0 y0 k0 t0 i0 a0 N0 A0 n0 c0 1048576 _ hn0 (by omega) (by omega)).mono ?_
    rw [HR0.out]
    rintro e w2 ⟨rfl, hb⟩
    have Z2 := Lib.hid hb.size
    replace HA0 := HA0.below hb
    replace HX1 := HX1.below hb
    replace HB := Lib.hid (below_step HB.out hb)
    clear hb
    have l2_0 := HX1.bx.lt
    go_wp2
    clear l2_0
    go_ret
    exact ⟨rfl, HB.out⟩
  have HR0 : Hid ((if (1048576 : Int) - (n0 : Int) < 0 then -1 else (1048576 : Int) - (n0 : Int)) = (1048576 : Int) - (n0 : Int)) := Lib.hid (if_neg hbig0)
  have hN0 : n0 ≤ 1048576 := by omega
  have hz0 : ¬ ((1048576 : Int) - (n0 : Int) < 0) := hbig0
  clear hbig0
  have HB := Lib.hid (Below.refl w.heap.size w)
  have HA0 := Rep.Sl.kept ha0 hh0
  clear ha0
  obtain ⟨r, hr⟩ : ∃ z, evf x0 y0 k0 ys0 t0 i0 a0 N0 = z := ⟨_, rfl⟩
  have HRR := Lib.hid hr
  clear hr
  go_enter Try.func8, Try.ntmps8
  go_wp2_with fail
  refine Calls.name ?_
  intro U1 hU1
  have hb : Below w.heap.size w U1 := by rw [hU1]; exact ((Below.refl _ _).alloc (Nat.le_refl _) _)
  have zz : Hid (w.heap.size + 1 = U1.heap.size) := Lib.hid (by rw [hU1]; simp)
  have HX1 : Kept w.heap.size (w.heap.size + 1) (BoxK w.heap.size 98 #[.int .i64 x0, .int .i64 y0, .int .i64 k0, .slice A0 n0 c0, .int .i64 t0, .int .i64 i0, .int .i64 a0, .int .i64 N0]) U1 := by rw [hU1]; exact Kept.box (Box.made_at _ _ _ rfl)
  replace HA0 := HA0.below hb
  replace HB := Lib.hid (below_step HB.out hb)
  clear hb
  have Z1 := zz; clear zz
  clear hU1
  refine (szEvent_any x0 y0 k0 t0 i0 a0 N0 A0 n0 c0 1048576 _ hn0 (by omega) (by omega)).mono ?_
  rw [HR0.out]
  rintro e w2 ⟨rfl, hb⟩
  have Z2 := Lib.hid hb.size
  replace HA0 := HA0.below hb
  replace HX1 := HX1.below hb
  replace HB := Lib.hid (below_step HB.out hb)
  clear hb
  have c2_0 := HX1.look 0
  have c2_1 := HX1.look 1
  have c2_2 := HX1.look 2
  have c2_3 := HX1.look 3
  have c2_4 := HX1.look 4
  have c2_5 := HX1.look 5
  have c2_6 := HX1.look 6
  have c2_7 := HX1.look 7
  have l2_0 := HX1.bx.lt
  go_wp2_with fail
  clear c2_0 c2_1 c2_2 c2_3 c2_4 c2_5 c2_6 c2_7 l2_0
  refine (toEvent_any q0 lo0 hi0 A0 n0 c0 ys0 x0 y0 k0 t0 i0 a0 N0 _ HA0.sl HA0.le hN0).mono ?_
  rintro e w3 ⟨Ps0, rfl, hk, hb⟩
  have Z3 := Lib.hid hb.size
  replace HA0 := HA0.below hb
  replace HX1 := HX1.below hb
  replace HB := Lib.hid (below_step HB.out hb)
  clear hb
  have HS0 := hk; clear hk
  have l3_0 := HX1.bx.lt
  go_wp2_with fail
  clear l3_0
  refine (specEventFault_any x0 y0 k0 t0 i0 a0 N0 true _ _ Ps0 n0 n0 ys0 _ HS0.sl HS0.le hN0).mono ?_
  rw [HRR.out]
  rintro e w4 ⟨rfl, hb⟩
  have Z4 := Lib.hid hb.size
  replace HA0 := HA0.below hb
  replace HX1 := HX1.below hb
  replace HS0 := HS0.below hb
  replace HB := Lib.hid (below_step HB.out hb)
  clear hb
  clear HS0
  have c4_0 := HX1.look 0
  have c4_1 := HX1.look 1
  have c4_2 := HX1.look 2
  have c4_3 := HX1.look 3
  have c4_4 := HX1.look 4
  have c4_5 := HX1.look 5
  have c4_6 := HX1.look 6
  have c4_7 := HX1.look 7
  have l4_0 := HX1.bx.lt
  go_wp2_with fail
  clear c4_0 c4_1 c4_2 c4_3 c4_4 c4_5 c4_6 c4_7 l4_0
  refine (toEvent_any q0 lo0 hi0 A0 n0 c0 ys0 x0 y0 k0 t0 i0 a0 N0 _ HA0.sl HA0.le hN0).mono ?_
  rintro e w5 ⟨Px0, rfl, hk, hb⟩
  have Z5 := Lib.hid hb.size
  replace HA0 := HA0.below hb
  replace HX1 := HX1.below hb
  replace HB := Lib.hid (below_step HB.out hb)
  clear hb
  have HG0 := hk; clear hk
  have l5_0 := HX1.bx.lt
  go_wp2_with fail
  clear l5_0
  refine Calls.name ?_
  intro U6 hU6
  have hb : Below w5.heap.size w5 U6 := by rw [hU6]; exact ((Below.refl _ _).alloc (Nat.le_refl _) _)
  have zz : Hid (w5.heap.size + 1 = U6.heap.size) := Lib.hid (by rw [hU6]; simp)
  have HX2 : Kept w5.heap.size (w5.heap.size + 1) (BoxK w5.heap.size 102 #[.int .i64 x0, .int .i64 y0, .int .i64 k0, .slice Px0 n0 n0, .int .i64 t0, .int .i64 i0, .int .i64 a0, .int .i64 N0]) U6 := by rw [hU6]; exact Kept.box (Box.made_at _ _ _ rfl)
  replace HA0 := HA0.below hb
  replace HX1 := HX1.below hb
  replace HG0 := HG0.below hb
  replace HB := Lib.hid (below_step HB.out hb)
  clear hb
  have Z6 := zz; clear zz
  clear hU6
  refine (eventFault_any x0 y0 k0 t0 i0 a0 N0 true _ _ Px0 n0 n0 ys0 _ HG0.sl HG0.le hN0).mono ?_
  rw [HRR.out]
  rintro e w7 ⟨rfl, hb⟩
  have Z7 := Lib.hid hb.size
  replace HA0 := HA0.below hb
  replace HX1 := HX1.below hb
  replace HG0 := HG0.below hb
  replace HX2 := HX2.below hb
  replace HB := Lib.hid (below_step HB.out hb)
  clear hb
  have l6_0 := HX1.bx.lt
  have l6_1 := HX2.bx.lt
  go_wp2
  clear l6_0 l6_1
  have SB : Hid (∀ W, Hid (Below w7.heap.size w7 W) → (fun W => W.cell? ⟨w.heap.size, 0, none⟩ = some (.int .i64 x0) ∧ W.cell? ⟨w.heap.size, 1, none⟩ = some (.int .i64 y0) ∧ W.cell? ⟨w.heap.size, 2, none⟩ = some (.int .i64 k0) ∧ W.cell? ⟨w.heap.size, 3, none⟩ = some (.slice A0 n0 c0) ∧ W.cell? ⟨w.heap.size, 4, none⟩ = some (.int .i64 t0) ∧ W.cell? ⟨w.heap.size, 5, none⟩ = some (.int .i64 i0) ∧ W.cell? ⟨w.heap.size, 6, none⟩ = some (.int .i64 a0) ∧ W.cell? ⟨w.heap.size, 7, none⟩ = some (.int .i64 N0) ∧ W.cell? ⟨w5.heap.size, 0, none⟩ = some (.int .i64 x0) ∧ W.cell? ⟨w5.heap.size, 1, none⟩ = some (.int .i64 y0) ∧ W.cell? ⟨w5.heap.size, 2, none⟩ = some (.int .i64 k0) ∧ W.cell? ⟨w5.heap.size, 3, none⟩ = some (.slice Px0 n0 n0) ∧ W.cell? ⟨w5.heap.size, 4, none⟩ = some (.int .i64 t0) ∧ W.cell? ⟨w5.heap.size, 5, none⟩ = some (.int .i64 i0) ∧ W.cell? ⟨w5.heap.size, 6, none⟩ = some (.int .i64 a0) ∧ W.cell? ⟨w5.heap.size, 7, none⟩ = some (.int .i64 N0)) W) := fun W h => ⟨(HX1.below h.out).look 0, (HX1.below h.out).look 1, (HX1.below h.out).look 2, (HX1.below h.out).look 3, (HX1.below h.out).look 4, (HX1.below h.out).look 5, (HX1.below h.out).look 6, (HX1.below h.out).look 7, (HX2.below h.out).look 0, (HX2.below h.out).look 1, (HX2.below h.out).look 2, (HX2.below h.out).look 3, (HX2.below h.out).look 4, (HX2.below h.out).look 5, (HX2.below h.out).look 6, (HX2.below h.out).look 7⟩
  have V0 : Hid (Below w7.heap.size w7 w7.drew) := (Below.refl _ _).drew
  go_region_held3 (fun W => W.cell? ⟨w.heap.size, 0, none⟩ = some (.int .i64 x0) ∧ W.cell? ⟨w.heap.size, 1, none⟩ = some (.int .i64 y0) ∧ W.cell? ⟨w.heap.size, 2, none⟩ = some (.int .i64 k0) ∧ W.cell? ⟨w.heap.size, 3, none⟩ = some (.slice A0 n0 c0) ∧ W.cell? ⟨w.heap.size, 4, none⟩ = some (.int .i64 t0) ∧ W.cell? ⟨w.heap.size, 5, none⟩ = some (.int .i64 i0) ∧ W.cell? ⟨w.heap.size, 6, none⟩ = some (.int .i64 a0) ∧ W.cell? ⟨w.heap.size, 7, none⟩ = some (.int .i64 N0) ∧ W.cell? ⟨w5.heap.size, 0, none⟩ = some (.int .i64 x0) ∧ W.cell? ⟨w5.heap.size, 1, none⟩ = some (.int .i64 y0) ∧ W.cell? ⟨w5.heap.size, 2, none⟩ = some (.int .i64 k0) ∧ W.cell? ⟨w5.heap.size, 3, none⟩ = some (.slice Px0 n0 n0) ∧ W.cell? ⟨w5.heap.size, 4, none⟩ = some (.int .i64 t0) ∧ W.cell? ⟨w5.heap.size, 5, none⟩ = some (.int .i64 i0) ∧ W.cell? ⟨w5.heap.size, 6, none⟩ = some (.int .i64 a0) ∧ W.cell? ⟨w5.heap.size, 7, none⟩ = some (.int .i64 N0)) (exact SB.out _ (by assumption))
    (first | (go_at_call 71; ((with_reducible refine (toEvent_any q0 lo0 hi0 A0 n0 c0 ys0 x0 y0 k0 t0 i0 a0 N0 _ (HA0.below V0.out).sl (HA0.below V0.out).le hN0).mono ?_); rintro e u1_0 ⟨Pz0, rfl, hk, hb⟩; have V1 := Lib.hid (below_step V0.out hb); clear hb; have HZ0 := hk; clear hk)) | (go_at_call 73; ((with_reducible refine (eqEvent_yes x0 y0 k0 t0 i0 a0 N0 true true _ _ _ _ Px0 _ n0 n0 n0 ys0 _ (HG0.below V1.out).sl HZ0.sl (HG0.below V1.out).le HZ0.le hN0).mono ?_); rintro e u1_1 ⟨rfl, hb⟩; have V2 := Lib.hid (below_step V1.out hb); clear hb)))
  have hb := V2.out
  clear SB V0 V1 V2
  have Z8 := Lib.hid hb.size
  replace HA0 := HA0.below hb
  replace HX1 := HX1.below hb
  replace HG0 := HG0.below hb
  replace HX2 := HX2.below hb
  replace HB := Lib.hid (below_step HB.out hb)
  clear hb
  clear HZ0
  have l7_0 := HX1.bx.lt
  have l7_1 := HX2.bx.lt
  go_wp2
  clear l7_0 l7_1
  go_ret
  exact ⟨rfl, HB.out⟩

end Go.Proofs.Ytiffhjofabaflaa
