/-
  The walk of the law FnExactConfigFault: the program's ConfigFault answers as the model's.
-/
import Derived.Test.YtiffhjofabaflaaConfigFault
namespace Go.Proofs.Ytiffhjofabaflaa
open Go.RowKit
set_option linter.unusedVariables false

set_option maxRecDepth 100000 in
set_option maxHeartbeats 3200000 in
theorem law_ConfigFault (v0 u0 : Int) (ys0 : List Int) (q0 : Bool) (lo0 hi0 : Nat) (A0 : Option Addr) (n0 c0 : Nat) (w : World) (ha0 : Rep.int.Sl q0 lo0 hi0 w A0 n0 ys0) (hh0 : hi0 ≤ w.heap.size) (hn0 : n0 ≤ maxLen) :
    Calls Try.prog 6 #[.agg #[.int .i64 v0, .int .i64 u0, .slice A0 n0 c0]] w fun e w' => e = .returned (.bool true) ∧ Below w.heap.size w w' := by
  by_cases hbig0 : (1048576 : Int) - (n0 : Int) < 0
  · have HB := Lib.hid (Below.refl w.heap.size w)
    have HA0 := Rep.Sl.kept ha0 hh0
    clear ha0
    have HR0 : Hid ((if (1048576 : Int) - (n0 : Int) < 0 then -1 else (1048576 : Int) - (n0 : Int)) = -1) := Lib.hid (if_pos hbig0)
    clear hbig0
    go_enter Try.func6, Try.ntmps6
    go_wp2_with fail
    refine Calls.name ?_
    intro U1 hU1
    have hb : Below w.heap.size w U1 := by rw [hU1]; exact ((Below.refl _ _).alloc (Nat.le_refl _) _)
    have zz : Hid (w.heap.size + 1 = U1.heap.size) := Lib.hid (by rw [hU1]; simp)
    have HX1 : Kept w.heap.size (w.heap.size + 1) (BoxK w.heap.size 80 #[.int .i64 v0, .int .i64 u0, .slice A0 n0 c0]) U1 := by rw [hU1]; exact Kept.box (Box.made_at _ _ _ rfl)
    replace HA0 := HA0.below hb
    replace HB := Lib.hid (below_step HB.out hb)
    clear hb
    have Z1 := zz; clear zz
    clear hU1
    refine (szConfig_any v0 u0 A0 n0 c0 1048576 _ hn0 (by omega) (by omega)).mono ?_
    rw [HR0.out]
    rintro e w2 ⟨rfl, hb⟩
    have Z2 := Lib.hid hb.size
    replace HA0 := HA0.below hb
    replace HX1 := HX1.below hb
    replace HB := Lib.hid (below_step HB.out hb)
    clear hb
    have l2_0 := HX1.bx.lt
    go_wp2
    clear l2_0
    go_ret
    exact ⟨rfl, HB.out⟩
  have HR0 : Hid ((if (1048576 : Int) - (n0 : Int) < 0 then -1 else (1048576 : Int) - (n0 : Int)) = (1048576 : Int) - (n0 : Int)) := Lib.hid (if_neg hbig0)
  have hN0 : n0 ≤ 1048576 := by omega
  have hz0 : ¬ ((1048576 : Int) - (n0 : Int) < 0) := hbig0
  clear hbig0
  have HB := Lib.hid (Below.refl w.heap.size w)
  have HA0 := Rep.Sl.kept ha0 hh0
  clear ha0
  obtain ⟨r, hr⟩ : ∃ z, cf v0 u0 ys0 = z := ⟨_, rfl⟩
  have HRR := Lib.hid hr
  clear hr
  go_enter Try.func6, Try.ntmps6
  go_wp2_with fail
  refine Calls.name ?_
  intro U1 hU1
  have hb : Below w.heap.size w U1 := by rw [hU1]; exact ((Below.refl _ _).alloc (Nat.le_refl _) _)
  have zz : Hid (w.heap.size + 1 = U1.heap.size) := Lib.hid (by rw [hU1]; simp)
  have HX1 : Kept w.heap.size (w.heap.size + 1) (BoxK w.heap.size 80 #[.int .i64 v0, .int .i64 u0, .slice A0 n0 c0]) U1 := by rw [hU1]; exact Kept.box (Box.made_at _ _ _ rfl)
  replace HA0 := HA0.below hb
  replace HB := Lib.hid (below_step HB.out hb)
  clear hb
  have Z1 := zz; clear zz
  clear hU1
  refine (szConfig_any v0 u0 A0 n0 c0 1048576 _ hn0 (by omega) (by omega)).mono ?_
  rw [HR0.out]
  rintro e w2 ⟨rfl, hb⟩
  have Z2 := Lib.hid hb.size
  replace HA0 := HA0.below hb
  replace HX1 := HX1.below hb
  replace HB := Lib.hid (below_step HB.out hb)
  clear hb
  have c2_0 := HX1.look 0
  have c2_1 := HX1.look 1
  have c2_2 := HX1.look 2
  have l2_0 := HX1.bx.lt
  go_wp2_with fail
  clear c2_0 c2_1 c2_2 l2_0
  refine (toConfig_any q0 lo0 hi0 v0 u0 A0 n0 c0 ys0 _ HA0.sl HA0.le hN0).mono ?_
  rintro e w3 ⟨Ps0, rfl, hk, hb⟩
  have Z3 := Lib.hid hb.size
  replace HA0 := HA0.below hb
  replace HX1 := HX1.below hb
  replace HB := Lib.hid (below_step HB.out hb)
  clear hb
  have HS0 := hk; clear hk
  have l3_0 := HX1.bx.lt
  go_wp2_with fail
  clear l3_0
  refine (specConfigFault_any v0 u0 true _ _ Ps0 n0 n0 ys0 _ HS0.sl HS0.le hN0).mono ?_
  rw [HRR.out]
  rintro e w4 ⟨rfl, hb⟩
  have Z4 := Lib.hid hb.size
  replace HA0 := HA0.below hb
  replace HX1 := HX1.below hb
  replace HS0 := HS0.below hb
  replace HB := Lib.hid (below_step HB.out hb)
  clear hb
  clear HS0
  have c4_0 := HX1.look 0
  have c4_1 := HX1.look 1
  have c4_2 := HX1.look 2
  have l4_0 := HX1.bx.lt
  go_wp2_with fail
  clear c4_0 c4_1 c4_2 l4_0
  refine (toConfig_any q0 lo0 hi0 v0 u0 A0 n0 c0 ys0 _ HA0.sl HA0.le hN0).mono ?_
  rintro e w5 ⟨Px0, rfl, hk, hb⟩
  have Z5 := Lib.hid hb.size
  replace HA0 := HA0.below hb
  replace HX1 := HX1.below hb
  replace HB := Lib.hid (below_step HB.out hb)
  clear hb
  have HG0 := hk; clear hk
  have l5_0 := HX1.bx.lt
  go_wp2_with fail
  clear l5_0
  refine Calls.name ?_
  intro U6 hU6
  have hb : Below w5.heap.size w5 U6 := by rw [hU6]; exact ((Below.refl _ _).alloc (Nat.le_refl _) _)
  have zz : Hid (w5.heap.size + 1 = U6.heap.size) := Lib.hid (by rw [hU6]; simp)
  have HX2 : Kept w5.heap.size (w5.heap.size + 1) (BoxK w5.heap.size 83 #[.int .i64 v0, .int .i64 u0, .slice Px0 n0 n0]) U6 := by rw [hU6]; exact Kept.box (Box.made_at _ _ _ rfl)
  replace HA0 := HA0.below hb
  replace HX1 := HX1.below hb
  replace HG0 := HG0.below hb
  replace HB := Lib.hid (below_step HB.out hb)
  clear hb
  have Z6 := zz; clear zz
  clear hU6
  refine (configFault_any v0 u0 true _ _ Px0 n0 n0 ys0 _ HG0.sl HG0.le hN0).mono ?_
  rw [HRR.out]
  rintro e w7 ⟨rfl, hb⟩
  have Z7 := Lib.hid hb.size
  replace HA0 := HA0.below hb
  replace HX1 := HX1.below hb
  replace HG0 := HG0.below hb
  replace HX2 := HX2.below hb
  replace HB := Lib.hid (below_step HB.out hb)
  clear hb
  have l6_0 := HX1.bx.lt
  have l6_1 := HX2.bx.lt
  go_wp2
  clear l6_0 l6_1
  have SB : Hid (∀ W, Hid (Below w7.heap.size w7 W) → (fun W => W.cell? ⟨w.heap.size, 0, none⟩ = some (.int .i64 v0) ∧ W.cell? ⟨w.heap.size, 1, none⟩ = some (.int .i64 u0) ∧ W.cell? ⟨w.heap.size, 2, none⟩ = some (.slice A0 n0 c0) ∧ W.cell? ⟨w5.heap.size, 0, none⟩ = some (.int .i64 v0) ∧ W.cell? ⟨w5.heap.size, 1, none⟩ = some (.int .i64 u0) ∧ W.cell? ⟨w5.heap.size, 2, none⟩ = some (.slice Px0 n0 n0)) W) := fun W h => ⟨(HX1.below h.out).look 0, (HX1.below h.out).look 1, (HX1.below h.out).look 2, (HX2.below h.out).look 0, (HX2.below h.out).look 1, (HX2.below h.out).look 2⟩
  have V0 : Hid (Below w7.heap.size w7 w7.drew) := (Below.refl _ _).drew
  go_region_held3 (fun W => W.cell? ⟨w.heap.size, 0, none⟩ = some (.int .i64 v0) ∧ W.cell? ⟨w.heap.size, 1, none⟩ = some (.int .i64 u0) ∧ W.cell? ⟨w.heap.size, 2, none⟩ = some (.slice A0 n0 c0) ∧ W.cell? ⟨w5.heap.size, 0, none⟩ = some (.int .i64 v0) ∧ W.cell? ⟨w5.heap.size, 1, none⟩ = some (.int .i64 u0) ∧ W.cell? ⟨w5.heap.size, 2, none⟩ = some (.slice Px0 n0 n0)) (exact SB.out _ (by assumption))
    (first | (go_at_call 61; ((with_reducible refine (toConfig_any q0 lo0 hi0 v0 u0 A0 n0 c0 ys0 _ (HA0.below V0.out).sl (HA0.below V0.out).le hN0).mono ?_); rintro e u1_0 ⟨Pz0, rfl, hk, hb⟩; have V1 := Lib.hid (below_step V0.out hb); clear hb; have HZ0 := hk; clear hk)) | (go_at_call 63; ((with_reducible refine (eqConfig_yes v0 u0 true true _ _ _ _ Px0 _ n0 n0 n0 ys0 _ (HG0.below V1.out).sl HZ0.sl (HG0.below V1.out).le HZ0.le hN0).mono ?_); rintro e u1_1 ⟨rfl, hb⟩; have V2 := Lib.hid (below_step V1.out hb); clear hb)))
  have hb := V2.out
  clear SB V0 V1 V2
  have Z8 := Lib.hid hb.size
  replace HA0 := HA0.below hb
  replace HX1 := HX1.below hb
  replace HG0 := HG0.below hb
  replace HX2 := HX2.below hb
  replace HB := Lib.hid (below_step HB.out hb)
  clear hb
  clear HZ0
  have l7_0 := HX1.bx.lt
  have l7_1 := HX2.bx.lt
  go_wp2
  clear l7_0 l7_1
  go_ret
  exact ⟨rfl, HB.out⟩

end Go.Proofs.Ytiffhjofabaflaa
