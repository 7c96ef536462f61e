/-
  The walk of the law FnExactIsNewer: the program's IsNewer answers as the model's.
-/
import Derived.Test.YtamclkjofojhmaaNewer
namespace Go.Proofs.Ytamclkjofojhmaa
open Go.RowKit
set_option linter.unusedVariables false

set_option maxRecDepth 100000 in
set_option maxHeartbeats 3200000 in
theorem law_IsNewer (l0 : LsaM) (q0 : Bool) (lo0 hi0 : Nat) (A0 B0 : Option Addr) (n0 c0 m0 d0 : Nat) (l1 : LsaM) (q1 : Bool) (lo1 hi1 : Nat) (A1 B1 : Option Addr) (n1 c1 m1 d1 : Nat) (w : World) (ha0 : LsaAt q0 lo0 hi0 w A0 n0 B0 m0 l0) (hn0 : n0 ≤ maxLen) (hm0 : m0 ≤ maxLen) (ha1 : LsaAt q1 lo1 hi1 w A1 n1 B1 m1 l1) (hn1 : n1 ≤ maxLen) (hm1 : m1 ≤ maxLen) :
    Calls Try.prog 8 #[.agg (lsaCells l0 A0 B0 n0 c0 m0 d0), .agg (lsaCells l1 A1 B1 n1 c1 m1 d1)] w fun e w' => e = .returned (.bool true) ∧ Below w.heap.size w w' := by
  by_cases hbig0 : (n0 : Int) + m0 ≤ (1048576 : Int)
  rotate_left
  · have HB := Lib.hid (Below.refl w.heap.size w)
    have HA0 := ha0.kept
    have Zh0 := Lib.hid ha0.le
    clear ha0
    have HA1 := ha1.kept
    have Zh1 := Lib.hid ha1.le
    clear ha1
    go_enter Try.func8, Try.ntmps8
    go_wp2_with fail
    refine Calls.name ?_
    intro U1 hU1
    have hb : Below w.heap.size w U1 := by rw [hU1]; exact (((Below.refl _ _).alloc (Nat.le_refl _) _).alloc (by simp <;> omega) _)
    have zz : Hid (w.heap.size + 2 = U1.heap.size) := Lib.hid (by rw [hU1]; simp)
    have HX1 : Kept w.heap.size (w.heap.size + 1) (BoxK w.heap.size 63 #[.int .i64 l0.age, .int .i64 l0.options, .int .i64 l0.typ, .int .i64 l0.id, .int .i64 l0.adv, .int .i64 l0.seq, .slice A0 n0 c0, .slice B0 m0 d0, .int .i64 l0.mask, .int .i64 l0.cost]) U1 := by rw [hU1]; exact Kept.box ((Box.made_at _ _ _ rfl).over _)
    have HX2 : Kept (w.heap.size + 1) (w.heap.size + 1 + 1) (BoxK (w.heap.size + 1) 63 #[.int .i64 l1.age, .int .i64 l1.options, .int .i64 l1.typ, .int .i64 l1.id, .int .i64 l1.adv, .int .i64 l1.seq, .slice A1 n1 c1, .slice B1 m1 d1, .int .i64 l1.mask, .int .i64 l1.cost]) U1 := by rw [hU1]; exact Kept.box (Box.made_at _ _ _ (by simp <;> omega))
    replace HA0 := HA0.below hb
    replace HA1 := HA1.below hb
    replace HB := Lib.hid (below_step HB.out hb)
    clear hb
    have Z1 := zz; clear zz
    clear hU1
    refine (szLsa_no l0 A0 B0 n0 c0 m0 d0 ((1048576 : Int)) _ (by omega) hn0 hm0 (by omega) (by omega)).mono ?_
    rintro e w2 ⟨rfl, hb⟩
    have Z2 := Lib.hid hb.size
    replace HA0 := HA0.below hb
    replace HA1 := HA1.below hb
    replace HX1 := HX1.below hb
    replace HX2 := HX2.below hb
    replace HB := Lib.hid (below_step HB.out hb)
    clear hb
    have l2_0 := HX1.bx.lt
    have l2_1 := HX2.bx.lt
    go_wp2
    clear l2_0 l2_1
    go_ret
    exact ⟨rfl, HB.out⟩
  have hy0 : ¬ ((1048576 : Int) - n0 - m0 < 0) := by omega
  by_cases hbig1 : (n1 : Int) + m1 ≤ (1048576 : Int) - n0 - m0
  rotate_left
  · have HB := Lib.hid (Below.refl w.heap.size w)
    have HA0 := ha0.kept
    have Zh0 := Lib.hid ha0.le
    clear ha0
    have HA1 := ha1.kept
    have Zh1 := Lib.hid ha1.le
    clear ha1
    go_enter Try.func8, Try.ntmps8
    go_wp2_with fail
    refine Calls.name ?_
    intro U1 hU1
    have hb : Below w.heap.size w U1 := by rw [hU1]; exact (((Below.refl _ _).alloc (Nat.le_refl _) _).alloc (by simp <;> omega) _)
    have zz : Hid (w.heap.size + 2 = U1.heap.size) := Lib.hid (by rw [hU1]; simp)
    have HX1 : Kept w.heap.size (w.heap.size + 1) (BoxK w.heap.size 63 #[.int .i64 l0.age, .int .i64 l0.options, .int .i64 l0.typ, .int .i64 l0.id, .int .i64 l0.adv, .int .i64 l0.seq, .slice A0 n0 c0, .slice B0 m0 d0, .int .i64 l0.mask, .int .i64 l0.cost]) U1 := by rw [hU1]; exact Kept.box ((Box.made_at _ _ _ rfl).over _)
    have HX2 : Kept (w.heap.size + 1) (w.heap.size + 1 + 1) (BoxK (w.heap.size + 1) 63 #[.int .i64 l1.age, .int .i64 l1.options, .int .i64 l1.typ, .int .i64 l1.id, .int .i64 l1.adv, .int .i64 l1.seq, .slice A1 n1 c1, .slice B1 m1 d1, .int .i64 l1.mask, .int .i64 l1.cost]) U1 := by rw [hU1]; exact Kept.box (Box.made_at _ _ _ (by simp <;> omega))
    replace HA0 := HA0.below hb
    replace HA1 := HA1.below hb
    replace HB := Lib.hid (below_step HB.out hb)
    clear hb
    have Z1 := zz; clear zz
    clear hU1
    refine (szLsa_yes l0 A0 B0 n0 c0 m0 d0 ((1048576 : Int)) _ (by omega) (by omega)).mono ?_
    rintro e w2 ⟨rfl, hb⟩
    have Z2 := Lib.hid hb.size
    replace HA0 := HA0.below hb
    replace HA1 := HA1.below hb
    replace HX1 := HX1.below hb
    replace HX2 := HX2.below hb
    replace HB := Lib.hid (below_step HB.out hb)
    clear hb
    have c2_0 := HX2.look 0
    have c2_1 := HX2.look 1
    have c2_2 := HX2.look 2
    have c2_3 := HX2.look 3
    have c2_4 := HX2.look 4
    have c2_5 := HX2.look 5
    have c2_6 := HX2.look 6
    have c2_7 := HX2.look 7
    have c2_8 := HX2.look 8
    have c2_9 := HX2.look 9
    have l2_0 := HX1.bx.lt
    have l2_1 := HX2.bx.lt
    go_wp2_with fail
    clear c2_0 c2_1 c2_2 c2_3 c2_4 c2_5 c2_6 c2_7 c2_8 c2_9 l2_0 l2_1
    refine (szLsa_no l1 A1 B1 n1 c1 m1 d1 ((1048576 : Int) - n0 - m0) _ (by omega) hn1 hm1 (by omega) (by omega)).mono ?_
    rintro e w3 ⟨rfl, hb⟩
    have Z3 := Lib.hid hb.size
    replace HA0 := HA0.below hb
    replace HA1 := HA1.below hb
    replace HX1 := HX1.below hb
    replace HX2 := HX2.below hb
    replace HB := Lib.hid (below_step HB.out hb)
    clear hb
    have l3_0 := HX1.bx.lt
    have l3_1 := HX2.bx.lt
    go_wp2
    clear l3_0 l3_1
    go_ret
    exact ⟨rfl, HB.out⟩
  have hy1 : ¬ ((1048576 : Int) - n0 - m0 - n1 - m1 < 0) := by omega
  have HB := Lib.hid (Below.refl w.heap.size w)
  have HA0 := ha0.kept
  have Zh0 := Lib.hid ha0.le
  clear ha0
  have HA1 := ha1.kept
  have Zh1 := Lib.hid ha1.le
  clear ha1
  have hN0 : n0 ≤ 1048576 := by omega
  have hM0 : m0 ≤ 1048576 := by omega
  have hN1 : n1 ≤ 1048576 := by omega
  have hM1 : m1 ≤ 1048576 := by omega
  obtain ⟨r, hr⟩ : ∃ z, newB l0 l1 = z := ⟨_, rfl⟩
  have HRr := Lib.hid hr
  clear hr
  go_enter Try.func8, Try.ntmps8
  go_wp2_with fail
  refine Calls.name ?_
  intro U1 hU1
  have hb : Below w.heap.size w U1 := by rw [hU1]; exact (((Below.refl _ _).alloc (Nat.le_refl _) _).alloc (by simp <;> omega) _)
  have zz : Hid (w.heap.size + 2 = U1.heap.size) := Lib.hid (by rw [hU1]; simp)
  have HX1 : Kept w.heap.size (w.heap.size + 1) (BoxK w.heap.size 63 #[.int .i64 l0.age, .int .i64 l0.options, .int .i64 l0.typ, .int .i64 l0.id, .int .i64 l0.adv, .int .i64 l0.seq, .slice A0 n0 c0, .slice B0 m0 d0, .int .i64 l0.mask, .int .i64 l0.cost]) U1 := by rw [hU1]; exact Kept.box ((Box.made_at _ _ _ rfl).over _)
  have HX2 : Kept (w.heap.size + 1) (w.heap.size + 1 + 1) (BoxK (w.heap.size + 1) 63 #[.int .i64 l1.age, .int .i64 l1.options, .int .i64 l1.typ, .int .i64 l1.id, .int .i64 l1.adv, .int .i64 l1.seq, .slice A1 n1 c1, .slice B1 m1 d1, .int .i64 l1.mask, .int .i64 l1.cost]) U1 := by rw [hU1]; exact Kept.box (Box.made_at _ _ _ (by simp <;> omega))
  replace HA0 := HA0.below hb
  replace HA1 := HA1.below hb
  replace HB := Lib.hid (below_step HB.out hb)
  clear hb
  have Z1 := zz; clear zz
  clear hU1
  refine (szLsa_yes l0 A0 B0 n0 c0 m0 d0 ((1048576 : Int)) _ (by omega) (by omega)).mono ?_
  rintro e w2 ⟨rfl, hb⟩
  have Z2 := Lib.hid hb.size
  replace HA0 := HA0.below hb
  replace HA1 := HA1.below hb
  replace HX1 := HX1.below hb
  replace HX2 := HX2.below hb
  replace HB := Lib.hid (below_step HB.out hb)
  clear hb
  have c2_0 := HX2.look 0
  have c2_1 := HX2.look 1
  have c2_2 := HX2.look 2
  have c2_3 := HX2.look 3
  have c2_4 := HX2.look 4
  have c2_5 := HX2.look 5
  have c2_6 := HX2.look 6
  have c2_7 := HX2.look 7
  have c2_8 := HX2.look 8
  have c2_9 := HX2.look 9
  have l2_0 := HX1.bx.lt
  have l2_1 := HX2.bx.lt
  go_wp2_with fail
  clear c2_0 c2_1 c2_2 c2_3 c2_4 c2_5 c2_6 c2_7 c2_8 c2_9 l2_0 l2_1
  refine (szLsa_yes l1 A1 B1 n1 c1 m1 d1 ((1048576 : Int) - n0 - m0) _ (by omega) (by omega)).mono ?_
  rintro e w3 ⟨rfl, hb⟩
  have Z3 := Lib.hid hb.size
  replace HA0 := HA0.below hb
  replace HA1 := HA1.below hb
  replace HX1 := HX1.below hb
  replace HX2 := HX2.below hb
  replace HB := Lib.hid (below_step HB.out hb)
  clear hb
  have l3_0 := HX1.bx.lt
  have l3_1 := HX2.bx.lt
  go_wp2_with fail
  clear l3_0 l3_1
  have SB : Hid (∀ W, Hid (Below w3.heap.size w3 W) → (fun W => W.cell? ⟨w.heap.size, 0, none⟩ = some (.int .i64 l0.age) ∧ W.cell? ⟨w.heap.size, 1, none⟩ = some (.int .i64 l0.options) ∧ W.cell? ⟨w.heap.size, 2, none⟩ = some (.int .i64 l0.typ) ∧ W.cell? ⟨w.heap.size, 3, none⟩ = some (.int .i64 l0.id) ∧ W.cell? ⟨w.heap.size, 4, none⟩ = some (.int .i64 l0.adv) ∧ W.cell? ⟨w.heap.size, 5, none⟩ = some (.int .i64 l0.seq) ∧ W.cell? ⟨w.heap.size, 6, none⟩ = some (.slice A0 n0 c0) ∧ W.cell? ⟨w.heap.size, 7, none⟩ = some (.slice B0 m0 d0) ∧ W.cell? ⟨w.heap.size, 8, none⟩ = some (.int .i64 l0.mask) ∧ W.cell? ⟨w.heap.size, 9, none⟩ = some (.int .i64 l0.cost) ∧ W.cell? ⟨w.heap.size + 1, 0, none⟩ = some (.int .i64 l1.age) ∧ W.cell? ⟨w.heap.size + 1, 1, none⟩ = some (.int .i64 l1.options) ∧ W.cell? ⟨w.heap.size + 1, 2, none⟩ = some (.int .i64 l1.typ) ∧ W.cell? ⟨w.heap.size + 1, 3, none⟩ = some (.int .i64 l1.id) ∧ W.cell? ⟨w.heap.size + 1, 4, none⟩ = some (.int .i64 l1.adv) ∧ W.cell? ⟨w.heap.size + 1, 5, none⟩ = some (.int .i64 l1.seq) ∧ W.cell? ⟨w.heap.size + 1, 6, none⟩ = some (.slice A1 n1 c1) ∧ W.cell? ⟨w.heap.size + 1, 7, none⟩ = some (.slice B1 m1 d1) ∧ W.cell? ⟨w.heap.size + 1, 8, none⟩ = some (.int .i64 l1.mask) ∧ W.cell? ⟨w.heap.size + 1, 9, none⟩ = some (.int .i64 l1.cost)) W) := fun W h => ⟨(HX1.below h.out).look 0, (HX1.below h.out).look 1, (HX1.below h.out).look 2, (HX1.below h.out).look 3, (HX1.below h.out).look 4, (HX1.below h.out).look 5, (HX1.below h.out).look 6, (HX1.below h.out).look 7, (HX1.below h.out).look 8, (HX1.below h.out).look 9, (HX2.below h.out).look 0, (HX2.below h.out).look 1, (HX2.below h.out).look 2, (HX2.below h.out).look 3, (HX2.below h.out).look 4, (HX2.below h.out).look 5, (HX2.below h.out).look 6, (HX2.below h.out).look 7, (HX2.below h.out).look 8, (HX2.below h.out).look 9⟩
  have V0 : Hid (Below w3.heap.size w3 w3.drew) := (Below.refl _ _).drew
  go_region_held3 (fun W => W.cell? ⟨w.heap.size, 0, none⟩ = some (.int .i64 l0.age) ∧ W.cell? ⟨w.heap.size, 1, none⟩ = some (.int .i64 l0.options) ∧ W.cell? ⟨w.heap.size, 2, none⟩ = some (.int .i64 l0.typ) ∧ W.cell? ⟨w.heap.size, 3, none⟩ = some (.int .i64 l0.id) ∧ W.cell? ⟨w.heap.size, 4, none⟩ = some (.int .i64 l0.adv) ∧ W.cell? ⟨w.heap.size, 5, none⟩ = some (.int .i64 l0.seq) ∧ W.cell? ⟨w.heap.size, 6, none⟩ = some (.slice A0 n0 c0) ∧ W.cell? ⟨w.heap.size, 7, none⟩ = some (.slice B0 m0 d0) ∧ W.cell? ⟨w.heap.size, 8, none⟩ = some (.int .i64 l0.mask) ∧ W.cell? ⟨w.heap.size, 9, none⟩ = some (.int .i64 l0.cost) ∧ W.cell? ⟨w.heap.size + 1, 0, none⟩ = some (.int .i64 l1.age) ∧ W.cell? ⟨w.heap.size + 1, 1, none⟩ = some (.int .i64 l1.options) ∧ W.cell? ⟨w.heap.size + 1, 2, none⟩ = some (.int .i64 l1.typ) ∧ W.cell? ⟨w.heap.size + 1, 3, none⟩ = some (.int .i64 l1.id) ∧ W.cell? ⟨w.heap.size + 1, 4, none⟩ = some (.int .i64 l1.adv) ∧ W.cell? ⟨w.heap.size + 1, 5, none⟩ = some (.int .i64 l1.seq) ∧ W.cell? ⟨w.heap.size + 1, 6, none⟩ = some (.slice A1 n1 c1) ∧ W.cell? ⟨w.heap.size + 1, 7, none⟩ = some (.slice B1 m1 d1) ∧ W.cell? ⟨w.heap.size + 1, 8, none⟩ = some (.int .i64 l1.mask) ∧ W.cell? ⟨w.heap.size + 1, 9, none⟩ = some (.int .i64 l1.cost)) (exact SB.out _ (by assumption))
    (first | (go_at_call 47; ((with_reducible refine (toLsa_at l0 q0 lo0 hi0 A0 B0 n0 c0 m0 d0 _ (HA0.below V0.out).lsa hN0 hM0).mono ?_); rintro e u1_0 ⟨Ps0, Qs0, rfl, hs, hb⟩; have V1 := Lib.hid (below_step V0.out hb); clear hb; have HS0 := hs.kept; clear hs)) | (go_at_call 47; ((with_reducible refine (toLsa_at l1 q1 lo1 hi1 A1 B1 n1 c1 m1 d1 _ (HA1.below V1.out).lsa hN1 hM1).mono ?_); rintro e u1_1 ⟨Ps1, Qs1, rfl, hs, hb⟩; have V2 := Lib.hid (below_step V1.out hb); (try replace HS0 := HS0.below hb); clear hb; have HS1 := hs.kept; clear hs)) | (go_at_call 50; ((with_reducible refine (specIsNewer_any l0 true _ _ Ps0 Qs0 n0 n0 m0 m0 l1 true _ _ Ps1 Qs1 n1 n1 m1 m1 _ HS0.lsa hN0 hM0 HS1.lsa hN1 hM1).mono ?_); rw [HRr.out]; rintro e u1_2 ⟨rfl, hb⟩; have V3 := Lib.hid (below_step V2.out hb); (try replace HS0 := HS0.below hb); clear hb)))
  have hb := V3.out
  clear SB V0 V1 V2 V3
  have Z4 := Lib.hid hb.size
  replace HA0 := HA0.below hb
  replace HA1 := HA1.below hb
  replace HX1 := HX1.below hb
  replace HX2 := HX2.below hb
  replace HB := Lib.hid (below_step HB.out hb)
  clear hb
  clear HS0 HS1
  have c4_0 := HX1.look 0
  have c4_1 := HX1.look 1
  have c4_2 := HX1.look 2
  have c4_3 := HX1.look 3
  have c4_4 := HX1.look 4
  have c4_5 := HX1.look 5
  have c4_6 := HX1.look 6
  have c4_7 := HX1.look 7
  have c4_8 := HX1.look 8
  have c4_9 := HX1.look 9
  have l4_0 := HX1.bx.lt
  have l4_1 := HX2.bx.lt
  go_wp2_with fail
  clear c4_0 c4_1 c4_2 c4_3 c4_4 c4_5 c4_6 c4_7 c4_8 c4_9 l4_0 l4_1
  refine (toLsa_at l0 q0 lo0 hi0 A0 B0 n0 c0 m0 d0 _ HA0.lsa hN0 hM0).mono ?_
  rintro e w4 ⟨Px0, Qx0, rfl, hs, hb⟩
  have Z5 := Lib.hid hb.size
  replace HA0 := HA0.below hb
  replace HA1 := HA1.below hb
  replace HX1 := HX1.below hb
  replace HX2 := HX2.below hb
  replace HB := Lib.hid (below_step HB.out hb)
  clear hb
  have HG0 := hs.kept; clear hs
  have c5_0 := HX2.look 0
  have c5_1 := HX2.look 1
  have c5_2 := HX2.look 2
  have c5_3 := HX2.look 3
  have c5_4 := HX2.look 4
  have c5_5 := HX2.look 5
  have c5_6 := HX2.look 6
  have c5_7 := HX2.look 7
  have c5_8 := HX2.look 8
  have c5_9 := HX2.look 9
  have l5_0 := HX1.bx.lt
  have l5_1 := HX2.bx.lt
  go_wp2_with fail
  clear c5_0 c5_1 c5_2 c5_3 c5_4 c5_5 c5_6 c5_7 c5_8 c5_9 l5_0 l5_1
  refine Calls.name ?_
  intro U5 hU5
  have hb : Below w4.heap.size w4 U5 := by rw [hU5]; exact ((Below.refl _ _).alloc (Nat.le_refl _) _)
  have zz : Hid (w4.heap.size + 1 = U5.heap.size) := Lib.hid (by rw [hU5]; simp)
  have HX3 : Kept w4.heap.size (w4.heap.size + 1) (BoxK w4.heap.size 29 #[.int .i64 l0.age, .int .i64 l0.options, .int .i64 l0.typ, .int .i64 l0.id, .int .i64 l0.adv, .int .i64 l0.seq, .slice Px0 n0 n0, .slice Qx0 m0 m0, .int .i64 l0.mask, .int .i64 l0.cost]) U5 := by rw [hU5]; exact Kept.box (Box.made_at _ _ _ rfl)
  replace HA0 := HA0.below hb
  replace HA1 := HA1.below hb
  replace HX1 := HX1.below hb
  replace HX2 := HX2.below hb
  replace HG0 := HG0.below hb
  replace HB := Lib.hid (below_step HB.out hb)
  clear hb
  have Z6 := zz; clear zz
  clear hU5
  refine (toLsa_at l1 q1 lo1 hi1 A1 B1 n1 c1 m1 d1 _ HA1.lsa hN1 hM1).mono ?_
  rintro e w6 ⟨Px1, Qx1, rfl, hs, hb⟩
  have Z7 := Lib.hid hb.size
  replace HA0 := HA0.below hb
  replace HA1 := HA1.below hb
  replace HX1 := HX1.below hb
  replace HX2 := HX2.below hb
  replace HG0 := HG0.below hb
  replace HX3 := HX3.below hb
  replace HB := Lib.hid (below_step HB.out hb)
  clear hb
  have HG1 := hs.kept; clear hs
  have c6_0 := HX3.look 0
  have c6_1 := HX3.look 1
  have c6_2 := HX3.look 2
  have c6_3 := HX3.look 3
  have c6_4 := HX3.look 4
  have c6_5 := HX3.look 5
  have c6_6 := HX3.look 6
  have c6_7 := HX3.look 7
  have c6_8 := HX3.look 8
  have c6_9 := HX3.look 9
  have l6_0 := HX1.bx.lt
  have l6_1 := HX2.bx.lt
  have l6_2 := HX3.bx.lt
  go_wp2_with fail
  clear c6_0 c6_1 c6_2 c6_3 c6_4 c6_5 c6_6 c6_7 c6_8 c6_9 l6_0 l6_1 l6_2
  refine Calls.name ?_
  intro U7 hU7
  have hb : Below w6.heap.size w6 U7 := by rw [hU7]; exact ((Below.refl _ _).alloc (Nat.le_refl _) _)
  have zz : Hid (w6.heap.size + 1 = U7.heap.size) := Lib.hid (by rw [hU7]; simp)
  have HX4 : Kept w6.heap.size (w6.heap.size + 1) (BoxK w6.heap.size 29 #[.int .i64 l1.age, .int .i64 l1.options, .int .i64 l1.typ, .int .i64 l1.id, .int .i64 l1.adv, .int .i64 l1.seq, .slice Px1 n1 n1, .slice Qx1 m1 m1, .int .i64 l1.mask, .int .i64 l1.cost]) U7 := by rw [hU7]; exact Kept.box (Box.made_at _ _ _ rfl)
  replace HA0 := HA0.below hb
  replace HA1 := HA1.below hb
  replace HX1 := HX1.below hb
  replace HX2 := HX2.below hb
  replace HG0 := HG0.below hb
  replace HX3 := HX3.below hb
  replace HG1 := HG1.below hb
  replace HB := Lib.hid (below_step HB.out hb)
  clear hb
  have Z8 := zz; clear zz
  clear hU7
  refine (isNewer_any l0 true _ _ Px0 Qx0 n0 n0 m0 m0 l1 true _ _ Px1 Qx1 n1 n1 m1 m1 _ HG0.lsa hN0 hM0 HG1.lsa hN1 hM1).mono ?_
  rw [HRr.out]
  rintro e w8 ⟨rfl, hb⟩
  have Z9 := Lib.hid hb.size
  replace HA0 := HA0.below hb
  replace HA1 := HA1.below hb
  replace HX1 := HX1.below hb
  replace HX2 := HX2.below hb
  replace HG0 := HG0.below hb
  replace HX3 := HX3.below hb
  replace HG1 := HG1.below hb
  replace HX4 := HX4.below hb
  replace HB := Lib.hid (below_step HB.out hb)
  clear hb
  have l7_0 := HX1.bx.lt
  have l7_1 := HX2.bx.lt
  have l7_2 := HX3.bx.lt
  have l7_3 := HX4.bx.lt
  go_wp2
  clear l7_0 l7_1 l7_2 l7_3
  have SB : Hid (∀ W, Hid (Below w8.heap.size w8 W) → (fun W => W.cell? ⟨w.heap.size, 0, none⟩ = some (.int .i64 l0.age) ∧ W.cell? ⟨w.heap.size, 1, none⟩ = some (.int .i64 l0.options) ∧ W.cell? ⟨w.heap.size, 2, none⟩ = some (.int .i64 l0.typ) ∧ W.cell? ⟨w.heap.size, 3, none⟩ = some (.int .i64 l0.id) ∧ W.cell? ⟨w.heap.size, 4, none⟩ = some (.int .i64 l0.adv) ∧ W.cell? ⟨w.heap.size, 5, none⟩ = some (.int .i64 l0.seq) ∧ W.cell? ⟨w.heap.size, 6, none⟩ = some (.slice A0 n0 c0) ∧ W.cell? ⟨w.heap.size, 7, none⟩ = some (.slice B0 m0 d0) ∧ W.cell? ⟨w.heap.size, 8, none⟩ = some (.int .i64 l0.mask) ∧ W.cell? ⟨w.heap.size, 9, none⟩ = some (.int .i64 l0.cost) ∧ W.cell? ⟨w4.heap.size, 0, none⟩ = some (.int .i64 l0.age) ∧ W.cell? ⟨w4.heap.size, 1, none⟩ = some (.int .i64 l0.options) ∧ W.cell? ⟨w4.heap.size, 2, none⟩ = some (.int .i64 l0.typ) ∧ W.cell? ⟨w4.heap.size, 3, none⟩ = some (.int .i64 l0.id) ∧ W.cell? ⟨w4.heap.size, 4, none⟩ = some (.int .i64 l0.adv) ∧ W.cell? ⟨w4.heap.size, 5, none⟩ = some (.int .i64 l0.seq) ∧ W.cell? ⟨w4.heap.size, 6, none⟩ = some (.slice Px0 n0 n0) ∧ W.cell? ⟨w4.heap.size, 7, none⟩ = some (.slice Qx0 m0 m0) ∧ W.cell? ⟨w4.heap.size, 8, none⟩ = some (.int .i64 l0.mask) ∧ W.cell? ⟨w4.heap.size, 9, none⟩ = some (.int .i64 l0.cost)) W) := fun W h => ⟨(HX1.below h.out).look 0, (HX1.below h.out).look 1, (HX1.below h.out).look 2, (HX1.below h.out).look 3, (HX1.below h.out).look 4, (HX1.below h.out).look 5, (HX1.below h.out).look 6, (HX1.below h.out).look 7, (HX1.below h.out).look 8, (HX1.below h.out).look 9, (HX3.below h.out).look 0, (HX3.below h.out).look 1, (HX3.below h.out).look 2, (HX3.below h.out).look 3, (HX3.below h.out).look 4, (HX3.below h.out).look 5, (HX3.below h.out).look 6, (HX3.below h.out).look 7, (HX3.below h.out).look 8, (HX3.below h.out).look 9⟩
  have V0 : Hid (Below w8.heap.size w8 w8.drew) := (Below.refl _ _).drew
  go_region_held3 (fun W => W.cell? ⟨w.heap.size, 0, none⟩ = some (.int .i64 l0.age) ∧ W.cell? ⟨w.heap.size, 1, none⟩ = some (.int .i64 l0.options) ∧ W.cell? ⟨w.heap.size, 2, none⟩ = some (.int .i64 l0.typ) ∧ W.cell? ⟨w.heap.size, 3, none⟩ = some (.int .i64 l0.id) ∧ W.cell? ⟨w.heap.size, 4, none⟩ = some (.int .i64 l0.adv) ∧ W.cell? ⟨w.heap.size, 5, none⟩ = some (.int .i64 l0.seq) ∧ W.cell? ⟨w.heap.size, 6, none⟩ = some (.slice A0 n0 c0) ∧ W.cell? ⟨w.heap.size, 7, none⟩ = some (.slice B0 m0 d0) ∧ W.cell? ⟨w.heap.size, 8, none⟩ = some (.int .i64 l0.mask) ∧ W.cell? ⟨w.heap.size, 9, none⟩ = some (.int .i64 l0.cost) ∧ W.cell? ⟨w4.heap.size, 0, none⟩ = some (.int .i64 l0.age) ∧ W.cell? ⟨w4.heap.size, 1, none⟩ = some (.int .i64 l0.options) ∧ W.cell? ⟨w4.heap.size, 2, none⟩ = some (.int .i64 l0.typ) ∧ W.cell? ⟨w4.heap.size, 3, none⟩ = some (.int .i64 l0.id) ∧ W.cell? ⟨w4.heap.size, 4, none⟩ = some (.int .i64 l0.adv) ∧ W.cell? ⟨w4.heap.size, 5, none⟩ = some (.int .i64 l0.seq) ∧ W.cell? ⟨w4.heap.size, 6, none⟩ = some (.slice Px0 n0 n0) ∧ W.cell? ⟨w4.heap.size, 7, none⟩ = some (.slice Qx0 m0 m0) ∧ W.cell? ⟨w4.heap.size, 8, none⟩ = some (.int .i64 l0.mask) ∧ W.cell? ⟨w4.heap.size, 9, none⟩ = some (.int .i64 l0.cost)) (exact SB.out _ (by assumption))
    (first | (go_at_call 47; ((with_reducible refine (toLsa_at l0 q0 lo0 hi0 A0 B0 n0 c0 m0 d0 _ (HA0.below V0.out).lsa hN0 hM0).mono ?_); rintro e u2_0 ⟨Pz0, Qz0, rfl, hs, hb⟩; have V1 := Lib.hid (below_step V0.out hb); clear hb; have HZ0 := hs.kept; clear hs)) | (go_at_call 49; ((with_reducible refine (eqLsa_at l0 _ _ _ _ _ _ Px0 Qx0 _ _ n0 n0 m0 m0 n0 m0 _ (HG0.below V1.out).lsa HZ0.lsa hN0 hM0).mono ?_); rintro e u2_1 ⟨rfl, hb⟩; have V2 := Lib.hid (below_step V1.out hb); clear hb)))
  have hb := V2.out
  clear SB V0 V1 V2
  have Z10 := Lib.hid hb.size
  replace HA0 := HA0.below hb
  replace HA1 := HA1.below hb
  replace HX1 := HX1.below hb
  replace HX2 := HX2.below hb
  replace HG0 := HG0.below hb
  replace HX3 := HX3.below hb
  replace HG1 := HG1.below hb
  replace HX4 := HX4.below hb
  replace HB := Lib.hid (below_step HB.out hb)
  clear hb
  clear HZ0
  have l8_0 := HX1.bx.lt
  have l8_1 := HX2.bx.lt
  have l8_2 := HX3.bx.lt
  have l8_3 := HX4.bx.lt
  go_wp2
  clear l8_0 l8_1 l8_2 l8_3
  have SB : Hid (∀ W, Hid (Below u2_1.heap.size u2_1 W) → (fun W => W.cell? ⟨w.heap.size + 1, 0, none⟩ = some (.int .i64 l1.age) ∧ W.cell? ⟨w.heap.size + 1, 1, none⟩ = some (.int .i64 l1.options) ∧ W.cell? ⟨w.heap.size + 1, 2, none⟩ = some (.int .i64 l1.typ) ∧ W.cell? ⟨w.heap.size + 1, 3, none⟩ = some (.int .i64 l1.id) ∧ W.cell? ⟨w.heap.size + 1, 4, none⟩ = some (.int .i64 l1.adv) ∧ W.cell? ⟨w.heap.size + 1, 5, none⟩ = some (.int .i64 l1.seq) ∧ W.cell? ⟨w.heap.size + 1, 6, none⟩ = some (.slice A1 n1 c1) ∧ W.cell? ⟨w.heap.size + 1, 7, none⟩ = some (.slice B1 m1 d1) ∧ W.cell? ⟨w.heap.size + 1, 8, none⟩ = some (.int .i64 l1.mask) ∧ W.cell? ⟨w.heap.size + 1, 9, none⟩ = some (.int .i64 l1.cost) ∧ W.cell? ⟨w6.heap.size, 0, none⟩ = some (.int .i64 l1.age) ∧ W.cell? ⟨w6.heap.size, 1, none⟩ = some (.int .i64 l1.options) ∧ W.cell? ⟨w6.heap.size, 2, none⟩ = some (.int .i64 l1.typ) ∧ W.cell? ⟨w6.heap.size, 3, none⟩ = some (.int .i64 l1.id) ∧ W.cell? ⟨w6.heap.size, 4, none⟩ = some (.int .i64 l1.adv) ∧ W.cell? ⟨w6.heap.size, 5, none⟩ = some (.int .i64 l1.seq) ∧ W.cell? ⟨w6.heap.size, 6, none⟩ = some (.slice Px1 n1 n1) ∧ W.cell? ⟨w6.heap.size, 7, none⟩ = some (.slice Qx1 m1 m1) ∧ W.cell? ⟨w6.heap.size, 8, none⟩ = some (.int .i64 l1.mask) ∧ W.cell? ⟨w6.heap.size, 9, none⟩ = some (.int .i64 l1.cost)) W) := fun W h => ⟨(HX2.below h.out).look 0, (HX2.below h.out).look 1, (HX2.below h.out).look 2, (HX2.below h.out).look 3, (HX2.below h.out).look 4, (HX2.below h.out).look 5, (HX2.below h.out).look 6, (HX2.below h.out).look 7, (HX2.below h.out).look 8, (HX2.below h.out).look 9, (HX4.below h.out).look 0, (HX4.below h.out).look 1, (HX4.below h.out).look 2, (HX4.below h.out).look 3, (HX4.below h.out).look 4, (HX4.below h.out).look 5, (HX4.below h.out).look 6, (HX4.below h.out).look 7, (HX4.below h.out).look 8, (HX4.below h.out).look 9⟩
  have V0 : Hid (Below u2_1.heap.size u2_1 u2_1.drew) := (Below.refl _ _).drew
  go_region_held3 (fun W => W.cell? ⟨w.heap.size + 1, 0, none⟩ = some (.int .i64 l1.age) ∧ W.cell? ⟨w.heap.size + 1, 1, none⟩ = some (.int .i64 l1.options) ∧ W.cell? ⟨w.heap.size + 1, 2, none⟩ = some (.int .i64 l1.typ) ∧ W.cell? ⟨w.heap.size + 1, 3, none⟩ = some (.int .i64 l1.id) ∧ W.cell? ⟨w.heap.size + 1, 4, none⟩ = some (.int .i64 l1.adv) ∧ W.cell? ⟨w.heap.size + 1, 5, none⟩ = some (.int .i64 l1.seq) ∧ W.cell? ⟨w.heap.size + 1, 6, none⟩ = some (.slice A1 n1 c1) ∧ W.cell? ⟨w.heap.size + 1, 7, none⟩ = some (.slice B1 m1 d1) ∧ W.cell? ⟨w.heap.size + 1, 8, none⟩ = some (.int .i64 l1.mask) ∧ W.cell? ⟨w.heap.size + 1, 9, none⟩ = some (.int .i64 l1.cost) ∧ W.cell? ⟨w6.heap.size, 0, none⟩ = some (.int .i64 l1.age) ∧ W.cell? ⟨w6.heap.size, 1, none⟩ = some (.int .i64 l1.options) ∧ W.cell? ⟨w6.heap.size, 2, none⟩ = some (.int .i64 l1.typ) ∧ W.cell? ⟨w6.heap.size, 3, none⟩ = some (.int .i64 l1.id) ∧ W.cell? ⟨w6.heap.size, 4, none⟩ = some (.int .i64 l1.adv) ∧ W.cell? ⟨w6.heap.size, 5, none⟩ = some (.int .i64 l1.seq) ∧ W.cell? ⟨w6.heap.size, 6, none⟩ = some (.slice Px1 n1 n1) ∧ W.cell? ⟨w6.heap.size, 7, none⟩ = some (.slice Qx1 m1 m1) ∧ W.cell? ⟨w6.heap.size, 8, none⟩ = some (.int .i64 l1.mask) ∧ W.cell? ⟨w6.heap.size, 9, none⟩ = some (.int .i64 l1.cost)) (exact SB.out _ (by assumption))
    (first | (go_at_call 47; ((with_reducible refine (toLsa_at l1 q1 lo1 hi1 A1 B1 n1 c1 m1 d1 _ (HA1.below V0.out).lsa hN1 hM1).mono ?_); rintro e u3_0 ⟨Pz1, Qz1, rfl, hs, hb⟩; have V1 := Lib.hid (below_step V0.out hb); clear hb; have HZ1 := hs.kept; clear hs)) | (go_at_call 49; ((with_reducible refine (eqLsa_at l1 _ _ _ _ _ _ Px1 Qx1 _ _ n1 n1 m1 m1 n1 m1 _ (HG1.below V1.out).lsa HZ1.lsa hN1 hM1).mono ?_); rintro e u3_1 ⟨rfl, hb⟩; have V2 := Lib.hid (below_step V1.out hb); clear hb)))
  have hb := V2.out
  clear SB V0 V1 V2
  have Z11 := Lib.hid hb.size
  replace HA0 := HA0.below hb
  replace HA1 := HA1.below hb
  replace HX1 := HX1.below hb
  replace HX2 := HX2.below hb
  replace HG0 := HG0.below hb
  replace HX3 := HX3.below hb
  replace HG1 := HG1.below hb
  replace HX4 := HX4.below hb
  replace HB := Lib.hid (below_step HB.out hb)
  clear hb
  clear HZ1
  have l9_0 := HX1.bx.lt
  have l9_1 := HX2.bx.lt
  have l9_2 := HX3.bx.lt
  have l9_3 := HX4.bx.lt
  go_wp2
  clear l9_0 l9_1 l9_2 l9_3
  go_ret
  exact ⟨rfl, HB.out⟩

end Go.Proofs.Ytamclkjofojhmaa
