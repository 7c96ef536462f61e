/-
  The walk of the law FnExactFlushLsa: the program's FlushLsa answers as the model's, in new memory.
-/
import Derived.Test.YtamclkjofojhmaaAgeLsa
import Derived.Test.YtamclkjofojhmaaHeldLsa
namespace Go.Proofs.Ytamclkjofojhmaa
open Go.RowKit
set_option linter.unusedVariables false

set_option maxRecDepth 100000 in
set_option maxHeartbeats 3200000 in
theorem law_FlushLsa (l0 : LsaM) (q0 : Bool) (lo0 hi0 : Nat) (A0 B0 : Option Addr) (n0 c0 m0 d0 : Nat) (w : World) (ha0 : LsaAt q0 lo0 hi0 w A0 n0 B0 m0 l0) (hn0 : n0 ≤ maxLen) (hm0 : m0 ≤ maxLen) :
    Calls Try.prog 10 #[.agg (lsaCells l0 A0 B0 n0 c0 m0 d0)] w fun e w' => e = .returned (.bool true) ∧ Below w.heap.size w w' := by
  by_cases hbig0 : (n0 : Int) + m0 ≤ (1048576 : Int)
  rotate_left
  · have HB := Lib.hid (Below.refl w.heap.size w)
    have HA0 := ha0.kept
    have Zh0 := Lib.hid ha0.le
    clear ha0
    go_enter Try.func10, Try.ntmps10
    go_wp2_with fail
    refine Calls.name ?_
    intro U1 hU1
    have hb : Below w.heap.size w U1 := by rw [hU1]; exact ((Below.refl _ _).alloc (Nat.le_refl _) _)
    have zz : Hid (w.heap.size + 1 = U1.heap.size) := Lib.hid (by rw [hU1]; simp)
    have HX1 : Kept w.heap.size (w.heap.size + 1) (BoxK w.heap.size 63 #[.int .i64 l0.age, .int .i64 l0.options, .int .i64 l0.typ, .int .i64 l0.id, .int .i64 l0.adv, .int .i64 l0.seq, .slice A0 n0 c0, .slice B0 m0 d0, .int .i64 l0.mask, .int .i64 l0.cost]) U1 := by rw [hU1]; exact Kept.box (Box.made_at _ _ _ rfl)
    replace HA0 := HA0.below hb
    replace HB := Lib.hid (below_step HB.out hb)
    clear hb
    have Z1 := zz; clear zz
    clear hU1
    refine (szLsa_no l0 A0 B0 n0 c0 m0 d0 ((1048576 : Int)) _ (by omega) hn0 hm0 (by omega) (by omega)).mono ?_
    rintro e w2 ⟨rfl, hb⟩
    have Z2 := Lib.hid hb.size
    replace HA0 := HA0.below hb
    replace HX1 := HX1.below hb
    replace HB := Lib.hid (below_step HB.out hb)
    clear hb
    have l2_0 := HX1.bx.lt
    go_wp2
    clear l2_0
    go_ret
    exact ⟨rfl, HB.out⟩
  have hy0 : ¬ ((1048576 : Int) - n0 - m0 < 0) := by omega
  have HB := Lib.hid (Below.refl w.heap.size w)
  have HA0 := ha0.kept
  have Zh0 := Lib.hid ha0.le
  clear ha0
  have hN0 : n0 ≤ 1048576 := by omega
  have hM0 : m0 ≤ 1048576 := by omega
  obtain ⟨r, hr⟩ : ∃ z, ageC l0 3600 = z := ⟨_, rfl⟩
  have HRr := Lib.hid hr
  clear hr
  obtain ⟨x, hr⟩ : ∃ z, ageM l0 3600 = z := ⟨_, rfl⟩
  have HRx := Lib.hid hr
  clear hr
  go_enter Try.func10, Try.ntmps10
  go_wp2_with fail
  refine Calls.name ?_
  intro U1 hU1
  have hb : Below w.heap.size w U1 := by rw [hU1]; exact ((Below.refl _ _).alloc (Nat.le_refl _) _)
  have zz : Hid (w.heap.size + 1 = U1.heap.size) := Lib.hid (by rw [hU1]; simp)
  have HX1 : Kept w.heap.size (w.heap.size + 1) (BoxK w.heap.size 63 #[.int .i64 l0.age, .int .i64 l0.options, .int .i64 l0.typ, .int .i64 l0.id, .int .i64 l0.adv, .int .i64 l0.seq, .slice A0 n0 c0, .slice B0 m0 d0, .int .i64 l0.mask, .int .i64 l0.cost]) U1 := by rw [hU1]; exact Kept.box (Box.made_at _ _ _ rfl)
  replace HA0 := HA0.below hb
  replace HB := Lib.hid (below_step HB.out hb)
  clear hb
  have Z1 := zz; clear zz
  clear hU1
  refine (szLsa_yes l0 A0 B0 n0 c0 m0 d0 ((1048576 : Int)) _ (by omega) (by omega)).mono ?_
  rintro e w2 ⟨rfl, hb⟩
  have Z2 := Lib.hid hb.size
  replace HA0 := HA0.below hb
  replace HX1 := HX1.below hb
  replace HB := Lib.hid (below_step HB.out hb)
  clear hb
  have c2_0 := HX1.look 0
  have c2_1 := HX1.look 1
  have c2_2 := HX1.look 2
  have c2_3 := HX1.look 3
  have c2_4 := HX1.look 4
  have c2_5 := HX1.look 5
  have c2_6 := HX1.look 6
  have c2_7 := HX1.look 7
  have c2_8 := HX1.look 8
  have c2_9 := HX1.look 9
  have l2_0 := HX1.bx.lt
  go_wp2_with fail
  clear c2_0 c2_1 c2_2 c2_3 c2_4 c2_5 c2_6 c2_7 c2_8 c2_9 l2_0
  refine (toLsa_at l0 q0 lo0 hi0 A0 B0 n0 c0 m0 d0 _ HA0.lsa hN0 hM0).mono ?_
  rintro e w3 ⟨Ps, Qs, rfl, hs, hb⟩
  have Z3 := Lib.hid hb.size
  replace HA0 := HA0.below hb
  replace HX1 := HX1.below hb
  replace HB := Lib.hid (below_step HB.out hb)
  clear hb
  have HS := hs.kept; clear hs
  have l3_0 := HX1.bx.lt
  go_wp2_with fail
  clear l3_0
  refine (specFlush_any l0 true _ _ Ps Qs n0 n0 m0 m0 _ HS.lsa hN0 hM0).mono ?_
  rw [HRr.out, HRx.out]
  rintro e w4 ⟨E0, F0, j0, b0, s0, t0, rfl, ht, hj0, hs0, hb⟩
  have Z4 := Lib.hid hb.size
  replace HA0 := HA0.below hb
  replace HX1 := HX1.below hb
  replace HS := HS.below hb
  replace HB := Lib.hid (below_step HB.out hb)
  clear hb
  have HO0 := ht.kept; clear ht
  have HQ : Hid (x.links.length = j0 ∧ x.routers.length = s0) := Lib.hid ⟨HO0.two.at_.in_.links.1, HO0.two.at_.in_.routers.1⟩
  clear HS
  have c4_0 := HX1.look 0
  have c4_1 := HX1.look 1
  have c4_2 := HX1.look 2
  have c4_3 := HX1.look 3
  have c4_4 := HX1.look 4
  have c4_5 := HX1.look 5
  have c4_6 := HX1.look 6
  have c4_7 := HX1.look 7
  have c4_8 := HX1.look 8
  have c4_9 := HX1.look 9
  have l4_0 := HX1.bx.lt
  go_wp2_with fail
  clear c4_0 c4_1 c4_2 c4_3 c4_4 c4_5 c4_6 c4_7 c4_8 c4_9 l4_0
  refine Calls.name ?_
  intro U5 hU5
  have hb : Below w4.heap.size w4 U5 := by rw [hU5]; exact ((Below.refl _ _).alloc (Nat.le_refl _) _)
  have zz : Hid (w4.heap.size + 1 = U5.heap.size) := Lib.hid (by rw [hU5]; simp)
  have HX2 : Kept w4.heap.size (w4.heap.size + 1) (BoxK w4.heap.size 36 #[.int .i64 r, .int .i64 x.age, .int .i64 x.options, .int .i64 x.typ, .int .i64 x.id, .int .i64 x.adv, .int .i64 x.seq, .slice E0 j0 b0, .slice F0 s0 t0, .int .i64 x.mask, .int .i64 x.cost]) U5 := by rw [hU5]; exact Kept.box (Box.made_at _ _ _ rfl)
  replace HA0 := HA0.below hb
  replace HX1 := HX1.below hb
  replace HO0 := HO0.below hb
  replace HB := Lib.hid (below_step HB.out hb)
  clear hb
  have Z5 := zz; clear zz
  clear hU5
  refine (toLsa_at l0 q0 lo0 hi0 A0 B0 n0 c0 m0 d0 _ HA0.lsa hN0 hM0).mono ?_
  rintro e w6 ⟨Px0, Qx0, rfl, hs, hb⟩
  have Z6 := Lib.hid hb.size
  replace HA0 := HA0.below hb
  replace HX1 := HX1.below hb
  replace HO0 := HO0.below hb
  replace HX2 := HX2.below hb
  replace HB := Lib.hid (below_step HB.out hb)
  clear hb
  have HG0 := hs.kept; clear hs
  have l5_0 := HX1.bx.lt
  have l5_1 := HX2.bx.lt
  go_wp2_with fail
  clear l5_0 l5_1
  refine Calls.name ?_
  intro U7 hU7
  have hb : Below w6.heap.size w6 U7 := by rw [hU7]; exact ((Below.refl _ _).alloc (Nat.le_refl _) _)
  have zz : Hid (w6.heap.size + 1 = U7.heap.size) := Lib.hid (by rw [hU7]; simp)
  have HX3 : Kept w6.heap.size (w6.heap.size + 1) (BoxK w6.heap.size 29 #[.int .i64 l0.age, .int .i64 l0.options, .int .i64 l0.typ, .int .i64 l0.id, .int .i64 l0.adv, .int .i64 l0.seq, .slice Px0 n0 n0, .slice Qx0 m0 m0, .int .i64 l0.mask, .int .i64 l0.cost]) U7 := by rw [hU7]; exact Kept.box (Box.made_at _ _ _ rfl)
  replace HA0 := HA0.below hb
  replace HX1 := HX1.below hb
  replace HO0 := HO0.below hb
  replace HX2 := HX2.below hb
  replace HG0 := HG0.below hb
  replace HB := Lib.hid (below_step HB.out hb)
  clear hb
  have Z7 := zz; clear zz
  clear hU7
  refine (flush_any l0 true _ _ Px0 Qx0 n0 n0 m0 m0 _ HG0.lsa hN0 hM0).mono ?_
  rw [HRr.out, HRx.out]
  rintro e w8 ⟨E1, F1, j1, b1, s1, t1, rfl, ht, hj1, hs1, hb⟩
  have Z8 := Lib.hid hb.size
  replace HA0 := HA0.below hb
  replace HX1 := HX1.below hb
  replace HO0 := HO0.below hb
  replace HX2 := HX2.below hb
  replace HG0 := HG0.below hb
  replace HX3 := HX3.below hb
  replace HB := Lib.hid (below_step HB.out hb)
  clear hb
  have HO1 := ht.kept; clear ht
  obtain rfl : j0 = j1 := by have := HO1.two.at_.in_.links.1; have := HO0.two.at_.in_.links.1; omega
  obtain rfl : s0 = s1 := by have := HO1.two.at_.in_.routers.1; have := HO0.two.at_.in_.routers.1; omega
  have c6_0 := HX2.look 0
  have c6_1 := HX2.look 1
  have c6_2 := HX2.look 2
  have c6_3 := HX2.look 3
  have c6_4 := HX2.look 4
  have c6_5 := HX2.look 5
  have c6_6 := HX2.look 6
  have c6_7 := HX2.look 7
  have c6_8 := HX2.look 8
  have c6_9 := HX2.look 9
  have c6_10 := HX2.look 10
  have l6_0 := HX1.bx.lt
  have l6_1 := HX2.bx.lt
  have l6_2 := HX3.bx.lt
  go_wp2_with fail
  clear c6_0 c6_1 c6_2 c6_3 c6_4 c6_5 c6_6 c6_7 c6_8 c6_9 c6_10 l6_0 l6_1 l6_2
  refine Calls.name ?_
  intro U9 hU9
  have hb : Below w8.heap.size w8 U9 := by rw [hU9]; exact ((Below.refl _ _).alloc (Nat.le_refl _) _)
  have zz : Hid (w8.heap.size + 1 = U9.heap.size) := Lib.hid (by rw [hU9]; simp)
  have HX4 : Kept w8.heap.size (w8.heap.size + 1) (BoxK w8.heap.size 36 #[.int .i64 r, .int .i64 x.age, .int .i64 x.options, .int .i64 x.typ, .int .i64 x.id, .int .i64 x.adv, .int .i64 x.seq, .slice E1 j0 b1, .slice F1 s0 t1, .int .i64 x.mask, .int .i64 x.cost]) U9 := by rw [hU9]; exact Kept.box (Box.made_at _ _ _ rfl)
  replace HA0 := HA0.below hb
  replace HX1 := HX1.below hb
  replace HO0 := HO0.below hb
  replace HX2 := HX2.below hb
  replace HG0 := HG0.below hb
  replace HX3 := HX3.below hb
  replace HO1 := HO1.below hb
  replace HB := Lib.hid (below_step HB.out hb)
  clear hb
  have Z9 := zz; clear zz
  clear hU9
  refine (eqLsaResult_yes r x _ _ _ _ _ _ E1 F1 E0 F0 j0 b1 s0 t1 b0 t0 _ HO1.two.at_ HO0.two.at_ hj0 hs0).mono ?_
  rintro e w10 ⟨rfl, hb⟩
  have Z10 := Lib.hid hb.size
  replace HA0 := HA0.below hb
  replace HX1 := HX1.below hb
  replace HO0 := HO0.below hb
  replace HX2 := HX2.below hb
  replace HG0 := HG0.below hb
  replace HX3 := HX3.below hb
  replace HO1 := HO1.below hb
  replace HX4 := HX4.below hb
  replace HB := Lib.hid (below_step HB.out hb)
  clear hb
  have l7_0 := HX1.bx.lt
  have l7_1 := HX2.bx.lt
  have l7_2 := HX3.bx.lt
  have l7_3 := HX4.bx.lt
  go_wp2
  clear l7_0 l7_1 l7_2 l7_3
  have SB : Hid (∀ W, Hid (Below w10.heap.size w10 W) → (fun W => W.cell? ⟨w.heap.size, 0, none⟩ = some (.int .i64 l0.age) ∧ W.cell? ⟨w.heap.size, 1, none⟩ = some (.int .i64 l0.options) ∧ W.cell? ⟨w.heap.size, 2, none⟩ = some (.int .i64 l0.typ) ∧ W.cell? ⟨w.heap.size, 3, none⟩ = some (.int .i64 l0.id) ∧ W.cell? ⟨w.heap.size, 4, none⟩ = some (.int .i64 l0.adv) ∧ W.cell? ⟨w.heap.size, 5, none⟩ = some (.int .i64 l0.seq) ∧ W.cell? ⟨w.heap.size, 6, none⟩ = some (.slice A0 n0 c0) ∧ W.cell? ⟨w.heap.size, 7, none⟩ = some (.slice B0 m0 d0) ∧ W.cell? ⟨w.heap.size, 8, none⟩ = some (.int .i64 l0.mask) ∧ W.cell? ⟨w.heap.size, 9, none⟩ = some (.int .i64 l0.cost) ∧ W.cell? ⟨w6.heap.size, 0, none⟩ = some (.int .i64 l0.age) ∧ W.cell? ⟨w6.heap.size, 1, none⟩ = some (.int .i64 l0.options) ∧ W.cell? ⟨w6.heap.size, 2, none⟩ = some (.int .i64 l0.typ) ∧ W.cell? ⟨w6.heap.size, 3, none⟩ = some (.int .i64 l0.id) ∧ W.cell? ⟨w6.heap.size, 4, none⟩ = some (.int .i64 l0.adv) ∧ W.cell? ⟨w6.heap.size, 5, none⟩ = some (.int .i64 l0.seq) ∧ W.cell? ⟨w6.heap.size, 6, none⟩ = some (.slice Px0 n0 n0) ∧ W.cell? ⟨w6.heap.size, 7, none⟩ = some (.slice Qx0 m0 m0) ∧ W.cell? ⟨w6.heap.size, 8, none⟩ = some (.int .i64 l0.mask) ∧ W.cell? ⟨w6.heap.size, 9, none⟩ = some (.int .i64 l0.cost)) W) := fun W h => ⟨(HX1.below h.out).look 0, (HX1.below h.out).look 1, (HX1.below h.out).look 2, (HX1.below h.out).look 3, (HX1.below h.out).look 4, (HX1.below h.out).look 5, (HX1.below h.out).look 6, (HX1.below h.out).look 7, (HX1.below h.out).look 8, (HX1.below h.out).look 9, (HX3.below h.out).look 0, (HX3.below h.out).look 1, (HX3.below h.out).look 2, (HX3.below h.out).look 3, (HX3.below h.out).look 4, (HX3.below h.out).look 5, (HX3.below h.out).look 6, (HX3.below h.out).look 7, (HX3.below h.out).look 8, (HX3.below h.out).look 9⟩
  have V0 : Hid (Below w10.heap.size w10 w10.drew) := (Below.refl _ _).drew
  go_region_held3 (fun W => W.cell? ⟨w.heap.size, 0, none⟩ = some (.int .i64 l0.age) ∧ W.cell? ⟨w.heap.size, 1, none⟩ = some (.int .i64 l0.options) ∧ W.cell? ⟨w.heap.size, 2, none⟩ = some (.int .i64 l0.typ) ∧ W.cell? ⟨w.heap.size, 3, none⟩ = some (.int .i64 l0.id) ∧ W.cell? ⟨w.heap.size, 4, none⟩ = some (.int .i64 l0.adv) ∧ W.cell? ⟨w.heap.size, 5, none⟩ = some (.int .i64 l0.seq) ∧ W.cell? ⟨w.heap.size, 6, none⟩ = some (.slice A0 n0 c0) ∧ W.cell? ⟨w.heap.size, 7, none⟩ = some (.slice B0 m0 d0) ∧ W.cell? ⟨w.heap.size, 8, none⟩ = some (.int .i64 l0.mask) ∧ W.cell? ⟨w.heap.size, 9, none⟩ = some (.int .i64 l0.cost) ∧ W.cell? ⟨w6.heap.size, 0, none⟩ = some (.int .i64 l0.age) ∧ W.cell? ⟨w6.heap.size, 1, none⟩ = some (.int .i64 l0.options) ∧ W.cell? ⟨w6.heap.size, 2, none⟩ = some (.int .i64 l0.typ) ∧ W.cell? ⟨w6.heap.size, 3, none⟩ = some (.int .i64 l0.id) ∧ W.cell? ⟨w6.heap.size, 4, none⟩ = some (.int .i64 l0.adv) ∧ W.cell? ⟨w6.heap.size, 5, none⟩ = some (.int .i64 l0.seq) ∧ W.cell? ⟨w6.heap.size, 6, none⟩ = some (.slice Px0 n0 n0) ∧ W.cell? ⟨w6.heap.size, 7, none⟩ = some (.slice Qx0 m0 m0) ∧ W.cell? ⟨w6.heap.size, 8, none⟩ = some (.int .i64 l0.mask) ∧ W.cell? ⟨w6.heap.size, 9, none⟩ = some (.int .i64 l0.cost)) (exact SB.out _ (by assumption))
    (first | (go_at_call 47; ((with_reducible refine (toLsa_at l0 q0 lo0 hi0 A0 B0 n0 c0 m0 d0 _ (HA0.below V0.out).lsa hN0 hM0).mono ?_); rintro e u1_0 ⟨Pz, Qz, rfl, hs, hb⟩; have V1 := Lib.hid (below_step V0.out hb); clear hb; have HZ := hs.kept; clear hs)) | (go_at_call 49; ((with_reducible refine (eqLsa_at l0 _ _ _ _ _ _ Px0 Qx0 _ _ n0 n0 m0 m0 n0 m0 _ (HG0.below V1.out).lsa HZ.lsa hN0 hM0).mono ?_); rintro e u1_1 ⟨rfl, hb⟩; have V2 := Lib.hid (below_step V1.out hb); clear hb)))
  have hb := V2.out
  clear SB V0 V1 V2
  have Z11 := Lib.hid hb.size
  replace HA0 := HA0.below hb
  replace HX1 := HX1.below hb
  replace HO0 := HO0.below hb
  replace HX2 := HX2.below hb
  replace HG0 := HG0.below hb
  replace HX3 := HX3.below hb
  replace HO1 := HO1.below hb
  replace HX4 := HX4.below hb
  replace HB := Lib.hid (below_step HB.out hb)
  clear hb
  have c8_0 := HX3.look 0
  have c8_1 := HX3.look 1
  have c8_2 := HX3.look 2
  have c8_3 := HX3.look 3
  have c8_4 := HX3.look 4
  have c8_5 := HX3.look 5
  have c8_6 := HX3.look 6
  have c8_7 := HX3.look 7
  have c8_8 := HX3.look 8
  have c8_9 := HX3.look 9
  have l8_0 := HX1.bx.lt
  have l8_1 := HX2.bx.lt
  have l8_2 := HX3.bx.lt
  have l8_3 := HX4.bx.lt
  go_wp2_with fail
  clear c8_0 c8_1 c8_2 c8_3 c8_4 c8_5 c8_6 c8_7 c8_8 c8_9 l8_0 l8_1 l8_2 l8_3
  refine (markLsa_only l0 _ _ Px0 Qx0 n0 n0 m0 m0 1 _ HG0.lsa hN0 hM0 (by omega) (by omega)).mono ?_
  rintro e w11 ⟨kk, hkk, rfl, ho⟩
  have Z12 := Lib.hid ho.size
  replace HA0 := HA0.only ho (by have := Zh0.out; have := Z1.out; have := Z2.out; have := Z3.out; have := Z4.out; have := Z5.out; have := Z6.out; have := Z7.out; have := Z8.out; have := Z9.out; have := Z10.out; have := Z11.out; have := Z12.out; omega)
  replace HX1 := HX1.only ho (by have := Zh0.out; have := Z1.out; have := Z2.out; have := Z3.out; have := Z4.out; have := Z5.out; have := Z6.out; have := Z7.out; have := Z8.out; have := Z9.out; have := Z10.out; have := Z11.out; have := Z12.out; omega)
  replace HO0 := HO0.only ho (by have := Zh0.out; have := Z1.out; have := Z2.out; have := Z3.out; have := Z4.out; have := Z5.out; have := Z6.out; have := Z7.out; have := Z8.out; have := Z9.out; have := Z10.out; have := Z11.out; have := Z12.out; omega)
  replace HX2 := HX2.only ho (by have := Zh0.out; have := Z1.out; have := Z2.out; have := Z3.out; have := Z4.out; have := Z5.out; have := Z6.out; have := Z7.out; have := Z8.out; have := Z9.out; have := Z10.out; have := Z11.out; have := Z12.out; omega)
  replace HX3 := HX3.only ho (by have := Zh0.out; have := Z1.out; have := Z2.out; have := Z3.out; have := Z4.out; have := Z5.out; have := Z6.out; have := Z7.out; have := Z8.out; have := Z9.out; have := Z10.out; have := Z11.out; have := Z12.out; omega)
  replace HO1 := HO1.only ho (by have := Zh0.out; have := Z1.out; have := Z2.out; have := Z3.out; have := Z4.out; have := Z5.out; have := Z6.out; have := Z7.out; have := Z8.out; have := Z9.out; have := Z10.out; have := Z11.out; have := Z12.out; omega)
  replace HX4 := HX4.only ho (by have := Zh0.out; have := Z1.out; have := Z2.out; have := Z3.out; have := Z4.out; have := Z5.out; have := Z6.out; have := Z7.out; have := Z8.out; have := Z9.out; have := Z10.out; have := Z11.out; have := Z12.out; omega)
  replace HB := Lib.hid (Below.only HB.out ho (by have := Zh0.out; have := Z1.out; have := Z2.out; have := Z3.out; have := Z4.out; have := Z5.out; have := Z6.out; have := Z7.out; have := Z8.out; have := Z9.out; have := Z10.out; have := Z11.out; have := Z12.out; omega) HB.out.size)
  clear ho
  clear HG0
  have hkk' : ¬ kk < 0 := by omega
  have c9_0 := HX2.look 0
  have c9_1 := HX2.look 1
  have c9_2 := HX2.look 2
  have c9_3 := HX2.look 3
  have c9_4 := HX2.look 4
  have c9_5 := HX2.look 5
  have c9_6 := HX2.look 6
  have c9_7 := HX2.look 7
  have c9_8 := HX2.look 8
  have c9_9 := HX2.look 9
  have c9_10 := HX2.look 10
  have c9_11 := HX4.look 0
  have c9_12 := HX4.look 1
  have c9_13 := HX4.look 2
  have c9_14 := HX4.look 3
  have c9_15 := HX4.look 4
  have c9_16 := HX4.look 5
  have c9_17 := HX4.look 6
  have c9_18 := HX4.look 7
  have c9_19 := HX4.look 8
  have c9_20 := HX4.look 9
  have c9_21 := HX4.look 10
  have l9_0 := HX1.bx.lt
  have l9_1 := HX2.bx.lt
  have l9_2 := HX3.bx.lt
  have l9_3 := HX4.bx.lt
  go_wp2_with fail
  clear c9_0 c9_1 c9_2 c9_3 c9_4 c9_5 c9_6 c9_7 c9_8 c9_9 c9_10 c9_11 c9_12 c9_13 c9_14 c9_15 c9_16 c9_17 c9_18 c9_19 c9_20 c9_21 l9_0 l9_1 l9_2 l9_3
  refine (eqLsaResult_yes r x _ _ _ _ _ _ E1 F1 E0 F0 j0 b1 s0 t1 b0 t0 _ HO1.two.at_ HO0.two.at_ hj0 hs0).mono ?_
  rintro e w12 ⟨rfl, hb⟩
  have Z13 := Lib.hid hb.size
  replace HA0 := HA0.below hb
  replace HX1 := HX1.below hb
  replace HO0 := HO0.below hb
  replace HX2 := HX2.below hb
  replace HX3 := HX3.below hb
  replace HO1 := HO1.below hb
  replace HX4 := HX4.below hb
  replace HB := Lib.hid (below_step HB.out hb)
  clear hb
  have c10_0 := HX4.look 0
  have c10_1 := HX4.look 1
  have c10_2 := HX4.look 2
  have c10_3 := HX4.look 3
  have c10_4 := HX4.look 4
  have c10_5 := HX4.look 5
  have c10_6 := HX4.look 6
  have c10_7 := HX4.look 7
  have c10_8 := HX4.look 8
  have c10_9 := HX4.look 9
  have c10_10 := HX4.look 10
  have l10_0 := HX1.bx.lt
  have l10_1 := HX2.bx.lt
  have l10_2 := HX3.bx.lt
  have l10_3 := HX4.bx.lt
  go_wp2_with fail
  clear c10_0 c10_1 c10_2 c10_3 c10_4 c10_5 c10_6 c10_7 c10_8 c10_9 c10_10 l10_0 l10_1 l10_2 l10_3
  refine (markLsaResult_two r x _ _ E1 F1 j0 b1 s0 t1 1 _ HO1.two hj0 hs0 (by omega) (by omega)).mono ?_
  rintro e w13 ⟨rfl, ht, ho⟩
  have Z14 := Lib.hid ho.size
  replace HA0 := HA0.only ho (by have := Zh0.out; have := Z1.out; have := Z2.out; have := Z3.out; have := Z4.out; have := Z5.out; have := Z6.out; have := Z7.out; have := Z8.out; have := Z9.out; have := Z10.out; have := Z11.out; have := Z12.out; have := Z13.out; have := Z14.out; omega)
  replace HX1 := HX1.only ho (by have := Zh0.out; have := Z1.out; have := Z2.out; have := Z3.out; have := Z4.out; have := Z5.out; have := Z6.out; have := Z7.out; have := Z8.out; have := Z9.out; have := Z10.out; have := Z11.out; have := Z12.out; have := Z13.out; have := Z14.out; omega)
  replace HO0 := HO0.only ho (by have := Zh0.out; have := Z1.out; have := Z2.out; have := Z3.out; have := Z4.out; have := Z5.out; have := Z6.out; have := Z7.out; have := Z8.out; have := Z9.out; have := Z10.out; have := Z11.out; have := Z12.out; have := Z13.out; have := Z14.out; omega)
  replace HX2 := HX2.only ho (by have := Zh0.out; have := Z1.out; have := Z2.out; have := Z3.out; have := Z4.out; have := Z5.out; have := Z6.out; have := Z7.out; have := Z8.out; have := Z9.out; have := Z10.out; have := Z11.out; have := Z12.out; have := Z13.out; have := Z14.out; omega)
  replace HX3 := HX3.only ho (by have := Zh0.out; have := Z1.out; have := Z2.out; have := Z3.out; have := Z4.out; have := Z5.out; have := Z6.out; have := Z7.out; have := Z8.out; have := Z9.out; have := Z10.out; have := Z11.out; have := Z12.out; have := Z13.out; have := Z14.out; omega)
  replace HX4 := HX4.only ho (by have := Zh0.out; have := Z1.out; have := Z2.out; have := Z3.out; have := Z4.out; have := Z5.out; have := Z6.out; have := Z7.out; have := Z8.out; have := Z9.out; have := Z10.out; have := Z11.out; have := Z12.out; have := Z13.out; have := Z14.out; omega)
  replace HB := Lib.hid (Below.only HB.out ho (by have := Zh0.out; have := Z1.out; have := Z2.out; have := Z3.out; have := Z4.out; have := Z5.out; have := Z6.out; have := Z7.out; have := Z8.out; have := Z9.out; have := Z10.out; have := Z11.out; have := Z12.out; have := Z13.out; have := Z14.out; omega) HB.out.size)
  clear ho
  clear HO1
  have HM := ht.kept; clear ht
  have hq1 : ¬ (1 + 4 * (j0 : Int) + s0 < 0) := by omega
  have c11_0 := HX4.look 0
  have c11_1 := HX4.look 1
  have c11_2 := HX4.look 2
  have c11_3 := HX4.look 3
  have c11_4 := HX4.look 4
  have c11_5 := HX4.look 5
  have c11_6 := HX4.look 6
  have c11_7 := HX4.look 7
  have c11_8 := HX4.look 8
  have c11_9 := HX4.look 9
  have c11_10 := HX4.look 10
  have l11_0 := HX1.bx.lt
  have l11_1 := HX2.bx.lt
  have l11_2 := HX3.bx.lt
  have l11_3 := HX4.bx.lt
  go_wp2_with fail
  clear c11_0 c11_1 c11_2 c11_3 c11_4 c11_5 c11_6 c11_7 c11_8 c11_9 c11_10 l11_0 l11_1 l11_2 l11_3
  refine (heldLsaResult_yes r x true _ _ E1 F1 j0 b1 s0 t1 1 _ HM.two.at_ hj0 hs0 (by omega) (by omega) HQ.out).mono ?_
  rintro e w14 ⟨rfl, hb⟩
  have Z15 := Lib.hid hb.size
  replace HA0 := HA0.below hb
  replace HX1 := HX1.below hb
  replace HO0 := HO0.below hb
  replace HX2 := HX2.below hb
  replace HX3 := HX3.below hb
  replace HX4 := HX4.below hb
  replace HM := HM.below hb
  replace HB := Lib.hid (below_step HB.out hb)
  clear hb
  have c12_0 := HX1.look 0
  have c12_1 := HX1.look 1
  have c12_2 := HX1.look 2
  have c12_3 := HX1.look 3
  have c12_4 := HX1.look 4
  have c12_5 := HX1.look 5
  have c12_6 := HX1.look 6
  have c12_7 := HX1.look 7
  have c12_8 := HX1.look 8
  have c12_9 := HX1.look 9
  have l12_0 := HX1.bx.lt
  have l12_1 := HX2.bx.lt
  have l12_2 := HX3.bx.lt
  have l12_3 := HX4.bx.lt
  go_wp2_with fail
  clear c12_0 c12_1 c12_2 c12_3 c12_4 c12_5 c12_6 c12_7 c12_8 c12_9 l12_0 l12_1 l12_2 l12_3
  refine (toLsa_at l0 q0 lo0 hi0 A0 B0 n0 c0 m0 d0 _ HA0.lsa hN0 hM0).mono ?_
  rintro e w15 ⟨Py, Qy, rfl, hs, hb⟩
  have Z16 := Lib.hid hb.size
  replace HA0 := HA0.below hb
  replace HX1 := HX1.below hb
  replace HO0 := HO0.below hb
  replace HX2 := HX2.below hb
  replace HX3 := HX3.below hb
  replace HX4 := HX4.below hb
  replace HM := HM.below hb
  replace HB := Lib.hid (below_step HB.out hb)
  clear hb
  have HH := hs.kept; clear hs
  have l13_0 := HX1.bx.lt
  have l13_1 := HX2.bx.lt
  have l13_2 := HX3.bx.lt
  have l13_3 := HX4.bx.lt
  go_wp2_with fail
  clear l13_0 l13_1 l13_2 l13_3
  refine (flush_any l0 true _ _ Py Qy n0 n0 m0 m0 _ HH.lsa hN0 hM0).mono ?_
  rw [HRr.out, HRx.out]
  rintro e w16 ⟨E2, F2, j2, b2, s2, t2, rfl, ht, hj2, hs2, hb⟩
  have Z17 := Lib.hid hb.size
  replace HA0 := HA0.below hb
  replace HX1 := HX1.below hb
  replace HO0 := HO0.below hb
  replace HX2 := HX2.below hb
  replace HX3 := HX3.below hb
  replace HX4 := HX4.below hb
  replace HM := HM.below hb
  replace HH := HH.below hb
  replace HB := Lib.hid (below_step HB.out hb)
  clear hb
  have HO2 := ht.kept; clear ht
  obtain rfl : j0 = j2 := by have := HO2.two.at_.in_.links.1; have := HO0.two.at_.in_.links.1; omega
  obtain rfl : s0 = s2 := by have := HO2.two.at_.in_.routers.1; have := HO0.two.at_.in_.routers.1; omega
  have c14_0 := HX2.look 0
  have c14_1 := HX2.look 1
  have c14_2 := HX2.look 2
  have c14_3 := HX2.look 3
  have c14_4 := HX2.look 4
  have c14_5 := HX2.look 5
  have c14_6 := HX2.look 6
  have c14_7 := HX2.look 7
  have c14_8 := HX2.look 8
  have c14_9 := HX2.look 9
  have c14_10 := HX2.look 10
  have l14_0 := HX1.bx.lt
  have l14_1 := HX2.bx.lt
  have l14_2 := HX3.bx.lt
  have l14_3 := HX4.bx.lt
  go_wp2_with fail
  clear c14_0 c14_1 c14_2 c14_3 c14_4 c14_5 c14_6 c14_7 c14_8 c14_9 c14_10 l14_0 l14_1 l14_2 l14_3
  refine Calls.name ?_
  intro U17 hU17
  have hb : Below w16.heap.size w16 U17 := by rw [hU17]; exact ((Below.refl _ _).alloc (Nat.le_refl _) _)
  have zz : Hid (w16.heap.size + 1 = U17.heap.size) := Lib.hid (by rw [hU17]; simp)
  have HX5 : Kept w16.heap.size (w16.heap.size + 1) (BoxK w16.heap.size 36 #[.int .i64 r, .int .i64 x.age, .int .i64 x.options, .int .i64 x.typ, .int .i64 x.id, .int .i64 x.adv, .int .i64 x.seq, .slice E2 j0 b2, .slice F2 s0 t2, .int .i64 x.mask, .int .i64 x.cost]) U17 := by rw [hU17]; exact Kept.box (Box.made_at _ _ _ rfl)
  replace HA0 := HA0.below hb
  replace HX1 := HX1.below hb
  replace HO0 := HO0.below hb
  replace HX2 := HX2.below hb
  replace HX3 := HX3.below hb
  replace HX4 := HX4.below hb
  replace HM := HM.below hb
  replace HH := HH.below hb
  replace HO2 := HO2.below hb
  replace HB := Lib.hid (below_step HB.out hb)
  clear hb
  have Z18 := zz; clear zz
  clear hU17
  refine (eqLsaResult_yes r x _ _ _ _ _ _ E2 F2 E0 F0 j0 b2 s0 t2 b0 t0 _ HO2.two.at_ HO0.two.at_ hj0 hs0).mono ?_
  rintro e w18 ⟨rfl, hb⟩
  have Z19 := Lib.hid hb.size
  replace HA0 := HA0.below hb
  replace HX1 := HX1.below hb
  replace HO0 := HO0.below hb
  replace HX2 := HX2.below hb
  replace HX3 := HX3.below hb
  replace HX4 := HX4.below hb
  replace HM := HM.below hb
  replace HH := HH.below hb
  replace HO2 := HO2.below hb
  replace HX5 := HX5.below hb
  replace HB := Lib.hid (below_step HB.out hb)
  clear hb
  have c15_0 := HX4.look 0
  have c15_1 := HX4.look 1
  have c15_2 := HX4.look 2
  have c15_3 := HX4.look 3
  have c15_4 := HX4.look 4
  have c15_5 := HX4.look 5
  have c15_6 := HX4.look 6
  have c15_7 := HX4.look 7
  have c15_8 := HX4.look 8
  have c15_9 := HX4.look 9
  have c15_10 := HX4.look 10
  have l15_0 := HX1.bx.lt
  have l15_1 := HX2.bx.lt
  have l15_2 := HX3.bx.lt
  have l15_3 := HX4.bx.lt
  have l15_4 := HX5.bx.lt
  go_wp2_with fail
  clear c15_0 c15_1 c15_2 c15_3 c15_4 c15_5 c15_6 c15_7 c15_8 c15_9 c15_10 l15_0 l15_1 l15_2 l15_3 l15_4
  refine (heldLsaResult_yes r x true _ _ E1 F1 j0 b1 s0 t1 1 _ HM.two.at_ hj0 hs0 (by omega) (by omega) HQ.out).mono ?_
  rintro e w19 ⟨rfl, hb⟩
  have Z20 := Lib.hid hb.size
  replace HA0 := HA0.below hb
  replace HX1 := HX1.below hb
  replace HO0 := HO0.below hb
  replace HX2 := HX2.below hb
  replace HX3 := HX3.below hb
  replace HX4 := HX4.below hb
  replace HM := HM.below hb
  replace HH := HH.below hb
  replace HO2 := HO2.below hb
  replace HX5 := HX5.below hb
  replace HB := Lib.hid (below_step HB.out hb)
  clear hb
  have l16_0 := HX1.bx.lt
  have l16_1 := HX2.bx.lt
  have l16_2 := HX3.bx.lt
  have l16_3 := HX4.bx.lt
  have l16_4 := HX5.bx.lt
  go_wp2
  clear l16_0 l16_1 l16_2 l16_3 l16_4
  go_ret
  exact ⟨rfl, HB.out⟩

end Go.Proofs.Ytamclkjofojhmaa
