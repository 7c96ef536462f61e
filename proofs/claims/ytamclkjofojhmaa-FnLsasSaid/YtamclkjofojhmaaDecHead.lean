/-
  The program's readHead and readBody. No statement is proved here.
-/
import Derived.Test.YtamclkjofojhmaaDec
import Derived.Test.YtamclkjofojhmaaBody
import Derived.Test.YtamclkjofojhmaaMarkLsa
namespace Go.Proofs.Ytamclkjofojhmaa
open Go.RowKit
set_option linter.unusedVariables false

def seqR (n : Nat) (xs : List Int) : Int := if 2147483647 < rval n xs 12 4 then rval n xs 12 4 - 4294967296 else rval n xs 12 4
def headR (n : Nat) (xs : List Int) : LsaM := ⟨rval n xs 0 2, rval n xs 2 1, rval n xs 3 1, rval n xs 4 4, rval n xs 8 4, seqR n xs, [], [], 0, 0⟩

set_option maxRecDepth 100000 in
set_option maxHeartbeats 3200000 in
theorem readHead_big (A : Option Addr) (n c : Nat) (xs : List Int) (w : World) (ha : BIn w A n xs) (hb : Bytes xs) (hn : n ≤ 400) (hnc : n ≤ c) (hsg : 2147483647 < rval n xs 12 4) :
    Calls Try.prog 69 #[.slice A n c] w fun e w' => e = .returned (.agg (lsaCells (headR n xs) none none 0 0 0 0)) ∧ Below w.heap.size w w' := by
  have HBY := Lib.hid hb
  have hbd := rval_bd n xs 12 4 hb ha.1
  obtain ⟨z0, hz0⟩ : ∃ z, rval n xs 12 4 = z := ⟨_, rfl⟩
  rw [hz0] at hbd hsg
  have HZ0 := Lib.hid hz0
  have HSQ : Hid (seqR n xs = z0 - 4294967296) := Lib.hid (by unfold seqR; rw [hz0, if_pos hsg])
  have hV : Below w.heap.size w (w.alloc (.cells #[.int .i64 0, .int .i64 0, .int .i64 0, .int .i64 0, .int .i64 0, .int .i64 0, .slice none 0 0, .slice none 0 0, .int .i64 0, .int .i64 0] 29)) := (Below.refl _ _).alloc (Nat.le_refl _) _
  have HA0 := Lib.hid (ha.below hV)
  have HB0 := Lib.hid hV
  clear ha hb hz0 hV
  go_enter Try.func69, Try.ntmps69
  go_wp2_with fail
  obtain ⟨V, hV⟩ : ∃ V : World, V = w.alloc (.cells #[.int .i64 0, .int .i64 0, .int .i64 0, .int .i64 0, .int .i64 0, .int .i64 0, .slice none 0 0, .slice none 0 0, .int .i64 0, .int .i64 0] 29) := ⟨_, rfl⟩
  have HX0 : Hid (Box V w.heap.size 29 #[.int .i64 0, .int .i64 0, .int .i64 0, .int .i64 0, .int .i64 0, .int .i64 0, .slice none 0 0, .slice none 0 0, .int .i64 0, .int .i64 0]) := by rw [hV]; exact Lib.hid (Box.made _ _ _)
  rw [← hV] at HA0 HB0 ⊢
  clear hV
  refine (wordAt_any A n c xs _ _ _ HA0.out HBY.out (by omega) hnc).mono ?_
  rw [HZ0.out]
  rintro e w1 ⟨rfl, hb⟩
  have HX1 := Lib.hid (HX0.out.below hb)
  have HA1 := Lib.hid (HA0.out.below hb)
  have HB1 := Lib.hid (below_step HB0.out hb)
  clear hb HX0 HA0 HB0
  go_wp2_with fail
  refine (wordAt_any A n c xs _ _ _ HA1.out HBY.out (by omega) hnc).mono ?_
  obtain ⟨z1, hz1⟩ : ∃ z, rval n xs 3 1 = z := ⟨_, rfl⟩
  rw [hz1]
  have Hz1 := Lib.hid hz1
  clear hz1
  rintro e w2 ⟨rfl, hb⟩
  have HX2 := Lib.hid (HX1.out.below hb)
  have HA2 := Lib.hid (HA1.out.below hb)
  have HB2 := Lib.hid (below_step HB1.out hb)
  clear hb HX1 HA1 HB1
  go_wp2_with fail
  refine (wordAt_any A n c xs _ _ _ HA2.out HBY.out (by omega) hnc).mono ?_
  obtain ⟨z2, hz2⟩ : ∃ z, rval n xs 4 4 = z := ⟨_, rfl⟩
  rw [hz2]
  have Hz2 := Lib.hid hz2
  clear hz2
  rintro e w3 ⟨rfl, hb⟩
  have HX3 := Lib.hid (HX2.out.below hb)
  have HA3 := Lib.hid (HA2.out.below hb)
  have HB3 := Lib.hid (below_step HB2.out hb)
  clear hb HX2 HA2 HB2
  go_wp2_with fail
  refine (wordAt_any A n c xs _ _ _ HA3.out HBY.out (by omega) hnc).mono ?_
  obtain ⟨z3, hz3⟩ : ∃ z, rval n xs 8 4 = z := ⟨_, rfl⟩
  rw [hz3]
  have Hz3 := Lib.hid hz3
  clear hz3
  rintro e w4 ⟨rfl, hb⟩
  have HX4 := Lib.hid (HX3.out.below hb)
  have HA4 := Lib.hid (HA3.out.below hb)
  have HB4 := Lib.hid (below_step HB3.out hb)
  clear hb HX3 HA3 HB3
  go_wp2_with fail
  obtain ⟨V4, hV4⟩ : ∃ V : World, V = w4.alloc (.cells #[.int .i64 z1, .int .i64 z2, .int .i64 z3] 25) := ⟨_, rfl⟩
  have hb : Below w4.heap.size w4 V4 := by rw [hV4]; exact (Below.refl _ _).alloc (Nat.le_refl _) _
  have HK : Hid (Box V4 w4.heap.size 25 #[.int .i64 z1, .int .i64 z2, .int .i64 z3]) := by rw [hV4]; exact Lib.hid (Box.made _ _ _)
  rw [← hV4]
  clear hV4
  have HLT := Lib.hid HX4.out.lt
  have HX5 := Lib.hid (HX4.out.below hb)
  have HA5 := Lib.hid (HA4.out.below hb)
  have HB5 := Lib.hid (below_step HB4.out hb)
  clear hb HX4 HA4 HB4
  have SB : Hid (∀ W, Hid (Below V4.heap.size V4 W) → (fun W => W.cell? ⟨w4.heap.size, 0, none⟩ = some (.int .i64 z1) ∧ W.cell? ⟨w4.heap.size, 1, none⟩ = some (.int .i64 z2) ∧ W.cell? ⟨w4.heap.size, 2, none⟩ = some (.int .i64 z3)) W) := Lib.hid (fun W h => ⟨(HK.out.below h.out).look 0, (HK.out.below h.out).look 1, (HK.out.below h.out).look 2⟩)
  have HV : Hid (Below V4.heap.size V4 V4.drew) := (Below.refl _ _).drew
  have hne' : ¬ w4.heap.size = w.heap.size := by have := HLT.out; omega
  obtain ⟨z4, hz4⟩ : ∃ z, rval n xs 0 2 = z := ⟨_, rfl⟩
  obtain ⟨z5, hz5⟩ : ∃ z, rval n xs 2 1 = z := ⟨_, rfl⟩
  have Hz4 := Lib.hid hz4
  have Hz5 := Lib.hid hz5
  clear hz4 hz5
  go_region_held3 (fun W => W.cell? ⟨w4.heap.size, 0, none⟩ = some (.int .i64 z1) ∧ W.cell? ⟨w4.heap.size, 1, none⟩ = some (.int .i64 z2) ∧ W.cell? ⟨w4.heap.size, 2, none⟩ = some (.int .i64 z3)) (first | ((try dsimp only); (refine ⟨?_, ?_, ?_⟩ <;> (rw [World.cell?_setCell_far _ _ _ _ (fun h => hne' h.symm), World.cell?_setCell_far _ _ _ _ (fun h => hne' h.symm), World.cell?_setCell_far _ _ _ _ (fun h => hne' h.symm), World.cell?_setCell_far _ _ _ _ (fun h => hne' h.symm), World.cell?_setCell_far _ _ _ _ (fun h => hne' h.symm), World.cell?_setCell_far _ _ _ _ (fun h => hne' h.symm), World.cell?_setCell_far _ _ _ _ (fun h => hne' h.symm), World.cell?_setCell_far _ _ _ _ (fun h => hne' h.symm), World.cell?_setCell_far _ _ _ _ (fun h => hne' h.symm), World.cell?_setCell_far _ _ _ _ (fun h => hne' h.symm)])); (exact hs0); (exact hs1); (exact hs2)) | with_reducible exact SB.out _ HV)
    (first
      | (go_at_call 66; ((with_reducible refine (wordAt_any A n c xs 0 2 _ (HA5.out.below HV.out) HBY.out (by omega) hnc).mono ?_); rw [Hz4.out]; rintro e u0 ⟨rfl, hb⟩; have HV := Lib.hid (below_step HV.out hb); have y0 := (HX5.out.below HV.out).look 0; have f0 := (HX5.out.below HV.out).free 0; have y1 := (HX5.out.below HV.out).look 1; have f1 := (HX5.out.below HV.out).free 1; have y2 := (HX5.out.below HV.out).look 2; have f2 := (HX5.out.below HV.out).free 2; have y3 := (HX5.out.below HV.out).look 3; have f3 := (HX5.out.below HV.out).free 3; have y4 := (HX5.out.below HV.out).look 4; have f4 := (HX5.out.below HV.out).free 4; have y5 := (HX5.out.below HV.out).look 5; have f5 := (HX5.out.below HV.out).free 5; have y6 := (HX5.out.below HV.out).look 6; have f6 := (HX5.out.below HV.out).free 6; have y7 := (HX5.out.below HV.out).look 7; have f7 := (HX5.out.below HV.out).free 7; have y8 := (HX5.out.below HV.out).look 8; have f8 := (HX5.out.below HV.out).free 8; have y9 := (HX5.out.below HV.out).look 9; have f9 := (HX5.out.below HV.out).free 9; have hs0 := (SB.out _ HV).1; have hs1 := (SB.out _ HV).2.1; have hs2 := (SB.out _ HV).2.2; clear hb))
      | (go_at_call 66; ((with_reducible refine (wordAt_any A n c xs 2 1 _ (HA5.out.below HV.out) HBY.out (by omega) hnc).mono ?_); rw [Hz5.out]; rintro e u1 ⟨rfl, hb⟩; have HV := Lib.hid (below_step HV.out hb); have y0 := (HX5.out.below HV.out).look 0; have f0 := (HX5.out.below HV.out).free 0; have y1 := (HX5.out.below HV.out).look 1; have f1 := (HX5.out.below HV.out).free 1; have y2 := (HX5.out.below HV.out).look 2; have f2 := (HX5.out.below HV.out).free 2; have y3 := (HX5.out.below HV.out).look 3; have f3 := (HX5.out.below HV.out).free 3; have y4 := (HX5.out.below HV.out).look 4; have f4 := (HX5.out.below HV.out).free 4; have y5 := (HX5.out.below HV.out).look 5; have f5 := (HX5.out.below HV.out).free 5; have y6 := (HX5.out.below HV.out).look 6; have f6 := (HX5.out.below HV.out).free 6; have y7 := (HX5.out.below HV.out).look 7; have f7 := (HX5.out.below HV.out).free 7; have y8 := (HX5.out.below HV.out).look 8; have f8 := (HX5.out.below HV.out).free 8; have y9 := (HX5.out.below HV.out).look 9; have f9 := (HX5.out.below HV.out).free 9; have hs0 := (SB.out _ HV).1; have hs1 := (SB.out _ HV).2.1; have hs2 := (SB.out _ HV).2.2; clear hb)))
  clear hs0 hs1 hs2 y0 f0 y1 f1 y2 f2 y3 f3 y4 f4 y5 f5 y6 f6 y7 f7 y8 f8 y9 f9
  have HXU := Lib.hid (HX5.out.below HV.out)
  obtain ⟨U, hU⟩ : ∃ U : World, U = ((((((((((u1.setCell ⟨w.heap.size, 0, none⟩ (.int .i64 z4)).setCell ⟨w.heap.size, 1, none⟩ (.int .i64 z5)).setCell ⟨w.heap.size, 2, none⟩ (.int .i64 z1)).setCell ⟨w.heap.size, 3, none⟩ (.int .i64 z2)).setCell ⟨w.heap.size, 4, none⟩ (.int .i64 z3)).setCell ⟨w.heap.size, 5, none⟩ (.int .i64 (z0 - 4294967296))).setCell ⟨w.heap.size, 6, none⟩ (.slice none 0 0)).setCell ⟨w.heap.size, 7, none⟩ (.slice none 0 0)).setCell ⟨w.heap.size, 8, none⟩ (.int .i64 0)).setCell ⟨w.heap.size, 9, none⟩ (.int .i64 0)) := ⟨_, rfl⟩
  have hXf : Box U w.heap.size 29 #[.int .i64 z4, .int .i64 z5, .int .i64 z1, .int .i64 z2, .int .i64 z3, .int .i64 (z0 - 4294967296), .slice none 0 0, .slice none 0 0, .int .i64 0, .int .i64 0] := by rw [hU]; simpa using ((((((((((HXU.out.put 0 (.int .i64 z4)).put 1 (.int .i64 z5)).put 2 (.int .i64 z1)).put 3 (.int .i64 z2)).put 4 (.int .i64 z3)).put 5 (.int .i64 (z0 - 4294967296))).put 6 (.slice none 0 0)).put 7 (.slice none 0 0)).put 8 (.int .i64 0)).put 9 (.int .i64 0))
  have hBf : Below w.heap.size w U := by rw [hU]; exact (((((((((((below_step HB5.out HV.out).setCell (Nat.le_refl _) _).setCell (Nat.le_refl _) _).setCell (Nat.le_refl _) _).setCell (Nat.le_refl _) _).setCell (Nat.le_refl _) _).setCell (Nat.le_refl _) _).setCell (Nat.le_refl _) _).setCell (Nat.le_refl _) _).setCell (Nat.le_refl _) _).setCell (Nat.le_refl _) _)
  rw [← hU]
  clear hU
  have HBf := Lib.hid hBf
  clear hBf
  have q0 := hXf.look 0
  have q1 := hXf.look 1
  have q2 := hXf.look 2
  have q3 := hXf.look 3
  have q4 := hXf.look 4
  have q5 := hXf.look 5
  have q6 := hXf.look 6
  have q7 := hXf.look 7
  have q8 := hXf.look 8
  have q9 := hXf.look 9
  go_wp2
  refine bodyPost_ret (v := .agg #[.int .i64 z4, .int .i64 z5, .int .i64 z1, .int .i64 z2, .int .i64 z3, .int .i64 (z0 - 4294967296), .slice none 0 0, .slice none 0 0, .int .i64 0, .int .i64 0]) (by simp [results, Try.results69, go_sem, q0, q1, q2, q3, q4, q5, q6, q7, q8, q9]) rfl ⟨?_, HBf.out⟩
  simp only [lsaCells, headR, HSQ.out, Hz1.out, Hz2.out, Hz3.out, Hz4.out, Hz5.out]

set_option maxRecDepth 100000 in
set_option maxHeartbeats 3200000 in
theorem readHead_small (A : Option Addr) (n c : Nat) (xs : List Int) (w : World) (ha : BIn w A n xs) (hb : Bytes xs) (hn : n ≤ 400) (hnc : n ≤ c) (hsg : ¬ 2147483647 < rval n xs 12 4) :
    Calls Try.prog 69 #[.slice A n c] w fun e w' => e = .returned (.agg (lsaCells (headR n xs) none none 0 0 0 0)) ∧ Below w.heap.size w w' := by
  have HBY := Lib.hid hb
  have hbd := rval_bd n xs 12 4 hb ha.1
  obtain ⟨z0, hz0⟩ : ∃ z, rval n xs 12 4 = z := ⟨_, rfl⟩
  rw [hz0] at hbd hsg
  have HZ0 := Lib.hid hz0
  have HSQ : Hid (seqR n xs = z0) := Lib.hid (by unfold seqR; rw [hz0, if_neg hsg])
  have hV : Below w.heap.size w (w.alloc (.cells #[.int .i64 0, .int .i64 0, .int .i64 0, .int .i64 0, .int .i64 0, .int .i64 0, .slice none 0 0, .slice none 0 0, .int .i64 0, .int .i64 0] 29)) := (Below.refl _ _).alloc (Nat.le_refl _) _
  have HA0 := Lib.hid (ha.below hV)
  have HB0 := Lib.hid hV
  clear ha hb hz0 hV
  go_enter Try.func69, Try.ntmps69
  go_wp2_with fail
  obtain ⟨V, hV⟩ : ∃ V : World, V = w.alloc (.cells #[.int .i64 0, .int .i64 0, .int .i64 0, .int .i64 0, .int .i64 0, .int .i64 0, .slice none 0 0, .slice none 0 0, .int .i64 0, .int .i64 0] 29) := ⟨_, rfl⟩
  have HX0 : Hid (Box V w.heap.size 29 #[.int .i64 0, .int .i64 0, .int .i64 0, .int .i64 0, .int .i64 0, .int .i64 0, .slice none 0 0, .slice none 0 0, .int .i64 0, .int .i64 0]) := by rw [hV]; exact Lib.hid (Box.made _ _ _)
  rw [← hV] at HA0 HB0 ⊢
  clear hV
  refine (wordAt_any A n c xs _ _ _ HA0.out HBY.out (by omega) hnc).mono ?_
  rw [HZ0.out]
  rintro e w1 ⟨rfl, hb⟩
  have HX1 := Lib.hid (HX0.out.below hb)
  have HA1 := Lib.hid (HA0.out.below hb)
  have HB1 := Lib.hid (below_step HB0.out hb)
  clear hb HX0 HA0 HB0
  go_wp2_with fail
  refine (wordAt_any A n c xs _ _ _ HA1.out HBY.out (by omega) hnc).mono ?_
  obtain ⟨z1, hz1⟩ : ∃ z, rval n xs 3 1 = z := ⟨_, rfl⟩
  rw [hz1]
  have Hz1 := Lib.hid hz1
  clear hz1
  rintro e w2 ⟨rfl, hb⟩
  have HX2 := Lib.hid (HX1.out.below hb)
  have HA2 := Lib.hid (HA1.out.below hb)
  have HB2 := Lib.hid (below_step HB1.out hb)
  clear hb HX1 HA1 HB1
  go_wp2_with fail
  refine (wordAt_any A n c xs _ _ _ HA2.out HBY.out (by omega) hnc).mono ?_
  obtain ⟨z2, hz2⟩ : ∃ z, rval n xs 4 4 = z := ⟨_, rfl⟩
  rw [hz2]
  have Hz2 := Lib.hid hz2
  clear hz2
  rintro e w3 ⟨rfl, hb⟩
  have HX3 := Lib.hid (HX2.out.below hb)
  have HA3 := Lib.hid (HA2.out.below hb)
  have HB3 := Lib.hid (below_step HB2.out hb)
  clear hb HX2 HA2 HB2
  go_wp2_with fail
  refine (wordAt_any A n c xs _ _ _ HA3.out HBY.out (by omega) hnc).mono ?_
  obtain ⟨z3, hz3⟩ : ∃ z, rval n xs 8 4 = z := ⟨_, rfl⟩
  rw [hz3]
  have Hz3 := Lib.hid hz3
  clear hz3
  rintro e w4 ⟨rfl, hb⟩
  have HX4 := Lib.hid (HX3.out.below hb)
  have HA4 := Lib.hid (HA3.out.below hb)
  have HB4 := Lib.hid (below_step HB3.out hb)
  clear hb HX3 HA3 HB3
  go_wp2_with fail
  obtain ⟨V4, hV4⟩ : ∃ V : World, V = w4.alloc (.cells #[.int .i64 z1, .int .i64 z2, .int .i64 z3] 25) := ⟨_, rfl⟩
  have hb : Below w4.heap.size w4 V4 := by rw [hV4]; exact (Below.refl _ _).alloc (Nat.le_refl _) _
  have HK : Hid (Box V4 w4.heap.size 25 #[.int .i64 z1, .int .i64 z2, .int .i64 z3]) := by rw [hV4]; exact Lib.hid (Box.made _ _ _)
  rw [← hV4]
  clear hV4
  have HLT := Lib.hid HX4.out.lt
  have HX5 := Lib.hid (HX4.out.below hb)
  have HA5 := Lib.hid (HA4.out.below hb)
  have HB5 := Lib.hid (below_step HB4.out hb)
  clear hb HX4 HA4 HB4
  have SB : Hid (∀ W, Hid (Below V4.heap.size V4 W) → (fun W => W.cell? ⟨w4.heap.size, 0, none⟩ = some (.int .i64 z1) ∧ W.cell? ⟨w4.heap.size, 1, none⟩ = some (.int .i64 z2) ∧ W.cell? ⟨w4.heap.size, 2, none⟩ = some (.int .i64 z3)) W) := Lib.hid (fun W h => ⟨(HK.out.below h.out).look 0, (HK.out.below h.out).look 1, (HK.out.below h.out).look 2⟩)
  have HV : Hid (Below V4.heap.size V4 V4.drew) := (Below.refl _ _).drew
  have hne' : ¬ w4.heap.size = w.heap.size := by have := HLT.out; omega
  obtain ⟨z4, hz4⟩ : ∃ z, rval n xs 0 2 = z := ⟨_, rfl⟩
  obtain ⟨z5, hz5⟩ : ∃ z, rval n xs 2 1 = z := ⟨_, rfl⟩
  have Hz4 := Lib.hid hz4
  have Hz5 := Lib.hid hz5
  clear hz4 hz5
  go_region_held3 (fun W => W.cell? ⟨w4.heap.size, 0, none⟩ = some (.int .i64 z1) ∧ W.cell? ⟨w4.heap.size, 1, none⟩ = some (.int .i64 z2) ∧ W.cell? ⟨w4.heap.size, 2, none⟩ = some (.int .i64 z3)) (first | ((try dsimp only); (refine ⟨?_, ?_, ?_⟩ <;> (rw [World.cell?_setCell_far _ _ _ _ (fun h => hne' h.symm), World.cell?_setCell_far _ _ _ _ (fun h => hne' h.symm), World.cell?_setCell_far _ _ _ _ (fun h => hne' h.symm), World.cell?_setCell_far _ _ _ _ (fun h => hne' h.symm), World.cell?_setCell_far _ _ _ _ (fun h => hne' h.symm), World.cell?_setCell_far _ _ _ _ (fun h => hne' h.symm), World.cell?_setCell_far _ _ _ _ (fun h => hne' h.symm), World.cell?_setCell_far _ _ _ _ (fun h => hne' h.symm), World.cell?_setCell_far _ _ _ _ (fun h => hne' h.symm), World.cell?_setCell_far _ _ _ _ (fun h => hne' h.symm)])); (exact hs0); (exact hs1); (exact hs2)) | with_reducible exact SB.out _ HV)
    (first
      | (go_at_call 66; ((with_reducible refine (wordAt_any A n c xs 0 2 _ (HA5.out.below HV.out) HBY.out (by omega) hnc).mono ?_); rw [Hz4.out]; rintro e u0 ⟨rfl, hb⟩; have HV := Lib.hid (below_step HV.out hb); have y0 := (HX5.out.below HV.out).look 0; have f0 := (HX5.out.below HV.out).free 0; have y1 := (HX5.out.below HV.out).look 1; have f1 := (HX5.out.below HV.out).free 1; have y2 := (HX5.out.below HV.out).look 2; have f2 := (HX5.out.below HV.out).free 2; have y3 := (HX5.out.below HV.out).look 3; have f3 := (HX5.out.below HV.out).free 3; have y4 := (HX5.out.below HV.out).look 4; have f4 := (HX5.out.below HV.out).free 4; have y5 := (HX5.out.below HV.out).look 5; have f5 := (HX5.out.below HV.out).free 5; have y6 := (HX5.out.below HV.out).look 6; have f6 := (HX5.out.below HV.out).free 6; have y7 := (HX5.out.below HV.out).look 7; have f7 := (HX5.out.below HV.out).free 7; have y8 := (HX5.out.below HV.out).look 8; have f8 := (HX5.out.below HV.out).free 8; have y9 := (HX5.out.below HV.out).look 9; have f9 := (HX5.out.below HV.out).free 9; have hs0 := (SB.out _ HV).1; have hs1 := (SB.out _ HV).2.1; have hs2 := (SB.out _ HV).2.2; clear hb))
      | (go_at_call 66; ((with_reducible refine (wordAt_any A n c xs 2 1 _ (HA5.out.below HV.out) HBY.out (by omega) hnc).mono ?_); rw [Hz5.out]; rintro e u1 ⟨rfl, hb⟩; have HV := Lib.hid (below_step HV.out hb); have y0 := (HX5.out.below HV.out).look 0; have f0 := (HX5.out.below HV.out).free 0; have y1 := (HX5.out.below HV.out).look 1; have f1 := (HX5.out.below HV.out).free 1; have y2 := (HX5.out.below HV.out).look 2; have f2 := (HX5.out.below HV.out).free 2; have y3 := (HX5.out.below HV.out).look 3; have f3 := (HX5.out.below HV.out).free 3; have y4 := (HX5.out.below HV.out).look 4; have f4 := (HX5.out.below HV.out).free 4; have y5 := (HX5.out.below HV.out).look 5; have f5 := (HX5.out.below HV.out).free 5; have y6 := (HX5.out.below HV.out).look 6; have f6 := (HX5.out.below HV.out).free 6; have y7 := (HX5.out.below HV.out).look 7; have f7 := (HX5.out.below HV.out).free 7; have y8 := (HX5.out.below HV.out).look 8; have f8 := (HX5.out.below HV.out).free 8; have y9 := (HX5.out.below HV.out).look 9; have f9 := (HX5.out.below HV.out).free 9; have hs0 := (SB.out _ HV).1; have hs1 := (SB.out _ HV).2.1; have hs2 := (SB.out _ HV).2.2; clear hb)))
  clear hs0 hs1 hs2 y0 f0 y1 f1 y2 f2 y3 f3 y4 f4 y5 f5 y6 f6 y7 f7 y8 f8 y9 f9
  have HXU := Lib.hid (HX5.out.below HV.out)
  obtain ⟨U, hU⟩ : ∃ U : World, U = ((((((((((u1.setCell ⟨w.heap.size, 0, none⟩ (.int .i64 z4)).setCell ⟨w.heap.size, 1, none⟩ (.int .i64 z5)).setCell ⟨w.heap.size, 2, none⟩ (.int .i64 z1)).setCell ⟨w.heap.size, 3, none⟩ (.int .i64 z2)).setCell ⟨w.heap.size, 4, none⟩ (.int .i64 z3)).setCell ⟨w.heap.size, 5, none⟩ (.int .i64 (z0))).setCell ⟨w.heap.size, 6, none⟩ (.slice none 0 0)).setCell ⟨w.heap.size, 7, none⟩ (.slice none 0 0)).setCell ⟨w.heap.size, 8, none⟩ (.int .i64 0)).setCell ⟨w.heap.size, 9, none⟩ (.int .i64 0)) := ⟨_, rfl⟩
  have hXf : Box U w.heap.size 29 #[.int .i64 z4, .int .i64 z5, .int .i64 z1, .int .i64 z2, .int .i64 z3, .int .i64 (z0), .slice none 0 0, .slice none 0 0, .int .i64 0, .int .i64 0] := by rw [hU]; simpa using ((((((((((HXU.out.put 0 (.int .i64 z4)).put 1 (.int .i64 z5)).put 2 (.int .i64 z1)).put 3 (.int .i64 z2)).put 4 (.int .i64 z3)).put 5 (.int .i64 (z0))).put 6 (.slice none 0 0)).put 7 (.slice none 0 0)).put 8 (.int .i64 0)).put 9 (.int .i64 0))
  have hBf : Below w.heap.size w U := by rw [hU]; exact (((((((((((below_step HB5.out HV.out).setCell (Nat.le_refl _) _).setCell (Nat.le_refl _) _).setCell (Nat.le_refl _) _).setCell (Nat.le_refl _) _).setCell (Nat.le_refl _) _).setCell (Nat.le_refl _) _).setCell (Nat.le_refl _) _).setCell (Nat.le_refl _) _).setCell (Nat.le_refl _) _).setCell (Nat.le_refl _) _)
  rw [← hU]
  clear hU
  have HBf := Lib.hid hBf
  clear hBf
  have q0 := hXf.look 0
  have q1 := hXf.look 1
  have q2 := hXf.look 2
  have q3 := hXf.look 3
  have q4 := hXf.look 4
  have q5 := hXf.look 5
  have q6 := hXf.look 6
  have q7 := hXf.look 7
  have q8 := hXf.look 8
  have q9 := hXf.look 9
  go_wp2
  refine bodyPost_ret (v := .agg #[.int .i64 z4, .int .i64 z5, .int .i64 z1, .int .i64 z2, .int .i64 z3, .int .i64 (z0), .slice none 0 0, .slice none 0 0, .int .i64 0, .int .i64 0]) (by simp [results, Try.results69, go_sem, q0, q1, q2, q3, q4, q5, q6, q7, q8, q9]) rfl ⟨?_, HBf.out⟩
  simp only [lsaCells, headR, HSQ.out, Hz1.out, Hz2.out, Hz3.out, Hz4.out, Hz5.out]

theorem readHead_any (A : Option Addr) (n c : Nat) (xs : List Int) (w : World) (ha : BIn w A n xs) (hb : Bytes xs) (hn : n ≤ 400) (hnc : n ≤ c) :
    Calls Try.prog 69 #[.slice A n c] w fun e w' => e = .returned (.agg (lsaCells (headR n xs) none none 0 0 0 0)) ∧ Below w.heap.size w w' := by
  by_cases h : 2147483647 < rval n xs 12 4
  · exact readHead_big A n c xs w ha hb hn hnc h
  · exact readHead_small A n c xs w ha hb hn hnc h

end Go.Proofs.Ytamclkjofojhmaa
