/-
  What the laws' helpers do with ops and events, and ops and events that came in. No statement is proved here.
-/
import Derived.Test.YtiffhjofabaflaaByteRep
import Derived.Test.YtiffhjofabaflaaLinks
namespace Go.Proofs.Ytiffhjofabaflaa
open Go.RowKit
set_option linter.unusedVariables false

open Go.ChangeShapes Go.WideShapes Go.ChangeAt Go.Deep
set_option maxRecDepth 100000 in
set_option maxHeartbeats 1600000 in
theorem szByteS_any (A : Option Addr) (n c : Nat) (left : Int) (w : World) (hn : n ≤ maxLen) (h0 : 0 ≤ left) (h1 : left ≤ 1048576) :
    Calls Try.prog 142 #[.slice A n c, .int .i64 left] w fun e w' => e = .returned (.int .i64 (if left - n < 0 then -1 else left - n)) ∧ w' = w := by
  unfold maxLen at hn
  by_cases h : left - n < 0
  · have HR : Hid ((if left - (n : Int) < 0 then -1 else left - n) = -1) := Lib.hid (if_pos h)
    go_enter Try.func142, Try.ntmps142
    go_wp2
    go_ret
    exact ⟨by first | rfl | (rw [HR.out]; rfl), rfl⟩
  · have HR : Hid ((if left - (n : Int) < 0 then -1 else left - n) = left - n) := Lib.hid (if_neg h)
    go_enter Try.func142, Try.ntmps142
    go_wp2
    go_ret
    exact ⟨by first | rfl | (rw [HR.out]; rfl), rfl⟩

set_option maxRecDepth 100000 in
set_option maxHeartbeats 1600000 in
theorem szOp_any (k t i a N : Int) (A : Option Addr) (n c : Nat) (left : Int) (w : World) (hn : n ≤ maxLen) (h0 : 0 ≤ left) (h1 : left ≤ 1048576) :
    Calls Try.prog 64 #[.agg #[.int .i64 k, .slice A n c, .int .i64 t, .int .i64 i, .int .i64 a, .int .i64 N], .int .i64 left] w fun e w' => e = .returned (.int .i64 (if left - n < 0 then -1 else left - n)) ∧ Below w.heap.size w w' := by
  by_cases h : left - n < 0
  · have HB := Lib.hid (Below.refl w.heap.size w)
    have HR : Hid ((if left - (n : Int) < 0 then -1 else left - n) = -1) := Lib.hid (if_pos h)
    go_enter Try.func64, Try.ntmps64
    go_wp2_with fail
    refine Calls.name ?_
    intro U1 hU1
    have hb : Below w.heap.size w U1 := by rw [hU1]; exact ((Below.refl _ _).alloc (Nat.le_refl _) _)
    have zz : Hid (w.heap.size + 1 = U1.heap.size) := Lib.hid (by rw [hU1]; simp)
    have HX1 : Kept w.heap.size (w.heap.size + 1) (BoxK w.heap.size 89 #[.int .i64 k, .slice A n c, .int .i64 t, .int .i64 i, .int .i64 a, .int .i64 N]) U1 := by rw [hU1]; exact Kept.box (Box.made_at _ _ _ rfl)
    replace HB := Lib.hid (below_step HB.out hb)
    clear hb
    have Z1 := zz; clear zz
    clear hU1
    refine (szByteS_any A n c left _ hn h0 h1).mono ?_
    rw [HR.out]
    rintro e w2 ⟨rfl, rfl⟩
    have l2_0 := HX1.bx.lt
    go_wp2
    clear l2_0
    go_ret
    exact ⟨by first | rfl | (rw [HR.out]; rfl) | rw [HR.out], HB.out⟩
  · have HB := Lib.hid (Below.refl w.heap.size w)
    have HR : Hid ((if left - (n : Int) < 0 then -1 else left - n) = left - n) := Lib.hid (if_neg h)
    go_enter Try.func64, Try.ntmps64
    go_wp2_with fail
    refine Calls.name ?_
    intro U1 hU1
    have hb : Below w.heap.size w U1 := by rw [hU1]; exact ((Below.refl _ _).alloc (Nat.le_refl _) _)
    have zz : Hid (w.heap.size + 1 = U1.heap.size) := Lib.hid (by rw [hU1]; simp)
    have HX1 : Kept w.heap.size (w.heap.size + 1) (BoxK w.heap.size 89 #[.int .i64 k, .slice A n c, .int .i64 t, .int .i64 i, .int .i64 a, .int .i64 N]) U1 := by rw [hU1]; exact Kept.box (Box.made_at _ _ _ rfl)
    replace HB := Lib.hid (below_step HB.out hb)
    clear hb
    have Z1 := zz; clear zz
    clear hU1
    refine (szByteS_any A n c left _ hn h0 h1).mono ?_
    rw [HR.out]
    rintro e w2 ⟨rfl, rfl⟩
    have l2_0 := HX1.bx.lt
    go_wp2
    clear l2_0
    go_ret
    exact ⟨by first | rfl | (rw [HR.out]; rfl) | rw [HR.out], HB.out⟩

set_option maxRecDepth 100000 in
set_option maxHeartbeats 1600000 in
theorem szEvent_any (ek ew : Int) (k t i a N : Int) (A : Option Addr) (n c : Nat) (left : Int) (w : World) (hn : n ≤ maxLen) (h0 : 0 ≤ left) (h1 : left ≤ 1048576) :
    Calls Try.prog 69 #[.agg #[.int .i64 ek, .int .i64 ew, .int .i64 k, .slice A n c, .int .i64 t, .int .i64 i, .int .i64 a, .int .i64 N], .int .i64 left] w fun e w' => e = .returned (.int .i64 (if left - n < 0 then -1 else left - n)) ∧ Below w.heap.size w w' := by
  by_cases h : left - n < 0
  · have HB := Lib.hid (Below.refl w.heap.size w)
    have HR : Hid ((if left - (n : Int) < 0 then -1 else left - n) = -1) := Lib.hid (if_pos h)
    go_enter Try.func69, Try.ntmps69
    go_wp2_with fail
    refine Calls.name ?_
    intro U1 hU1
    have hb : Below w.heap.size w U1 := by rw [hU1]; exact ((Below.refl _ _).alloc (Nat.le_refl _) _)
    have zz : Hid (w.heap.size + 1 = U1.heap.size) := Lib.hid (by rw [hU1]; simp)
    have HX1 : Kept w.heap.size (w.heap.size + 1) (BoxK w.heap.size 98 #[.int .i64 ek, .int .i64 ew, .int .i64 k, .slice A n c, .int .i64 t, .int .i64 i, .int .i64 a, .int .i64 N]) U1 := by rw [hU1]; exact Kept.box (Box.made_at _ _ _ rfl)
    replace HB := Lib.hid (below_step HB.out hb)
    clear hb
    have Z1 := zz; clear zz
    clear hU1
    refine (szOp_any k t i a N A n c left _ hn h0 h1).mono ?_
    rw [HR.out]
    rintro e w2 ⟨rfl, hb⟩
    have Z2 := Lib.hid hb.size
    replace HX1 := HX1.below hb
    replace HB := Lib.hid (below_step HB.out hb)
    clear hb
    have l2_0 := HX1.bx.lt
    go_wp2
    clear l2_0
    go_ret
    exact ⟨by first | rfl | (rw [HR.out]; rfl) | rw [HR.out], HB.out⟩
  · have HB := Lib.hid (Below.refl w.heap.size w)
    have HR : Hid ((if left - (n : Int) < 0 then -1 else left - n) = left - n) := Lib.hid (if_neg h)
    go_enter Try.func69, Try.ntmps69
    go_wp2_with fail
    refine Calls.name ?_
    intro U1 hU1
    have hb : Below w.heap.size w U1 := by rw [hU1]; exact ((Below.refl _ _).alloc (Nat.le_refl _) _)
    have zz : Hid (w.heap.size + 1 = U1.heap.size) := Lib.hid (by rw [hU1]; simp)
    have HX1 : Kept w.heap.size (w.heap.size + 1) (BoxK w.heap.size 98 #[.int .i64 ek, .int .i64 ew, .int .i64 k, .slice A n c, .int .i64 t, .int .i64 i, .int .i64 a, .int .i64 N]) U1 := by rw [hU1]; exact Kept.box (Box.made_at _ _ _ rfl)
    replace HB := Lib.hid (below_step HB.out hb)
    clear hb
    have Z1 := zz; clear zz
    clear hU1
    refine (szOp_any k t i a N A n c left _ hn h0 h1).mono ?_
    rw [HR.out]
    rintro e w2 ⟨rfl, hb⟩
    have Z2 := Lib.hid hb.size
    replace HX1 := HX1.below hb
    replace HB := Lib.hid (below_step HB.out hb)
    clear hb
    have l2_0 := HX1.bx.lt
    go_wp2
    clear l2_0
    go_ret
    exact ⟨by first | rfl | (rw [HR.out]; rfl) | rw [HR.out], HB.out⟩

set_option maxRecDepth 100000 in
set_option maxHeartbeats 1600000 in
theorem toOp_any (q : Bool) (lo hi : Nat) (A : Option Addr) (n c : Nat) (ys : List Int) (k t i a N : Int) (w : World) (ha : Rep.u8.Sl q lo hi w A n ys) (hh : hi ≤ w.heap.size) (hn : n ≤ 1048576) :
    Calls Try.prog 66 #[.agg #[.int .i64 k, .slice A n c, .int .i64 t, .int .i64 i, .int .i64 a, .int .i64 N]] w fun e w' => ∃ P, e = .returned (.agg #[.int .i64 k, .slice P n n, .int .i64 t, .int .i64 i, .int .i64 a, .int .i64 N]) ∧ Kept w.heap.size w'.heap.size (SlK Rep.u8 true w.heap.size w'.heap.size P n ys) w' ∧ Below w.heap.size w w' := by
  have HB := Lib.hid (Below.refl w.heap.size w)
  have HA := Rep.Sl.kept ha hh
  clear ha
  go_enter Try.func66, Try.ntmps66
  go_wp2_with fail
  refine Calls.name ?_
  intro U1 hU1
  have hb : Below w.heap.size w U1 := by rw [hU1]; exact ((((Below.refl _ _).alloc (Nat.le_refl _) _).alloc (by simp <;> omega) _).alloc (by simp <;> omega) _)
  have zz : Hid (w.heap.size + 3 = U1.heap.size) := Lib.hid (by rw [hU1]; simp)
  have HX1 : Kept w.heap.size (w.heap.size + 1) (BoxK w.heap.size 89 #[.int .i64 k, .slice A n c, .int .i64 t, .int .i64 i, .int .i64 a, .int .i64 N]) U1 := by rw [hU1]; exact Kept.box (((Box.made_at _ _ _ rfl).over _).over _)
  have HX2 : Kept (w.heap.size + 1) (w.heap.size + 1 + 1) (BoxK (w.heap.size + 1) 93 #[.int .i64 0, .slice none 0 0, .int .i64 0, .int .i64 0, .int .i64 0, .int .i64 0]) U1 := by rw [hU1]; exact Kept.box ((Box.made_at _ _ _ (by simp <;> omega)).over _)
  have HX3 : Kept (w.heap.size + 1 + 1) (w.heap.size + 1 + 1 + 1) (BoxK (w.heap.size + 1 + 1) 93 #[.int .i64 k, .slice none 0 0, .int .i64 0, .int .i64 0, .int .i64 0, .int .i64 0]) U1 := by rw [hU1]; exact Kept.box (Box.made_at _ _ _ (by simp <;> omega))
  replace HA := HA.below hb
  replace HB := Lib.hid (below_step HB.out hb)
  clear hb
  have Z1 := zz; clear zz
  clear hU1
  refine (toByteS_sl q lo hi A n c ys _ HA.sl hn).mono ?_
  rintro e w2 ⟨Pz, rfl, hs, hb⟩
  have Z2 := Lib.hid hb.size
  replace HA := HA.below hb
  replace HX1 := HX1.below hb
  replace HX2 := HX2.below hb
  replace HX3 := HX3.below hb
  replace HB := Lib.hid (below_step HB.out hb)
  clear hb
  have HS := hs; clear hs
  have c2_0 := HX1.look 2
  have c2_1 := HX1.look 3
  have c2_2 := HX1.look 4
  have c2_3 := HX3.look 1
  have f2_0 := HX3.free 1
  have l2_0 := HX1.bx.lt
  have l2_1 := HX2.bx.lt
  have l2_2 := HX3.bx.lt
  have n2_0_0 : ¬ (w.heap.size + 1 + 1) = w.heap.size := (by have := Z1.out; have := Z2.out; omega)
  have m2_0_0 : ¬ w.heap.size = (w.heap.size + 1 + 1) := (by have := Z1.out; have := Z2.out; omega)
  go_wp2_with fail
  clear c2_0 c2_1 c2_2 c2_3 f2_0 l2_0 l2_1 l2_2 n2_0_0 m2_0_0
  refine Calls.name ?_
  intro U3 hU3
  have ho : Only (w.heap.size + 1 + 1) (w.heap.size + 1 + 1 + 1) w2 U3 := by rw [hU3]; exact ((Only.refl _ _ _).set (p := ⟨w.heap.size + 1 + 1, 1, none⟩) (Nat.le_refl _) (Nat.lt_succ_self _) _)
  replace HX3 : Kept (w.heap.size + 1 + 1) (w.heap.size + 1 + 1 + 1) (BoxK (w.heap.size + 1 + 1) 93 #[.int .i64 k, .slice Pz n n, .int .i64 0, .int .i64 0, .int .i64 0, .int .i64 0]) U3 := by rw [hU3]; exact Kept.box (HX3.bx.puts 1 (.slice Pz n n) (cs' := #[.int .i64 k, .slice Pz n n, .int .i64 0, .int .i64 0, .int .i64 0, .int .i64 0]) rfl)
  replace HA := HA.only ho (by have := Z1.out; have := Z2.out; omega)
  replace HX1 := HX1.only ho (by have := Z1.out; have := Z2.out; omega)
  replace HX2 := HX2.only ho (by have := Z1.out; have := Z2.out; omega)
  replace HS := HS.only ho (by have := Z1.out; have := Z2.out; omega)
  replace HB := Lib.hid (Below.only HB.out ho (by have := Z1.out; have := Z2.out; omega) HB.out.size)
  have Z3 : Hid (U3.heap.size = w2.heap.size) := Lib.hid (by rw [hU3]; simp [World.setCell]); clear ho
  clear hU3
  refine (toKey_any t i a _).mono ?_
  rintro e w4 ⟨rfl, hb⟩
  have Z4 := Lib.hid hb.size
  replace HA := HA.below hb
  replace HX1 := HX1.below hb
  replace HX2 := HX2.below hb
  replace HX3 := HX3.below hb
  replace HS := HS.below hb
  replace HB := Lib.hid (below_step HB.out hb)
  clear hb
  have c3_0 := HX1.look 5
  have c3_1 := HX2.look 0
  have c3_2 := HX2.look 1
  have c3_3 := HX2.look 2
  have c3_4 := HX2.look 3
  have c3_5 := HX2.look 4
  have c3_6 := HX2.look 5
  have c3_7 := HX3.look 0
  have c3_8 := HX3.look 1
  have c3_9 := HX3.look 2
  have c3_10 := HX3.look 3
  have c3_11 := HX3.look 4
  have c3_12 := HX3.look 5
  have f3_0 := HX2.free 0
  have f3_1 := HX2.free 1
  have f3_2 := HX2.free 2
  have f3_3 := HX2.free 3
  have f3_4 := HX2.free 4
  have f3_5 := HX2.free 5
  have f3_6 := HX3.free 2
  have f3_7 := HX3.free 3
  have f3_8 := HX3.free 4
  have f3_9 := HX3.free 5
  have l3_0 := HX1.bx.lt
  have l3_1 := HX2.bx.lt
  have l3_2 := HX3.bx.lt
  have n3_0_0 : ¬ (w.heap.size + 1) = w.heap.size := (by have := Z1.out; have := Z2.out; have := Z3.out; have := Z4.out; omega)
  have m3_0_0 : ¬ w.heap.size = (w.heap.size + 1) := (by have := Z1.out; have := Z2.out; have := Z3.out; have := Z4.out; omega)
  have n3_0_2 : ¬ (w.heap.size + 1) = (w.heap.size + 1 + 1) := (by have := Z1.out; have := Z2.out; have := Z3.out; have := Z4.out; omega)
  have m3_0_2 : ¬ (w.heap.size + 1 + 1) = (w.heap.size + 1) := (by have := Z1.out; have := Z2.out; have := Z3.out; have := Z4.out; omega)
  have n3_1_0 : ¬ (w.heap.size + 1 + 1) = w.heap.size := (by have := Z1.out; have := Z2.out; have := Z3.out; have := Z4.out; omega)
  have m3_1_0 : ¬ w.heap.size = (w.heap.size + 1 + 1) := (by have := Z1.out; have := Z2.out; have := Z3.out; have := Z4.out; omega)
  go_wp2
  clear c3_0 c3_1 c3_2 c3_3 c3_4 c3_5 c3_6 c3_7 c3_8 c3_9 c3_10 c3_11 c3_12 f3_0 f3_1 f3_2 f3_3 f3_4 f3_5 f3_6 f3_7 f3_8 f3_9 l3_0 l3_1 l3_2 n3_0_0 m3_0_0 n3_0_2 m3_0_2 n3_1_0 m3_1_0
  obtain ⟨U5, hU5⟩ : ∃ W : World, W = ((((w4.setCell ⟨w.heap.size + 1 + 1, 2, none⟩ (.int .i64 t)).setCell ⟨w.heap.size + 1 + 1, 3, none⟩ (.int .i64 i)).setCell ⟨w.heap.size + 1 + 1, 4, none⟩ (.int .i64 a)).setCell ⟨w.heap.size + 1 + 1, 5, none⟩ (.int .i64 N)) := ⟨_, rfl⟩
  have ho : Only (w.heap.size + 1 + 1) (w.heap.size + 1 + 1 + 1) w4 U5 := by rw [hU5]; exact (((((Only.refl _ _ _).set (p := ⟨w.heap.size + 1 + 1, 2, none⟩) (Nat.le_refl _) (Nat.lt_succ_self _) _).set (p := ⟨w.heap.size + 1 + 1, 3, none⟩) (Nat.le_refl _) (Nat.lt_succ_self _) _).set (p := ⟨w.heap.size + 1 + 1, 4, none⟩) (Nat.le_refl _) (Nat.lt_succ_self _) _).set (p := ⟨w.heap.size + 1 + 1, 5, none⟩) (Nat.le_refl _) (Nat.lt_succ_self _) _)
  replace HX3 : Kept (w.heap.size + 1 + 1) (w.heap.size + 1 + 1 + 1) (BoxK (w.heap.size + 1 + 1) 93 #[.int .i64 k, .slice Pz n n, .int .i64 t, .int .i64 i, .int .i64 a, .int .i64 N]) U5 := by rw [hU5]; exact Kept.box ((((HX3.bx.puts 2 (.int .i64 t) (cs' := #[.int .i64 k, .slice Pz n n, .int .i64 t, .int .i64 0, .int .i64 0, .int .i64 0]) rfl).puts 3 (.int .i64 i) (cs' := #[.int .i64 k, .slice Pz n n, .int .i64 t, .int .i64 i, .int .i64 0, .int .i64 0]) rfl).puts 4 (.int .i64 a) (cs' := #[.int .i64 k, .slice Pz n n, .int .i64 t, .int .i64 i, .int .i64 a, .int .i64 0]) rfl).puts 5 (.int .i64 N) (cs' := #[.int .i64 k, .slice Pz n n, .int .i64 t, .int .i64 i, .int .i64 a, .int .i64 N]) rfl)
  replace HA := HA.only ho (by have := Z1.out; have := Z2.out; have := Z3.out; have := Z4.out; omega)
  replace HX1 := HX1.only ho (by have := Z1.out; have := Z2.out; have := Z3.out; have := Z4.out; omega)
  replace HX2 := HX2.only ho (by have := Z1.out; have := Z2.out; have := Z3.out; have := Z4.out; omega)
  replace HS := HS.only ho (by have := Z1.out; have := Z2.out; have := Z3.out; have := Z4.out; omega)
  replace HB := Lib.hid (Below.only HB.out ho (by have := Z1.out; have := Z2.out; have := Z3.out; have := Z4.out; omega) HB.out.size)
  have Z5 : Hid (U5.heap.size = w4.heap.size) := Lib.hid (by rw [hU5]; simp [World.setCell]); clear ho
  obtain ⟨U6, hU6⟩ : ∃ W : World, W = ((((((U5.setCell ⟨w.heap.size + 1, 0, none⟩ (.int .i64 k)).setCell ⟨w.heap.size + 1, 1, none⟩ (.slice Pz n n)).setCell ⟨w.heap.size + 1, 2, none⟩ (.int .i64 t)).setCell ⟨w.heap.size + 1, 3, none⟩ (.int .i64 i)).setCell ⟨w.heap.size + 1, 4, none⟩ (.int .i64 a)).setCell ⟨w.heap.size + 1, 5, none⟩ (.int .i64 N)) := ⟨_, rfl⟩
  have ho : Only (w.heap.size + 1) (w.heap.size + 1 + 1) U5 U6 := by rw [hU6]; exact (((((((Only.refl _ _ _).set (p := ⟨w.heap.size + 1, 0, none⟩) (Nat.le_refl _) (Nat.lt_succ_self _) _).set (p := ⟨w.heap.size + 1, 1, none⟩) (Nat.le_refl _) (Nat.lt_succ_self _) _).set (p := ⟨w.heap.size + 1, 2, none⟩) (Nat.le_refl _) (Nat.lt_succ_self _) _).set (p := ⟨w.heap.size + 1, 3, none⟩) (Nat.le_refl _) (Nat.lt_succ_self _) _).set (p := ⟨w.heap.size + 1, 4, none⟩) (Nat.le_refl _) (Nat.lt_succ_self _) _).set (p := ⟨w.heap.size + 1, 5, none⟩) (Nat.le_refl _) (Nat.lt_succ_self _) _)
  replace HX2 : Kept (w.heap.size + 1) (w.heap.size + 1 + 1) (BoxK (w.heap.size + 1) 93 #[.int .i64 k, .slice Pz n n, .int .i64 t, .int .i64 i, .int .i64 a, .int .i64 N]) U6 := by rw [hU6]; exact Kept.box ((((((HX2.bx.puts 0 (.int .i64 k) (cs' := #[.int .i64 k, .slice none 0 0, .int .i64 0, .int .i64 0, .int .i64 0, .int .i64 0]) rfl).puts 1 (.slice Pz n n) (cs' := #[.int .i64 k, .slice Pz n n, .int .i64 0, .int .i64 0, .int .i64 0, .int .i64 0]) rfl).puts 2 (.int .i64 t) (cs' := #[.int .i64 k, .slice Pz n n, .int .i64 t, .int .i64 0, .int .i64 0, .int .i64 0]) rfl).puts 3 (.int .i64 i) (cs' := #[.int .i64 k, .slice Pz n n, .int .i64 t, .int .i64 i, .int .i64 0, .int .i64 0]) rfl).puts 4 (.int .i64 a) (cs' := #[.int .i64 k, .slice Pz n n, .int .i64 t, .int .i64 i, .int .i64 a, .int .i64 0]) rfl).puts 5 (.int .i64 N) (cs' := #[.int .i64 k, .slice Pz n n, .int .i64 t, .int .i64 i, .int .i64 a, .int .i64 N]) rfl)
  replace HA := HA.only ho (by have := Z1.out; have := Z2.out; have := Z3.out; have := Z4.out; have := Z5.out; omega)
  replace HX1 := HX1.only ho (by have := Z1.out; have := Z2.out; have := Z3.out; have := Z4.out; have := Z5.out; omega)
  replace HX3 := HX3.only ho (by have := Z1.out; have := Z2.out; have := Z3.out; have := Z4.out; have := Z5.out; omega)
  replace HS := HS.only ho (by have := Z1.out; have := Z2.out; have := Z3.out; have := Z4.out; have := Z5.out; omega)
  replace HB := Lib.hid (Below.only HB.out ho (by have := Z1.out; have := Z2.out; have := Z3.out; have := Z4.out; have := Z5.out; omega) HB.out.size)
  have Z6 : Hid (U6.heap.size = U5.heap.size) := Lib.hid (by rw [hU6]; simp [World.setCell]); clear ho
  have q_0 := HX2.look 0
  have q_1 := HX2.look 1
  have q_2 := HX2.look 2
  have q_3 := HX2.look 3
  have q_4 := HX2.look 4
  have q_5 := HX2.look 5
  subst hU6 hU5
  exact bodyPost_ret (v := .agg #[.int .i64 k, .slice Pz n n, .int .i64 t, .int .i64 i, .int .i64 a, .int .i64 N]) (by simp [results, Try.results66, go_sem, q_0, q_1, q_2, q_3, q_4, q_5]) rfl ⟨_, rfl, Rep.Sl.kept (HS.sl.mono (by have := Z1.out; have := Z2.out; have := Z3.out; have := Z4.out; omega) (by have := HS.le; have := Z1.out; have := Z2.out; have := Z3.out; have := Z4.out; omega)) (Nat.le_refl _), HB.out⟩

set_option maxRecDepth 100000 in
set_option maxHeartbeats 1600000 in
theorem toEvent_any (q : Bool) (lo hi : Nat) (A : Option Addr) (n c : Nat) (ys : List Int) (ek ew : Int) (k t i a N : Int) (w : World) (ha : Rep.u8.Sl q lo hi w A n ys) (hh : hi ≤ w.heap.size) (hn : n ≤ 1048576) :
    Calls Try.prog 71 #[.agg #[.int .i64 ek, .int .i64 ew, .int .i64 k, .slice A n c, .int .i64 t, .int .i64 i, .int .i64 a, .int .i64 N]] w fun e w' => ∃ P, e = .returned (.agg #[.int .i64 ek, .int .i64 ew, .int .i64 k, .slice P n n, .int .i64 t, .int .i64 i, .int .i64 a, .int .i64 N]) ∧ Kept w.heap.size w'.heap.size (SlK Rep.u8 true w.heap.size w'.heap.size P n ys) w' ∧ Below w.heap.size w w' := by
  have HB := Lib.hid (Below.refl w.heap.size w)
  have HA := Rep.Sl.kept ha hh
  clear ha
  go_enter Try.func71, Try.ntmps71
  go_wp2_with fail
  refine Calls.name ?_
  intro U1 hU1
  have hb : Below w.heap.size w U1 := by rw [hU1]; exact ((((Below.refl _ _).alloc (Nat.le_refl _) _).alloc (by simp <;> omega) _).alloc (by simp <;> omega) _)
  have zz : Hid (w.heap.size + 3 = U1.heap.size) := Lib.hid (by rw [hU1]; simp)
  have HX1 : Kept w.heap.size (w.heap.size + 1) (BoxK w.heap.size 98 #[.int .i64 ek, .int .i64 ew, .int .i64 k, .slice A n c, .int .i64 t, .int .i64 i, .int .i64 a, .int .i64 N]) U1 := by rw [hU1]; exact Kept.box (((Box.made_at _ _ _ rfl).over _).over _)
  have HX2 : Kept (w.heap.size + 1) (w.heap.size + 1 + 1) (BoxK (w.heap.size + 1) 102 #[.int .i64 0, .int .i64 0, .int .i64 0, .slice none 0 0, .int .i64 0, .int .i64 0, .int .i64 0, .int .i64 0]) U1 := by rw [hU1]; exact Kept.box ((Box.made_at _ _ _ (by simp <;> omega)).over _)
  have HX3 : Kept (w.heap.size + 1 + 1) (w.heap.size + 1 + 1 + 1) (BoxK (w.heap.size + 1 + 1) 102 #[.int .i64 ek, .int .i64 ew, .int .i64 0, .slice none 0 0, .int .i64 0, .int .i64 0, .int .i64 0, .int .i64 0]) U1 := by rw [hU1]; exact Kept.box (Box.made_at _ _ _ (by simp <;> omega))
  replace HA := HA.below hb
  replace HB := Lib.hid (below_step HB.out hb)
  clear hb
  have Z1 := zz; clear zz
  clear hU1
  refine (toOp_any q lo hi A n c ys k t i a N _ HA.sl HA.le hn).mono ?_
  rintro e w2 ⟨Pz, rfl, hs, hb⟩
  have Z2 := Lib.hid hb.size
  replace HA := HA.below hb
  replace HX1 := HX1.below hb
  replace HX2 := HX2.below hb
  replace HX3 := HX3.below hb
  replace HB := Lib.hid (below_step HB.out hb)
  clear hb
  have HS := hs; clear hs
  have c2_0 := HX2.look 0
  have c2_1 := HX2.look 1
  have c2_2 := HX2.look 2
  have c2_3 := HX2.look 3
  have c2_4 := HX2.look 4
  have c2_5 := HX2.look 5
  have c2_6 := HX2.look 6
  have c2_7 := HX2.look 7
  have c2_8 := HX3.look 0
  have c2_9 := HX3.look 1
  have c2_10 := HX3.look 2
  have c2_11 := HX3.look 3
  have c2_12 := HX3.look 4
  have c2_13 := HX3.look 5
  have c2_14 := HX3.look 6
  have c2_15 := HX3.look 7
  have f2_0 := HX2.free 0
  have f2_1 := HX2.free 1
  have f2_2 := HX2.free 2
  have f2_3 := HX2.free 3
  have f2_4 := HX2.free 4
  have f2_5 := HX2.free 5
  have f2_6 := HX2.free 6
  have f2_7 := HX2.free 7
  have f2_8 := HX3.free 2
  have f2_9 := HX3.free 3
  have f2_10 := HX3.free 4
  have f2_11 := HX3.free 5
  have f2_12 := HX3.free 6
  have f2_13 := HX3.free 7
  have l2_0 := HX1.bx.lt
  have l2_1 := HX2.bx.lt
  have l2_2 := HX3.bx.lt
  have n2_0_1 : ¬ (w.heap.size + 1) = (w.heap.size + 1 + 1) := (by have := Z1.out; have := Z2.out; omega)
  have m2_0_1 : ¬ (w.heap.size + 1 + 1) = (w.heap.size + 1) := (by have := Z1.out; have := Z2.out; omega)
  go_wp2
  clear c2_0 c2_1 c2_2 c2_3 c2_4 c2_5 c2_6 c2_7 c2_8 c2_9 c2_10 c2_11 c2_12 c2_13 c2_14 c2_15 f2_0 f2_1 f2_2 f2_3 f2_4 f2_5 f2_6 f2_7 f2_8 f2_9 f2_10 f2_11 f2_12 f2_13 l2_0 l2_1 l2_2 n2_0_1 m2_0_1
  obtain ⟨U3, hU3⟩ : ∃ W : World, W = ((((((w2.setCell ⟨w.heap.size + 1 + 1, 2, none⟩ (.int .i64 k)).setCell ⟨w.heap.size + 1 + 1, 3, none⟩ (.slice Pz n n)).setCell ⟨w.heap.size + 1 + 1, 4, none⟩ (.int .i64 t)).setCell ⟨w.heap.size + 1 + 1, 5, none⟩ (.int .i64 i)).setCell ⟨w.heap.size + 1 + 1, 6, none⟩ (.int .i64 a)).setCell ⟨w.heap.size + 1 + 1, 7, none⟩ (.int .i64 N)) := ⟨_, rfl⟩
  have ho : Only (w.heap.size + 1 + 1) (w.heap.size + 1 + 1 + 1) w2 U3 := by rw [hU3]; exact (((((((Only.refl _ _ _).set (p := ⟨w.heap.size + 1 + 1, 2, none⟩) (Nat.le_refl _) (Nat.lt_succ_self _) _).set (p := ⟨w.heap.size + 1 + 1, 3, none⟩) (Nat.le_refl _) (Nat.lt_succ_self _) _).set (p := ⟨w.heap.size + 1 + 1, 4, none⟩) (Nat.le_refl _) (Nat.lt_succ_self _) _).set (p := ⟨w.heap.size + 1 + 1, 5, none⟩) (Nat.le_refl _) (Nat.lt_succ_self _) _).set (p := ⟨w.heap.size + 1 + 1, 6, none⟩) (Nat.le_refl _) (Nat.lt_succ_self _) _).set (p := ⟨w.heap.size + 1 + 1, 7, none⟩) (Nat.le_refl _) (Nat.lt_succ_self _) _)
  replace HX3 : Kept (w.heap.size + 1 + 1) (w.heap.size + 1 + 1 + 1) (BoxK (w.heap.size + 1 + 1) 102 #[.int .i64 ek, .int .i64 ew, .int .i64 k, .slice Pz n n, .int .i64 t, .int .i64 i, .int .i64 a, .int .i64 N]) U3 := by rw [hU3]; exact Kept.box ((((((HX3.bx.puts 2 (.int .i64 k) (cs' := #[.int .i64 ek, .int .i64 ew, .int .i64 k, .slice none 0 0, .int .i64 0, .int .i64 0, .int .i64 0, .int .i64 0]) rfl).puts 3 (.slice Pz n n) (cs' := #[.int .i64 ek, .int .i64 ew, .int .i64 k, .slice Pz n n, .int .i64 0, .int .i64 0, .int .i64 0, .int .i64 0]) rfl).puts 4 (.int .i64 t) (cs' := #[.int .i64 ek, .int .i64 ew, .int .i64 k, .slice Pz n n, .int .i64 t, .int .i64 0, .int .i64 0, .int .i64 0]) rfl).puts 5 (.int .i64 i) (cs' := #[.int .i64 ek, .int .i64 ew, .int .i64 k, .slice Pz n n, .int .i64 t, .int .i64 i, .int .i64 0, .int .i64 0]) rfl).puts 6 (.int .i64 a) (cs' := #[.int .i64 ek, .int .i64 ew, .int .i64 k, .slice Pz n n, .int .i64 t, .int .i64 i, .int .i64 a, .int .i64 0]) rfl).puts 7 (.int .i64 N) (cs' := #[.int .i64 ek, .int .i64 ew, .int .i64 k, .slice Pz n n, .int .i64 t, .int .i64 i, .int .i64 a, .int .i64 N]) rfl)
  replace HA := HA.only ho (by have := Z1.out; have := Z2.out; omega)
  replace HX1 := HX1.only ho (by have := Z1.out; have := Z2.out; omega)
  replace HX2 := HX2.only ho (by have := Z1.out; have := Z2.out; omega)
  replace HS := HS.only ho (by have := Z1.out; have := Z2.out; omega)
  replace HB := Lib.hid (Below.only HB.out ho (by have := Z1.out; have := Z2.out; omega) HB.out.size)
  have Z3 : Hid (U3.heap.size = w2.heap.size) := Lib.hid (by rw [hU3]; simp [World.setCell]); clear ho
  obtain ⟨U4, hU4⟩ : ∃ W : World, W = ((((((((U3.setCell ⟨w.heap.size + 1, 0, none⟩ (.int .i64 ek)).setCell ⟨w.heap.size + 1, 1, none⟩ (.int .i64 ew)).setCell ⟨w.heap.size + 1, 2, none⟩ (.int .i64 k)).setCell ⟨w.heap.size + 1, 3, none⟩ (.slice Pz n n)).setCell ⟨w.heap.size + 1, 4, none⟩ (.int .i64 t)).setCell ⟨w.heap.size + 1, 5, none⟩ (.int .i64 i)).setCell ⟨w.heap.size + 1, 6, none⟩ (.int .i64 a)).setCell ⟨w.heap.size + 1, 7, none⟩ (.int .i64 N)) := ⟨_, rfl⟩
  have ho : Only (w.heap.size + 1) (w.heap.size + 1 + 1) U3 U4 := by rw [hU4]; exact (((((((((Only.refl _ _ _).set (p := ⟨w.heap.size + 1, 0, none⟩) (Nat.le_refl _) (Nat.lt_succ_self _) _).set (p := ⟨w.heap.size + 1, 1, none⟩) (Nat.le_refl _) (Nat.lt_succ_self _) _).set (p := ⟨w.heap.size + 1, 2, none⟩) (Nat.le_refl _) (Nat.lt_succ_self _) _).set (p := ⟨w.heap.size + 1, 3, none⟩) (Nat.le_refl _) (Nat.lt_succ_self _) _).set (p := ⟨w.heap.size + 1, 4, none⟩) (Nat.le_refl _) (Nat.lt_succ_self _) _).set (p := ⟨w.heap.size + 1, 5, none⟩) (Nat.le_refl _) (Nat.lt_succ_self _) _).set (p := ⟨w.heap.size + 1, 6, none⟩) (Nat.le_refl _) (Nat.lt_succ_self _) _).set (p := ⟨w.heap.size + 1, 7, none⟩) (Nat.le_refl _) (Nat.lt_succ_self _) _)
  replace HX2 : Kept (w.heap.size + 1) (w.heap.size + 1 + 1) (BoxK (w.heap.size + 1) 102 #[.int .i64 ek, .int .i64 ew, .int .i64 k, .slice Pz n n, .int .i64 t, .int .i64 i, .int .i64 a, .int .i64 N]) U4 := by rw [hU4]; exact Kept.box ((((((((HX2.bx.puts 0 (.int .i64 ek) (cs' := #[.int .i64 ek, .int .i64 0, .int .i64 0, .slice none 0 0, .int .i64 0, .int .i64 0, .int .i64 0, .int .i64 0]) rfl).puts 1 (.int .i64 ew) (cs' := #[.int .i64 ek, .int .i64 ew, .int .i64 0, .slice none 0 0, .int .i64 0, .int .i64 0, .int .i64 0, .int .i64 0]) rfl).puts 2 (.int .i64 k) (cs' := #[.int .i64 ek, .int .i64 ew, .int .i64 k, .slice none 0 0, .int .i64 0, .int .i64 0, .int .i64 0, .int .i64 0]) rfl).puts 3 (.slice Pz n n) (cs' := #[.int .i64 ek, .int .i64 ew, .int .i64 k, .slice Pz n n, .int .i64 0, .int .i64 0, .int .i64 0, .int .i64 0]) rfl).puts 4 (.int .i64 t) (cs' := #[.int .i64 ek, .int .i64 ew, .int .i64 k, .slice Pz n n, .int .i64 t, .int .i64 0, .int .i64 0, .int .i64 0]) rfl).puts 5 (.int .i64 i) (cs' := #[.int .i64 ek, .int .i64 ew, .int .i64 k, .slice Pz n n, .int .i64 t, .int .i64 i, .int .i64 0, .int .i64 0]) rfl).puts 6 (.int .i64 a) (cs' := #[.int .i64 ek, .int .i64 ew, .int .i64 k, .slice Pz n n, .int .i64 t, .int .i64 i, .int .i64 a, .int .i64 0]) rfl).puts 7 (.int .i64 N) (cs' := #[.int .i64 ek, .int .i64 ew, .int .i64 k, .slice Pz n n, .int .i64 t, .int .i64 i, .int .i64 a, .int .i64 N]) rfl)
  replace HA := HA.only ho (by have := Z1.out; have := Z2.out; have := Z3.out; omega)
  replace HX1 := HX1.only ho (by have := Z1.out; have := Z2.out; have := Z3.out; omega)
  replace HX3 := HX3.only ho (by have := Z1.out; have := Z2.out; have := Z3.out; omega)
  replace HS := HS.only ho (by have := Z1.out; have := Z2.out; have := Z3.out; omega)
  replace HB := Lib.hid (Below.only HB.out ho (by have := Z1.out; have := Z2.out; have := Z3.out; omega) HB.out.size)
  have Z4 : Hid (U4.heap.size = U3.heap.size) := Lib.hid (by rw [hU4]; simp [World.setCell]); clear ho
  have q_0 := HX2.look 0
  have q_1 := HX2.look 1
  have q_2 := HX2.look 2
  have q_3 := HX2.look 3
  have q_4 := HX2.look 4
  have q_5 := HX2.look 5
  have q_6 := HX2.look 6
  have q_7 := HX2.look 7
  subst hU4 hU3
  exact bodyPost_ret (v := .agg #[.int .i64 ek, .int .i64 ew, .int .i64 k, .slice Pz n n, .int .i64 t, .int .i64 i, .int .i64 a, .int .i64 N]) (by simp [results, Try.results71, go_sem, q_0, q_1, q_2, q_3, q_4, q_5, q_6, q_7]) rfl ⟨_, rfl, Rep.Sl.kept (HS.sl.mono (by have := Z1.out; have := Z2.out; omega) (by have := HS.le; have := Z1.out; have := Z2.out; omega)) (Nat.le_refl _), HB.out⟩

set_option maxRecDepth 100000 in
set_option maxHeartbeats 1600000 in
theorem eqOp_yes (k t i a N : Int) (q1 q2 : Bool) (l1 h1 l2 h2 : Nat) (A B : Option Addr) (n c d : Nat) (ys : List Int) (w : World) (ha : Rep.u8.Sl q1 l1 h1 w A n ys) (hb : Rep.u8.Sl q2 l2 h2 w B n ys) (hh1 : h1 ≤ w.heap.size) (hh2 : h2 ≤ w.heap.size) (hn : n ≤ 1048576) :
    Calls Try.prog 68 #[.agg #[.int .i64 k, .slice A n c, .int .i64 t, .int .i64 i, .int .i64 a, .int .i64 N], .agg #[.int .i64 k, .slice B n d, .int .i64 t, .int .i64 i, .int .i64 a, .int .i64 N]] w fun e w' => e = .returned (.bool true) ∧ Below w.heap.size w w' := by
  have HB := Lib.hid (Below.refl w.heap.size w)
  have HA := Rep.Sl.kept ha hh1
  have HC := Rep.Sl.kept hb hh2
  clear ha hb
  go_enter Try.func68, Try.ntmps68
  go_wp2_with fail
  refine Calls.name ?_
  intro U1 hU1
  have hb : Below w.heap.size w U1 := by rw [hU1]; exact (((Below.refl _ _).alloc (Nat.le_refl _) _).alloc (by simp <;> omega) _)
  have zz : Hid (w.heap.size + 2 = U1.heap.size) := Lib.hid (by rw [hU1]; simp)
  have HX1 : Kept w.heap.size (w.heap.size + 1) (BoxK w.heap.size 93 #[.int .i64 k, .slice A n c, .int .i64 t, .int .i64 i, .int .i64 a, .int .i64 N]) U1 := by rw [hU1]; exact Kept.box ((Box.made_at _ _ _ rfl).over _)
  have HX2 : Kept (w.heap.size + 1) (w.heap.size + 1 + 1) (BoxK (w.heap.size + 1) 93 #[.int .i64 k, .slice B n d, .int .i64 t, .int .i64 i, .int .i64 a, .int .i64 N]) U1 := by rw [hU1]; exact Kept.box (Box.made_at _ _ _ (by simp <;> omega))
  replace HA := HA.below hb
  replace HC := HC.below hb
  replace HB := Lib.hid (below_step HB.out hb)
  clear hb
  have Z1 := zz; clear zz
  clear hU1
  refine (eqByteS_sl q1 q2 l1 h1 l2 h2 A B n c d ys _ HA.sl HC.sl hn).mono ?_
  rintro e w2 ⟨rfl, hb⟩
  have Z2 := Lib.hid hb.size
  replace HA := HA.below hb
  replace HC := HC.below hb
  replace HX1 := HX1.below hb
  replace HX2 := HX2.below hb
  replace HB := Lib.hid (below_step HB.out hb)
  clear hb
  have c2_0 := HX1.look 2
  have c2_1 := HX1.look 3
  have c2_2 := HX1.look 4
  have c2_3 := HX2.look 2
  have c2_4 := HX2.look 3
  have c2_5 := HX2.look 4
  have l2_0 := HX1.bx.lt
  have l2_1 := HX2.bx.lt
  go_wp2_with fail
  clear c2_0 c2_1 c2_2 c2_3 c2_4 c2_5 l2_0 l2_1
  refine (eqKey_yes t i a _).mono ?_
  rintro e w3 ⟨rfl, hb⟩
  have Z3 := Lib.hid hb.size
  replace HA := HA.below hb
  replace HC := HC.below hb
  replace HX1 := HX1.below hb
  replace HX2 := HX2.below hb
  replace HB := Lib.hid (below_step HB.out hb)
  clear hb
  have c3_0 := HX1.look 5
  have c3_1 := HX2.look 5
  have l3_0 := HX1.bx.lt
  have l3_1 := HX2.bx.lt
  go_wp2
  clear c3_0 c3_1 l3_0 l3_1
  go_ret
  exact ⟨rfl, HB.out⟩

set_option maxRecDepth 100000 in
set_option maxHeartbeats 1600000 in
theorem eqEvent_yes (ek ew : Int) (k t i a N : Int) (q1 q2 : Bool) (l1 h1 l2 h2 : Nat) (A B : Option Addr) (n c d : Nat) (ys : List Int) (w : World) (ha : Rep.u8.Sl q1 l1 h1 w A n ys) (hb : Rep.u8.Sl q2 l2 h2 w B n ys) (hh1 : h1 ≤ w.heap.size) (hh2 : h2 ≤ w.heap.size) (hn : n ≤ 1048576) :
    Calls Try.prog 73 #[.agg #[.int .i64 ek, .int .i64 ew, .int .i64 k, .slice A n c, .int .i64 t, .int .i64 i, .int .i64 a, .int .i64 N], .agg #[.int .i64 ek, .int .i64 ew, .int .i64 k, .slice B n d, .int .i64 t, .int .i64 i, .int .i64 a, .int .i64 N]] w fun e w' => e = .returned (.bool true) ∧ Below w.heap.size w w' := by
  have HB := Lib.hid (Below.refl w.heap.size w)
  have HA := Rep.Sl.kept ha hh1
  have HC := Rep.Sl.kept hb hh2
  clear ha hb
  go_enter Try.func73, Try.ntmps73
  go_wp2_with fail
  refine Calls.name ?_
  intro U1 hU1
  have hb : Below w.heap.size w U1 := by rw [hU1]; exact (((Below.refl _ _).alloc (Nat.le_refl _) _).alloc (by simp <;> omega) _)
  have zz : Hid (w.heap.size + 2 = U1.heap.size) := Lib.hid (by rw [hU1]; simp)
  have HX1 : Kept w.heap.size (w.heap.size + 1) (BoxK w.heap.size 102 #[.int .i64 ek, .int .i64 ew, .int .i64 k, .slice A n c, .int .i64 t, .int .i64 i, .int .i64 a, .int .i64 N]) U1 := by rw [hU1]; exact Kept.box ((Box.made_at _ _ _ rfl).over _)
  have HX2 : Kept (w.heap.size + 1) (w.heap.size + 1 + 1) (BoxK (w.heap.size + 1) 102 #[.int .i64 ek, .int .i64 ew, .int .i64 k, .slice B n d, .int .i64 t, .int .i64 i, .int .i64 a, .int .i64 N]) U1 := by rw [hU1]; exact Kept.box (Box.made_at _ _ _ (by simp <;> omega))
  replace HA := HA.below hb
  replace HC := HC.below hb
  replace HB := Lib.hid (below_step HB.out hb)
  clear hb
  have Z1 := zz; clear zz
  clear hU1
  refine (eqOp_yes k t i a N q1 q2 l1 h1 l2 h2 A B n c d ys _ HA.sl HC.sl HA.le HC.le hn).mono ?_
  rintro e w2 ⟨rfl, hb⟩
  have Z2 := Lib.hid hb.size
  replace HA := HA.below hb
  replace HC := HC.below hb
  replace HX1 := HX1.below hb
  replace HX2 := HX2.below hb
  replace HB := Lib.hid (below_step HB.out hb)
  clear hb
  have l2_0 := HX1.bx.lt
  have l2_1 := HX2.bx.lt
  go_wp2
  clear l2_0 l2_1
  go_ret
  exact ⟨rfl, HB.out⟩

theorem cells_okey : Try.prog.cellsOf 87 = 3 := by kernel_rfl
theorem cells_u8 : Try.prog.cellsOf 5 = 1 := by kernel_rfl
theorem cells_u8S : Try.prog.cellsOf 22 = 1 := by kernel_rfl
theorem cells_op : Try.prog.cellsOf 89 = 6 := by kernel_rfl
theorem cells_event : Try.prog.cellsOf 98 = 8 := by kernel_rfl

set_option maxRecDepth 20000 in
theorem open_okey {H : Type} {enc : TypeId × Value → H} {w : World} {fuel : Nat} {cs : List Value} {x : DataW H × List MemPlace} (h : DataW.trod enc Try.prog w 0 (fun _ => true) true fuel 87 cs = some x) :
    ∃ z0 z1 z2 : Int, cs = [.int .i64 z0, .int .i64 z1, .int .i64 z2] := by
  obtain ⟨ys, k2, _, _, hl, hy, hg⟩ := DataW.trod_struct Try.underlying87 h
  rw [cells_okey] at hl
  have hy3 : ys.length = 3 := hy
  clear h hy
  match cs, hl with
  | [c2, c3, c4], _ =>
    have g0 : DataW.trod enc Try.prog w 0 (fun _ => true) true k2 2 [c2] = ys[0]? := by simpa [cells_i64] using hg 0 _ rfl
    have g1 : DataW.trod enc Try.prog w 0 (fun _ => true) true k2 2 [c3] = ys[1]? := by simpa [cells_i64] using hg 1 _ rfl
    have g2 : DataW.trod enc Try.prog w 0 (fun _ => true) true k2 2 [c4] = ys[2]? := by simpa [cells_i64] using hg 2 _ rfl
    obtain ⟨z2, rfl⟩ := cell_int (by simp [hy3]) g0
    obtain ⟨z3, rfl⟩ := cell_int (by simp [hy3]) g1
    obtain ⟨z4, rfl⟩ := cell_int (by simp [hy3]) g2
    exact ⟨z2, z3, z4, rfl⟩

set_option maxRecDepth 20000 in
/-- An op that came in. -/
theorem open_op {H : Type} {enc : TypeId × Value → H} {w : World} {fuel : Nat} {cs : List Value} {x : DataW H × List MemPlace} (h : DataW.trod enc Try.prog w 0 (fun _ => true) true fuel 89 cs = some x) :
    ∃ (k : Int) (A : Option Addr) (n c : Nat) (t i a N : Int) (ys : List Int), cs = [.int .i64 k, .slice A n c, .int .i64 t, .int .i64 i, .int .i64 a, .int .i64 N] ∧ Rep.u8.Sl false 0 w.heap.size w A n ys ∧ n ≤ maxLen := by
  obtain ⟨xs, m, _, _, hl, hx, hf⟩ := DataW.trod_struct Try.underlying89 h
  rw [cells_op] at hl
  have hx4 : xs.length = 4 := hx
  clear h hx
  match cs, hl with
  | [c0, c1, c2, c3, c4, c5], _ =>
    have f0 : DataW.trod enc Try.prog w 0 (fun _ => true) true m 2 [c0] = xs[0]? := by simpa [cells_i64, cells_okey, cells_u8S] using hf 0 _ rfl
    have f1 : DataW.trod enc Try.prog w 0 (fun _ => true) true m 22 [c1] = xs[1]? := by simpa [cells_i64, cells_okey, cells_u8S] using hf 1 _ rfl
    have f2 : DataW.trod enc Try.prog w 0 (fun _ => true) true m 87 [c2, c3, c4] = xs[2]? := by simpa [cells_i64, cells_okey, cells_u8S] using hf 2 _ rfl
    have f3 : DataW.trod enc Try.prog w 0 (fun _ => true) true m 2 [c5] = xs[3]? := by simpa [cells_i64, cells_okey, cells_u8S] using hf 3 _ rfl
    obtain ⟨z0, rfl⟩ := cell_int (by simp [hx4]) f0
    obtain ⟨z5, rfl⟩ := cell_int (by simp [hx4]) f3
    rw [List.getElem?_eq_getElem (by omega : 1 < xs.length)] at f1
    rw [List.getElem?_eq_getElem (by omega : 2 < xs.length)] at f2
    obtain ⟨y0, y1, y2, e⟩ := open_okey f2
    simp only [List.cons.injEq, and_true] at e
    obtain ⟨rfl, rfl, rfl⟩ := e
    obtain ⟨ys, A, n, c, e2, hnc, hcm, hL⟩ := opens_slice Try.underlying22 cells_u8 (by decide) (opens_u8 Try.underlying5) H enc w _ _ _ f1
    injection e2 with e2
    subst e2
    exact ⟨z0, A, n, c, y0, y1, y2, z5, ys, rfl, hL, Nat.le_trans hnc hcm⟩

set_option maxRecDepth 20000 in
/-- An event that came in. -/
theorem open_event {H : Type} {enc : TypeId × Value → H} {w : World} {fuel : Nat} {cs : List Value} {x : DataW H × List MemPlace} (h : DataW.trod enc Try.prog w 0 (fun _ => true) true fuel 98 cs = some x) :
    ∃ (ek ew k : Int) (A : Option Addr) (n c : Nat) (t i a N : Int) (ys : List Int), cs = [.int .i64 ek, .int .i64 ew, .int .i64 k, .slice A n c, .int .i64 t, .int .i64 i, .int .i64 a, .int .i64 N] ∧ Rep.u8.Sl false 0 w.heap.size w A n ys ∧ n ≤ maxLen := by
  obtain ⟨xs, m, _, _, hl, hx, hf⟩ := DataW.trod_struct Try.underlying98 h
  rw [cells_event] at hl
  have hx3 : xs.length = 3 := hx
  clear h hx
  match cs, hl with
  | [c0, c1, c2, c3, c4, c5, c6, c7], _ =>
    have f0 : DataW.trod enc Try.prog w 0 (fun _ => true) true m 2 [c0] = xs[0]? := by simpa [cells_i64, cells_op] using hf 0 _ rfl
    have f1 : DataW.trod enc Try.prog w 0 (fun _ => true) true m 2 [c1] = xs[1]? := by simpa [cells_i64, cells_op] using hf 1 _ rfl
    have f2 : DataW.trod enc Try.prog w 0 (fun _ => true) true m 89 [c2, c3, c4, c5, c6, c7] = xs[2]? := by simpa [cells_i64, cells_op] using hf 2 _ rfl
    obtain ⟨z0, rfl⟩ := cell_int (by simp [hx3]) f0
    obtain ⟨z1, rfl⟩ := cell_int (by simp [hx3]) f1
    rw [List.getElem?_eq_getElem (by omega : 2 < xs.length)] at f2
    obtain ⟨k, A, n, c, t, i, a, N, ys, e, hL, hN⟩ := open_op f2
    simp only [List.cons.injEq, and_true] at e
    obtain ⟨rfl, rfl, rfl, rfl, rfl, rfl⟩ := e
    exact ⟨z0, z1, k, A, n, c, t, i, a, N, ys, rfl, hL, hN⟩

end Go.Proofs.Ytiffhjofabaflaa
