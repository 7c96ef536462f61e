/-
  The walk of the law FnExactNewBase: both NewBase, and what the law's helpers do with answers whose slices are nil.
-/
import Derived.Test.YtakplomopbnekaaWheelOut
namespace Go.Proofs.Ytakplomopbnekaa
open Go.RowKit
set_option linter.unusedVariables false

/-- Loops over empty slices. -/
theorem eqEntryS_nil (w : World) : Calls Try.prog 115 #[.slice none 0 0, .slice none 0 0] w fun e w' => e = .returned (.bool true) ∧ w' = w := by
  go_enter Try.func115, Try.ntmps115
  go_wp2
  go_loop [5] (fun i => i = .int .i64 0) (fun _ => 0)
  case atStart => exact rfl
  case round =>
    obtain rfl := hrel
    go_wp2
    go_ret
    exact ⟨rfl, rfl⟩
theorem eqKeyS_nil (w : World) : Calls Try.prog 116 #[.slice none 0 0, .slice none 0 0] w fun e w' => e = .returned (.bool true) ∧ w' = w := by
  go_enter Try.func116, Try.ntmps116
  go_wp2
  go_loop [5] (fun i => i = .int .i64 0) (fun _ => 0)
  case atStart => exact rfl
  case round =>
    obtain rfl := hrel
    go_wp2
    go_ret
    exact ⟨rfl, rfl⟩
theorem markEntryS_nil (w : World) : Calls Try.prog 125 #[.slice none 0 0, .int .i64 1] w fun e w' => e = .returned (.int .i64 1) ∧ w' = w := by
  go_enter Try.func125, Try.ntmps125
  go_wp2
  go_loop [5, 1] (fun i k => i = .int .i64 0 ∧ k = .int .i64 1) (fun _ _ => 0)
  case atStart => exact ⟨rfl, rfl⟩
  case round =>
    obtain ⟨rfl, rfl⟩ := hrel
    go_wp2
    go_ret
    exact ⟨rfl, rfl⟩
theorem markKeyS_nil (w : World) : Calls Try.prog 117 #[.slice none 0 0, .int .i64 1] w fun e w' => e = .returned (.int .i64 1) ∧ w' = w := by
  go_enter Try.func117, Try.ntmps117
  go_wp2
  go_loop [5, 1] (fun i k => i = .int .i64 0 ∧ k = .int .i64 1) (fun _ _ => 0)
  case atStart => exact ⟨rfl, rfl⟩
  case round =>
    obtain ⟨rfl, rfl⟩ := hrel
    go_wp2
    go_ret
    exact ⟨rfl, rfl⟩
theorem heldEntryS_nil (w : World) : Calls Try.prog 149 #[.slice none 0 0, .int .i64 1] w fun e w' => e = .returned (.int .i64 1) ∧ w' = w := by
  go_enter Try.func149, Try.ntmps149
  go_wp2
  go_loop [5, 1] (fun i k => i = .int .i64 0 ∧ k = .int .i64 1) (fun _ _ => 0)
  case atStart => exact ⟨rfl, rfl⟩
  case round =>
    obtain ⟨rfl, rfl⟩ := hrel
    go_wp2
    go_ret
    exact ⟨rfl, rfl⟩
theorem heldKeyS_nil (w : World) : Calls Try.prog 119 #[.slice none 0 0, .int .i64 1] w fun e w' => e = .returned (.int .i64 1) ∧ w' = w := by
  go_enter Try.func119, Try.ntmps119
  go_wp2
  go_loop [5, 1] (fun i k => i = .int .i64 0 ∧ k = .int .i64 1) (fun _ _ => 0)
  case atStart => exact ⟨rfl, rfl⟩
  case round =>
    obtain ⟨rfl, rfl⟩ := hrel
    go_wp2
    go_ret
    exact ⟨rfl, rfl⟩

set_option maxRecDepth 100000 in
set_option maxHeartbeats 1600000 in
theorem eqBase_nil (now : Int) (w : World)  :
    Calls Try.prog 52 #[.agg #[.int .i64 now, .slice none 0 0], .agg #[.int .i64 now, .slice none 0 0]] w fun e w' => e = .returned (.bool true) ∧ Below w.heap.size w w' := by
  have HB := Lib.hid (Below.refl w.heap.size w)
  go_enter Try.func52, Try.ntmps52
  go_wp2_with fail
  refine Calls.name ?_
  intro U1 hU1
  have hb : Below w.heap.size w U1 := by rw [hU1]; exact (((Below.refl _ _).alloc (Nat.le_refl _) _).alloc (by simp <;> omega) _)
  have zz : Hid (w.heap.size + 2 = U1.heap.size) := Lib.hid (by rw [hU1]; simp)
  have HX1 : Kept w.heap.size (w.heap.size + 1) (BoxK w.heap.size 79 #[.int .i64 now, .slice none 0 0]) U1 := by rw [hU1]; exact Kept.box ((Box.made_at _ _ _ rfl).over _)
  have HX2 : Kept (w.heap.size + 1) (w.heap.size + 1 + 1) (BoxK (w.heap.size + 1) 79 #[.int .i64 now, .slice none 0 0]) U1 := by rw [hU1]; exact Kept.box (Box.made_at _ _ _ (by simp <;> omega))
  replace HB := Lib.hid (below_step HB.out hb)
  clear hb
  have Z1 := zz; clear zz
  clear hU1
  refine (eqEntryS_nil _).mono ?_
  rintro e w2 ⟨rfl, rfl⟩
  have l2_0 := HX1.bx.lt
  have l2_1 := HX2.bx.lt
  go_wp2
  clear l2_0 l2_1
  go_ret
  exact ⟨rfl, HB.out⟩

set_option maxRecDepth 100000 in
set_option maxHeartbeats 1600000 in
theorem eqBaseResult_nil (code now : Int) (w : World)  :
    Calls Try.prog 55 #[.agg #[.int .i64 code, .int .i64 now, .slice none 0 0, .bool false, .slice none 0 0], .agg #[.int .i64 code, .int .i64 now, .slice none 0 0, .bool false, .slice none 0 0]] w fun e w' => e = .returned (.bool true) ∧ Below w.heap.size w w' := by
  have HB := Lib.hid (Below.refl w.heap.size w)
  go_enter Try.func55, Try.ntmps55
  go_wp2_with fail
  refine Calls.name ?_
  intro U1 hU1
  have hb : Below w.heap.size w U1 := by rw [hU1]; exact (((Below.refl _ _).alloc (Nat.le_refl _) _).alloc (by simp <;> omega) _)
  have zz : Hid (w.heap.size + 2 = U1.heap.size) := Lib.hid (by rw [hU1]; simp)
  have HX1 : Kept w.heap.size (w.heap.size + 1) (BoxK w.heap.size 85 #[.int .i64 code, .int .i64 now, .slice none 0 0, .bool false, .slice none 0 0]) U1 := by rw [hU1]; exact Kept.box ((Box.made_at _ _ _ rfl).over _)
  have HX2 : Kept (w.heap.size + 1) (w.heap.size + 1 + 1) (BoxK (w.heap.size + 1) 85 #[.int .i64 code, .int .i64 now, .slice none 0 0, .bool false, .slice none 0 0]) U1 := by rw [hU1]; exact Kept.box (Box.made_at _ _ _ (by simp <;> omega))
  replace HB := Lib.hid (below_step HB.out hb)
  clear hb
  have Z1 := zz; clear zz
  clear hU1
  refine (eqBase_nil now _).mono ?_
  rintro e w2 ⟨rfl, hb⟩
  have Z2 := Lib.hid hb.size
  replace HX1 := HX1.below hb
  replace HX2 := HX2.below hb
  replace HB := Lib.hid (below_step HB.out hb)
  clear hb
  have c2_0 := HX1.look 3
  have c2_1 := HX1.look 4
  have c2_2 := HX2.look 3
  have c2_3 := HX2.look 4
  have l2_0 := HX1.bx.lt
  have l2_1 := HX2.bx.lt
  go_wp2_with fail
  clear c2_0 c2_1 c2_2 c2_3 l2_0 l2_1
  refine (eqKeyS_nil _).mono ?_
  rintro e w3 ⟨rfl, rfl⟩
  have l3_0 := HX1.bx.lt
  have l3_1 := HX2.bx.lt
  go_wp2
  clear l3_0 l3_1
  go_ret
  exact ⟨rfl, HB.out⟩

set_option maxRecDepth 100000 in
set_option maxHeartbeats 1600000 in
theorem markBase_nil (now : Int) (w : World)  :
    Calls Try.prog 62 #[.agg #[.int .i64 now, .slice none 0 0], .int .i64 1] w fun e w' => e = .returned (.int .i64 1) ∧ Below w.heap.size w w' := by
  have HB := Lib.hid (Below.refl w.heap.size w)
  go_enter Try.func62, Try.ntmps62
  go_wp2_with fail
  refine Calls.name ?_
  intro U1 hU1
  have hb : Below w.heap.size w U1 := by rw [hU1]; exact ((Below.refl _ _).alloc (Nat.le_refl _) _)
  have zz : Hid (w.heap.size + 1 = U1.heap.size) := Lib.hid (by rw [hU1]; simp)
  have HX1 : Kept w.heap.size (w.heap.size + 1) (BoxK w.heap.size 79 #[.int .i64 now, .slice none 0 0]) U1 := by rw [hU1]; exact Kept.box (Box.made_at _ _ _ rfl)
  replace HB := Lib.hid (below_step HB.out hb)
  clear hb
  have Z1 := zz; clear zz
  clear hU1
  refine (markEntryS_nil _).mono ?_
  rintro e w2 ⟨rfl, rfl⟩
  have l2_0 := HX1.bx.lt
  go_wp2
  clear l2_0
  go_ret
  exact ⟨rfl, HB.out⟩

set_option maxRecDepth 100000 in
set_option maxHeartbeats 1600000 in
theorem markBaseResult_nil (code now : Int) (w : World)  :
    Calls Try.prog 56 #[.agg #[.int .i64 code, .int .i64 now, .slice none 0 0, .bool false, .slice none 0 0], .int .i64 1] w fun e w' => e = .returned (.int .i64 1) ∧ Below w.heap.size w w' := by
  have HB := Lib.hid (Below.refl w.heap.size w)
  go_enter Try.func56, Try.ntmps56
  go_wp2_with fail
  refine Calls.name ?_
  intro U1 hU1
  have hb : Below w.heap.size w U1 := by rw [hU1]; exact ((Below.refl _ _).alloc (Nat.le_refl _) _)
  have zz : Hid (w.heap.size + 1 = U1.heap.size) := Lib.hid (by rw [hU1]; simp)
  have HX1 : Kept w.heap.size (w.heap.size + 1) (BoxK w.heap.size 85 #[.int .i64 code, .int .i64 now, .slice none 0 0, .bool false, .slice none 0 0]) U1 := by rw [hU1]; exact Kept.box (Box.made_at _ _ _ rfl)
  replace HB := Lib.hid (below_step HB.out hb)
  clear hb
  have Z1 := zz; clear zz
  clear hU1
  refine (markBase_nil now _).mono ?_
  rintro e w2 ⟨rfl, hb⟩
  have Z2 := Lib.hid hb.size
  replace HX1 := HX1.below hb
  replace HB := Lib.hid (below_step HB.out hb)
  clear hb
  have c2_0 := HX1.look 4
  have l2_0 := HX1.bx.lt
  go_wp2_with fail
  clear c2_0 l2_0
  refine (markKeyS_nil _).mono ?_
  rintro e w3 ⟨rfl, rfl⟩
  have l3_0 := HX1.bx.lt
  go_wp2
  clear l3_0
  go_ret
  exact ⟨rfl, HB.out⟩

set_option maxRecDepth 100000 in
set_option maxHeartbeats 1600000 in
theorem heldBase_nil (now : Int) (w : World)  :
    Calls Try.prog 118 #[.agg #[.int .i64 now, .slice none 0 0], .int .i64 1] w fun e w' => e = .returned (.int .i64 1) ∧ Below w.heap.size w w' := by
  have HB := Lib.hid (Below.refl w.heap.size w)
  go_enter Try.func118, Try.ntmps118
  go_wp2_with fail
  refine Calls.name ?_
  intro U1 hU1
  have hb : Below w.heap.size w U1 := by rw [hU1]; exact ((Below.refl _ _).alloc (Nat.le_refl _) _)
  have zz : Hid (w.heap.size + 1 = U1.heap.size) := Lib.hid (by rw [hU1]; simp)
  have HX1 : Kept w.heap.size (w.heap.size + 1) (BoxK w.heap.size 79 #[.int .i64 now, .slice none 0 0]) U1 := by rw [hU1]; exact Kept.box (Box.made_at _ _ _ rfl)
  replace HB := Lib.hid (below_step HB.out hb)
  clear hb
  have Z1 := zz; clear zz
  clear hU1
  refine (heldEntryS_nil _).mono ?_
  rintro e w2 ⟨rfl, rfl⟩
  have l2_0 := HX1.bx.lt
  go_wp2
  clear l2_0
  go_ret
  exact ⟨rfl, HB.out⟩

set_option maxRecDepth 100000 in
set_option maxHeartbeats 1600000 in
theorem heldBaseResult_nil (code now : Int) (w : World)  :
    Calls Try.prog 57 #[.agg #[.int .i64 code, .int .i64 now, .slice none 0 0, .bool false, .slice none 0 0], .int .i64 1] w fun e w' => e = .returned (.int .i64 1) ∧ Below w.heap.size w w' := by
  have HB := Lib.hid (Below.refl w.heap.size w)
  go_enter Try.func57, Try.ntmps57
  go_wp2_with fail
  refine Calls.name ?_
  intro U1 hU1
  have hb : Below w.heap.size w U1 := by rw [hU1]; exact ((Below.refl _ _).alloc (Nat.le_refl _) _)
  have zz : Hid (w.heap.size + 1 = U1.heap.size) := Lib.hid (by rw [hU1]; simp)
  have HX1 : Kept w.heap.size (w.heap.size + 1) (BoxK w.heap.size 85 #[.int .i64 code, .int .i64 now, .slice none 0 0, .bool false, .slice none 0 0]) U1 := by rw [hU1]; exact Kept.box (Box.made_at _ _ _ rfl)
  replace HB := Lib.hid (below_step HB.out hb)
  clear hb
  have Z1 := zz; clear zz
  clear hU1
  refine (heldBase_nil now _).mono ?_
  rintro e w2 ⟨rfl, hb⟩
  have Z2 := Lib.hid hb.size
  replace HX1 := HX1.below hb
  replace HB := Lib.hid (below_step HB.out hb)
  clear hb
  have c2_0 := HX1.look 4
  have l2_0 := HX1.bx.lt
  go_wp2_with fail
  clear c2_0 l2_0
  refine (heldKeyS_nil _).mono ?_
  rintro e w3 ⟨rfl, rfl⟩
  have l3_0 := HX1.bx.lt
  go_wp2
  clear l3_0
  go_ret
  exact ⟨rfl, HB.out⟩

set_option maxRecDepth 100000 in
set_option maxHeartbeats 1600000 in
theorem specNewBase_any (now : Int) (w : World)  :
    Calls Try.prog 53 #[.int .i64 now] w fun e w' => e = .returned (.agg #[.int .i64 (nwC now), .int .i64 (nwN now), .slice none 0 0, .bool false, .slice none 0 0]) ∧ Below w.heap.size w w' := by
  by_cases h : 0 ≤ now ∧ now ≤ 1000000
  · have HB := Lib.hid (Below.refl w.heap.size w)
    have HA := Lib.hid (allIn_one_yes h.1 h.2)
    have HR : Hid (nwC now = 0 ∧ nwN now = now) := Lib.hid ⟨if_pos h, if_pos h⟩
    clear h
    go_enter Try.func53, Try.ntmps53
    go_wp2_with fail
    refine Calls.name ?_
    intro U1 hU1
    have hb : Below w.heap.size w U1 := by rw [hU1]; exact ((Below.refl _ _).alloc (Nat.le_refl _) _)
    have zz : Hid (w.heap.size + 1 = U1.heap.size) := Lib.hid (by rw [hU1]; simp)
    have HX1 : Kept w.heap.size (w.heap.size + 1) (BoxK w.heap.size 85 #[.int .i64 0, .int .i64 0, .slice none 0 0, .bool false, .slice none 0 0]) U1 := by rw [hU1]; exact Kept.box (Box.made_at _ _ _ rfl)
    replace HB := Lib.hid (below_step HB.out hb)
    clear hb
    have Z1 := zz; clear zz
    clear hU1
    refine (l4Time_any _ _).mono ?_
    rw [HA.out]
    rintro e w2 ⟨rfl, rfl⟩
    have c2_0 := HX1.look 0
    have c2_1 := HX1.look 1
    have c2_2 := HX1.look 2
    have c2_3 := HX1.look 3
    have c2_4 := HX1.look 4
    have f2_0 := HX1.free 0
    have f2_1 := HX1.free 1
    have f2_2 := HX1.free 2
    have f2_3 := HX1.free 3
    have f2_4 := HX1.free 4
    have l2_0 := HX1.bx.lt
    go_wp2
    clear c2_0 c2_1 c2_2 c2_3 c2_4 f2_0 f2_1 f2_2 f2_3 f2_4 l2_0
    obtain ⟨U3, hU3⟩ : ∃ W : World, W = (((((w2.setCell ⟨w.heap.size, 0, none⟩ (.int .i64 0)).setCell ⟨w.heap.size, 1, none⟩ (.int .i64 now)).setCell ⟨w.heap.size, 2, none⟩ (.slice none 0 0)).setCell ⟨w.heap.size, 3, none⟩ (.bool false)).setCell ⟨w.heap.size, 4, none⟩ (.slice none 0 0)) := ⟨_, rfl⟩
    have ho : Only w.heap.size (w.heap.size + 1) w2 U3 := by rw [hU3]; exact ((((((Only.refl _ _ _).set (p := ⟨w.heap.size, 0, none⟩) (Nat.le_refl _) (Nat.lt_succ_self _) _).set (p := ⟨w.heap.size, 1, none⟩) (Nat.le_refl _) (Nat.lt_succ_self _) _).set (p := ⟨w.heap.size, 2, none⟩) (Nat.le_refl _) (Nat.lt_succ_self _) _).set (p := ⟨w.heap.size, 3, none⟩) (Nat.le_refl _) (Nat.lt_succ_self _) _).set (p := ⟨w.heap.size, 4, none⟩) (Nat.le_refl _) (Nat.lt_succ_self _) _)
    replace HX1 : Kept w.heap.size (w.heap.size + 1) (BoxK w.heap.size 85 #[.int .i64 0, .int .i64 now, .slice none 0 0, .bool false, .slice none 0 0]) U3 := by rw [hU3]; exact Kept.box (((((HX1.bx.puts 0 (.int .i64 0) (cs' := #[.int .i64 0, .int .i64 0, .slice none 0 0, .bool false, .slice none 0 0]) rfl).puts 1 (.int .i64 now) (cs' := #[.int .i64 0, .int .i64 now, .slice none 0 0, .bool false, .slice none 0 0]) rfl).puts 2 (.slice none 0 0) (cs' := #[.int .i64 0, .int .i64 now, .slice none 0 0, .bool false, .slice none 0 0]) rfl).puts 3 (.bool false) (cs' := #[.int .i64 0, .int .i64 now, .slice none 0 0, .bool false, .slice none 0 0]) rfl).puts 4 (.slice none 0 0) (cs' := #[.int .i64 0, .int .i64 now, .slice none 0 0, .bool false, .slice none 0 0]) rfl)
    replace HB := Lib.hid (Below.only HB.out ho (by have := Z1.out; omega) HB.out.size)
    have Z2 : Hid (U3.heap.size = w2.heap.size) := Lib.hid (by rw [hU3]; simp [World.setCell]); clear ho
    have q_0 := HX1.look 0
    have q_1 := HX1.look 1
    have q_2 := HX1.look 2
    have q_3 := HX1.look 3
    have q_4 := HX1.look 4
    subst hU3
    exact bodyPost_ret (v := .agg #[.int .i64 0, .int .i64 now, .slice none 0 0, .bool false, .slice none 0 0]) (by simp [results, Try.results53, go_sem, q_0, q_1, q_2, q_3, q_4]) rfl (by rw [HR.out.1, HR.out.2]; exact ⟨rfl, HB.out⟩)
  · have HB := Lib.hid (Below.refl w.heap.size w)
    have HA := Lib.hid (allIn_one_no h)
    have HR : Hid (nwC now = 3 ∧ nwN now = 0) := Lib.hid ⟨if_neg h, if_neg h⟩
    clear h
    go_enter Try.func53, Try.ntmps53
    go_wp2_with fail
    refine Calls.name ?_
    intro U1 hU1
    have hb : Below w.heap.size w U1 := by rw [hU1]; exact ((Below.refl _ _).alloc (Nat.le_refl _) _)
    have zz : Hid (w.heap.size + 1 = U1.heap.size) := Lib.hid (by rw [hU1]; simp)
    have HX1 : Kept w.heap.size (w.heap.size + 1) (BoxK w.heap.size 85 #[.int .i64 0, .int .i64 0, .slice none 0 0, .bool false, .slice none 0 0]) U1 := by rw [hU1]; exact Kept.box (Box.made_at _ _ _ rfl)
    replace HB := Lib.hid (below_step HB.out hb)
    clear hb
    have Z1 := zz; clear zz
    clear hU1
    refine (l4Time_any _ _).mono ?_
    rw [HA.out]
    rintro e w2 ⟨rfl, rfl⟩
    have c2_0 := HX1.look 0
    have c2_1 := HX1.look 1
    have c2_2 := HX1.look 2
    have c2_3 := HX1.look 3
    have c2_4 := HX1.look 4
    have f2_0 := HX1.free 0
    have f2_1 := HX1.free 1
    have f2_2 := HX1.free 2
    have f2_3 := HX1.free 3
    have f2_4 := HX1.free 4
    have l2_0 := HX1.bx.lt
    go_wp2
    clear c2_0 c2_1 c2_2 c2_3 c2_4 f2_0 f2_1 f2_2 f2_3 f2_4 l2_0
    obtain ⟨U3, hU3⟩ : ∃ W : World, W = (((((w2.setCell ⟨w.heap.size, 0, none⟩ (.int .i64 3)).setCell ⟨w.heap.size, 1, none⟩ (.int .i64 0)).setCell ⟨w.heap.size, 2, none⟩ (.slice none 0 0)).setCell ⟨w.heap.size, 3, none⟩ (.bool false)).setCell ⟨w.heap.size, 4, none⟩ (.slice none 0 0)) := ⟨_, rfl⟩
    have ho : Only w.heap.size (w.heap.size + 1) w2 U3 := by rw [hU3]; exact ((((((Only.refl _ _ _).set (p := ⟨w.heap.size, 0, none⟩) (Nat.le_refl _) (Nat.lt_succ_self _) _).set (p := ⟨w.heap.size, 1, none⟩) (Nat.le_refl _) (Nat.lt_succ_self _) _).set (p := ⟨w.heap.size, 2, none⟩) (Nat.le_refl _) (Nat.lt_succ_self _) _).set (p := ⟨w.heap.size, 3, none⟩) (Nat.le_refl _) (Nat.lt_succ_self _) _).set (p := ⟨w.heap.size, 4, none⟩) (Nat.le_refl _) (Nat.lt_succ_self _) _)
    replace HX1 : Kept w.heap.size (w.heap.size + 1) (BoxK w.heap.size 85 #[.int .i64 3, .int .i64 0, .slice none 0 0, .bool false, .slice none 0 0]) U3 := by rw [hU3]; exact Kept.box (((((HX1.bx.puts 0 (.int .i64 3) (cs' := #[.int .i64 3, .int .i64 0, .slice none 0 0, .bool false, .slice none 0 0]) rfl).puts 1 (.int .i64 0) (cs' := #[.int .i64 3, .int .i64 0, .slice none 0 0, .bool false, .slice none 0 0]) rfl).puts 2 (.slice none 0 0) (cs' := #[.int .i64 3, .int .i64 0, .slice none 0 0, .bool false, .slice none 0 0]) rfl).puts 3 (.bool false) (cs' := #[.int .i64 3, .int .i64 0, .slice none 0 0, .bool false, .slice none 0 0]) rfl).puts 4 (.slice none 0 0) (cs' := #[.int .i64 3, .int .i64 0, .slice none 0 0, .bool false, .slice none 0 0]) rfl)
    replace HB := Lib.hid (Below.only HB.out ho (by have := Z1.out; omega) HB.out.size)
    have Z2 : Hid (U3.heap.size = w2.heap.size) := Lib.hid (by rw [hU3]; simp [World.setCell]); clear ho
    have q_0 := HX1.look 0
    have q_1 := HX1.look 1
    have q_2 := HX1.look 2
    have q_3 := HX1.look 3
    have q_4 := HX1.look 4
    subst hU3
    exact bodyPost_ret (v := .agg #[.int .i64 3, .int .i64 0, .slice none 0 0, .bool false, .slice none 0 0]) (by simp [results, Try.results53, go_sem, q_0, q_1, q_2, q_3, q_4]) rfl (by rw [HR.out.1, HR.out.2]; exact ⟨rfl, HB.out⟩)

set_option maxRecDepth 100000 in
set_option maxHeartbeats 1600000 in
theorem newBase_any (now : Int) (w : World)  :
    Calls Try.prog 54 #[.int .i64 now] w fun e w' => e = .returned (.agg #[.int .i64 (nwC now), .int .i64 (nwN now), .slice none 0 0, .bool false, .slice none 0 0]) ∧ Below w.heap.size w w' := by
  by_cases h : 0 ≤ now ∧ now ≤ 1000000
  · have HB := Lib.hid (Below.refl w.heap.size w)
    have HA := Lib.hid (allIn_one_yes h.1 h.2)
    have HR : Hid (nwC now = 0 ∧ nwN now = now) := Lib.hid ⟨if_pos h, if_pos h⟩
    clear h
    go_enter Try.func54, Try.ntmps54
    go_wp2_with fail
    refine Calls.name ?_
    intro U1 hU1
    have hb : Below w.heap.size w U1 := by rw [hU1]; exact (((Below.refl _ _).alloc (Nat.le_refl _) _).alloc (by simp <;> omega) _)
    have zz : Hid (w.heap.size + 2 = U1.heap.size) := Lib.hid (by rw [hU1]; simp)
    have HX1 : Kept w.heap.size (w.heap.size + 1) (BoxK w.heap.size 85 #[.int .i64 0, .int .i64 0, .slice none 0 0, .bool false, .slice none 0 0]) U1 := by rw [hU1]; exact Kept.box ((Box.made_at _ _ _ rfl).over _)
    have HX2 : Kept (w.heap.size + 1) (w.heap.size + 1 + 1) (BoxK (w.heap.size + 1) 2 #[.int .i64 now]) U1 := by rw [hU1]; exact Kept.box (Box.made_at _ _ _ (by simp <;> omega))
    replace HB := Lib.hid (below_step HB.out hb)
    clear hb
    have Z1 := zz; clear zz
    clear hU1
    have HL := Lib.hid (HX2.look 0)
    refine (allWithin_one _ _ _ now _ HL.out).mono ?_
    rw [HA.out]
    rintro e w2 ⟨rfl, rfl⟩
    clear HL
    have c2_0 := HX1.look 0
    have c2_1 := HX1.look 1
    have c2_2 := HX1.look 2
    have c2_3 := HX1.look 3
    have c2_4 := HX1.look 4
    have f2_0 := HX1.free 0
    have f2_1 := HX1.free 1
    have f2_2 := HX1.free 2
    have f2_3 := HX1.free 3
    have f2_4 := HX1.free 4
    have l2_0 := HX1.bx.lt
    have l2_1 := HX2.bx.lt
    go_wp2
    clear c2_0 c2_1 c2_2 c2_3 c2_4 f2_0 f2_1 f2_2 f2_3 f2_4 l2_0 l2_1
    obtain ⟨U3, hU3⟩ : ∃ W : World, W = (((((w2.setCell ⟨w.heap.size, 0, none⟩ (.int .i64 0)).setCell ⟨w.heap.size, 1, none⟩ (.int .i64 now)).setCell ⟨w.heap.size, 2, none⟩ (.slice none 0 0)).setCell ⟨w.heap.size, 3, none⟩ (.bool false)).setCell ⟨w.heap.size, 4, none⟩ (.slice none 0 0)) := ⟨_, rfl⟩
    have ho : Only w.heap.size (w.heap.size + 1) w2 U3 := by rw [hU3]; exact ((((((Only.refl _ _ _).set (p := ⟨w.heap.size, 0, none⟩) (Nat.le_refl _) (Nat.lt_succ_self _) _).set (p := ⟨w.heap.size, 1, none⟩) (Nat.le_refl _) (Nat.lt_succ_self _) _).set (p := ⟨w.heap.size, 2, none⟩) (Nat.le_refl _) (Nat.lt_succ_self _) _).set (p := ⟨w.heap.size, 3, none⟩) (Nat.le_refl _) (Nat.lt_succ_self _) _).set (p := ⟨w.heap.size, 4, none⟩) (Nat.le_refl _) (Nat.lt_succ_self _) _)
    replace HX1 : Kept w.heap.size (w.heap.size + 1) (BoxK w.heap.size 85 #[.int .i64 0, .int .i64 now, .slice none 0 0, .bool false, .slice none 0 0]) U3 := by rw [hU3]; exact Kept.box (((((HX1.bx.puts 0 (.int .i64 0) (cs' := #[.int .i64 0, .int .i64 0, .slice none 0 0, .bool false, .slice none 0 0]) rfl).puts 1 (.int .i64 now) (cs' := #[.int .i64 0, .int .i64 now, .slice none 0 0, .bool false, .slice none 0 0]) rfl).puts 2 (.slice none 0 0) (cs' := #[.int .i64 0, .int .i64 now, .slice none 0 0, .bool false, .slice none 0 0]) rfl).puts 3 (.bool false) (cs' := #[.int .i64 0, .int .i64 now, .slice none 0 0, .bool false, .slice none 0 0]) rfl).puts 4 (.slice none 0 0) (cs' := #[.int .i64 0, .int .i64 now, .slice none 0 0, .bool false, .slice none 0 0]) rfl)
    replace HX2 := HX2.only ho (by have := Z1.out; omega)
    replace HB := Lib.hid (Below.only HB.out ho (by have := Z1.out; omega) HB.out.size)
    have Z2 : Hid (U3.heap.size = w2.heap.size) := Lib.hid (by rw [hU3]; simp [World.setCell]); clear ho
    have q_0 := HX1.look 0
    have q_1 := HX1.look 1
    have q_2 := HX1.look 2
    have q_3 := HX1.look 3
    have q_4 := HX1.look 4
    subst hU3
    exact bodyPost_ret (v := .agg #[.int .i64 0, .int .i64 now, .slice none 0 0, .bool false, .slice none 0 0]) (by simp [results, Try.results54, go_sem, q_0, q_1, q_2, q_3, q_4]) rfl (by rw [HR.out.1, HR.out.2]; exact ⟨rfl, HB.out⟩)
  · have HB := Lib.hid (Below.refl w.heap.size w)
    have HA := Lib.hid (allIn_one_no h)
    have HR : Hid (nwC now = 3 ∧ nwN now = 0) := Lib.hid ⟨if_neg h, if_neg h⟩
    clear h
    go_enter Try.func54, Try.ntmps54
    go_wp2_with fail
    refine Calls.name ?_
    intro U1 hU1
    have hb : Below w.heap.size w U1 := by rw [hU1]; exact (((Below.refl _ _).alloc (Nat.le_refl _) _).alloc (by simp <;> omega) _)
    have zz : Hid (w.heap.size + 2 = U1.heap.size) := Lib.hid (by rw [hU1]; simp)
    have HX1 : Kept w.heap.size (w.heap.size + 1) (BoxK w.heap.size 85 #[.int .i64 0, .int .i64 0, .slice none 0 0, .bool false, .slice none 0 0]) U1 := by rw [hU1]; exact Kept.box ((Box.made_at _ _ _ rfl).over _)
    have HX2 : Kept (w.heap.size + 1) (w.heap.size + 1 + 1) (BoxK (w.heap.size + 1) 2 #[.int .i64 now]) U1 := by rw [hU1]; exact Kept.box (Box.made_at _ _ _ (by simp <;> omega))
    replace HB := Lib.hid (below_step HB.out hb)
    clear hb
    have Z1 := zz; clear zz
    clear hU1
    have HL := Lib.hid (HX2.look 0)
    refine (allWithin_one _ _ _ now _ HL.out).mono ?_
    rw [HA.out]
    rintro e w2 ⟨rfl, rfl⟩
    clear HL
    have c2_0 := HX1.look 0
    have c2_1 := HX1.look 1
    have c2_2 := HX1.look 2
    have c2_3 := HX1.look 3
    have c2_4 := HX1.look 4
    have f2_0 := HX1.free 0
    have f2_1 := HX1.free 1
    have f2_2 := HX1.free 2
    have f2_3 := HX1.free 3
    have f2_4 := HX1.free 4
    have l2_0 := HX1.bx.lt
    have l2_1 := HX2.bx.lt
    go_wp2
    clear c2_0 c2_1 c2_2 c2_3 c2_4 f2_0 f2_1 f2_2 f2_3 f2_4 l2_0 l2_1
    obtain ⟨U3, hU3⟩ : ∃ W : World, W = (((((w2.setCell ⟨w.heap.size, 0, none⟩ (.int .i64 3)).setCell ⟨w.heap.size, 1, none⟩ (.int .i64 0)).setCell ⟨w.heap.size, 2, none⟩ (.slice none 0 0)).setCell ⟨w.heap.size, 3, none⟩ (.bool false)).setCell ⟨w.heap.size, 4, none⟩ (.slice none 0 0)) := ⟨_, rfl⟩
    have ho : Only w.heap.size (w.heap.size + 1) w2 U3 := by rw [hU3]; exact ((((((Only.refl _ _ _).set (p := ⟨w.heap.size, 0, none⟩) (Nat.le_refl _) (Nat.lt_succ_self _) _).set (p := ⟨w.heap.size, 1, none⟩) (Nat.le_refl _) (Nat.lt_succ_self _) _).set (p := ⟨w.heap.size, 2, none⟩) (Nat.le_refl _) (Nat.lt_succ_self _) _).set (p := ⟨w.heap.size, 3, none⟩) (Nat.le_refl _) (Nat.lt_succ_self _) _).set (p := ⟨w.heap.size, 4, none⟩) (Nat.le_refl _) (Nat.lt_succ_self _) _)
    replace HX1 : Kept w.heap.size (w.heap.size + 1) (BoxK w.heap.size 85 #[.int .i64 3, .int .i64 0, .slice none 0 0, .bool false, .slice none 0 0]) U3 := by rw [hU3]; exact Kept.box (((((HX1.bx.puts 0 (.int .i64 3) (cs' := #[.int .i64 3, .int .i64 0, .slice none 0 0, .bool false, .slice none 0 0]) rfl).puts 1 (.int .i64 0) (cs' := #[.int .i64 3, .int .i64 0, .slice none 0 0, .bool false, .slice none 0 0]) rfl).puts 2 (.slice none 0 0) (cs' := #[.int .i64 3, .int .i64 0, .slice none 0 0, .bool false, .slice none 0 0]) rfl).puts 3 (.bool false) (cs' := #[.int .i64 3, .int .i64 0, .slice none 0 0, .bool false, .slice none 0 0]) rfl).puts 4 (.slice none 0 0) (cs' := #[.int .i64 3, .int .i64 0, .slice none 0 0, .bool false, .slice none 0 0]) rfl)
    replace HX2 := HX2.only ho (by have := Z1.out; omega)
    replace HB := Lib.hid (Below.only HB.out ho (by have := Z1.out; omega) HB.out.size)
    have Z2 : Hid (U3.heap.size = w2.heap.size) := Lib.hid (by rw [hU3]; simp [World.setCell]); clear ho
    have q_0 := HX1.look 0
    have q_1 := HX1.look 1
    have q_2 := HX1.look 2
    have q_3 := HX1.look 3
    have q_4 := HX1.look 4
    subst hU3
    exact bodyPost_ret (v := .agg #[.int .i64 3, .int .i64 0, .slice none 0 0, .bool false, .slice none 0 0]) (by simp [results, Try.results54, go_sem, q_0, q_1, q_2, q_3, q_4]) rfl (by rw [HR.out.1, HR.out.2]; exact ⟨rfl, HB.out⟩)

set_option maxRecDepth 100000 in
set_option maxHeartbeats 3200000 in
theorem law_NewBase (a0 : Int) (w : World)  :
    Calls Try.prog 9 #[.int .i64 a0] w fun e w' => e = .returned (.bool true) ∧ Below w.heap.size w w' := by
  have HB := Lib.hid (Below.refl w.heap.size w)
  obtain ⟨r, hr⟩ : ∃ z, nwC a0 = z := ⟨_, rfl⟩
  have HRr := Lib.hid hr
  clear hr
  obtain ⟨x, hr⟩ : ∃ z, nwN a0 = z := ⟨_, rfl⟩
  have HRx := Lib.hid hr
  clear hr
  go_enter Try.func9, Try.ntmps9
  go_wp2_with fail
  refine (specNewBase_any a0 _).mono ?_
  rw [HRr.out, HRx.out]
  rintro e w1 ⟨rfl, hb⟩
  have Z1 := Lib.hid hb.size
  replace HB := Lib.hid (below_step HB.out hb)
  clear hb
  go_wp2_with fail
  refine Calls.name ?_
  intro U2 hU2
  have hb : Below w1.heap.size w1 U2 := by rw [hU2]; exact ((Below.refl _ _).alloc (Nat.le_refl _) _)
  have zz : Hid (w1.heap.size + 1 = U2.heap.size) := Lib.hid (by rw [hU2]; simp)
  have HX1 : Kept w1.heap.size (w1.heap.size + 1) (BoxK w1.heap.size 85 #[.int .i64 r, .int .i64 x, .slice none 0 0, .bool false, .slice none 0 0]) U2 := by rw [hU2]; exact Kept.box (Box.made_at _ _ _ rfl)
  replace HB := Lib.hid (below_step HB.out hb)
  clear hb
  have Z2 := zz; clear zz
  clear hU2
  refine (newBase_any a0 _).mono ?_
  rw [HRr.out, HRx.out]
  rintro e w3 ⟨rfl, hb⟩
  have Z3 := Lib.hid hb.size
  replace HX1 := HX1.below hb
  replace HB := Lib.hid (below_step HB.out hb)
  clear hb
  have c3_0 := HX1.look 0
  have c3_1 := HX1.look 1
  have c3_2 := HX1.look 2
  have c3_3 := HX1.look 3
  have c3_4 := HX1.look 4
  have l3_0 := HX1.bx.lt
  go_wp2_with fail
  clear c3_0 c3_1 c3_2 c3_3 c3_4 l3_0
  refine Calls.name ?_
  intro U4 hU4
  have hb : Below w3.heap.size w3 U4 := by rw [hU4]; exact ((Below.refl _ _).alloc (Nat.le_refl _) _)
  have zz : Hid (w3.heap.size + 1 = U4.heap.size) := Lib.hid (by rw [hU4]; simp)
  have HX2 : Kept w3.heap.size (w3.heap.size + 1) (BoxK w3.heap.size 85 #[.int .i64 r, .int .i64 x, .slice none 0 0, .bool false, .slice none 0 0]) U4 := by rw [hU4]; exact Kept.box (Box.made_at _ _ _ rfl)
  replace HX1 := HX1.below hb
  replace HB := Lib.hid (below_step HB.out hb)
  clear hb
  have Z4 := zz; clear zz
  clear hU4
  refine (eqBaseResult_nil r x _).mono ?_
  rintro e w5 ⟨rfl, hb⟩
  have Z5 := Lib.hid hb.size
  replace HX1 := HX1.below hb
  replace HX2 := HX2.below hb
  replace HB := Lib.hid (below_step HB.out hb)
  clear hb
  have c4_0 := HX2.look 0
  have c4_1 := HX2.look 1
  have c4_2 := HX2.look 2
  have c4_3 := HX2.look 3
  have c4_4 := HX2.look 4
  have l4_0 := HX1.bx.lt
  have l4_1 := HX2.bx.lt
  go_wp2_with fail
  clear c4_0 c4_1 c4_2 c4_3 c4_4 l4_0 l4_1
  refine (markBaseResult_nil r x _).mono ?_
  rintro e w6 ⟨rfl, hb⟩
  have Z6 := Lib.hid hb.size
  replace HX1 := HX1.below hb
  replace HX2 := HX2.below hb
  replace HB := Lib.hid (below_step HB.out hb)
  clear hb
  have c5_0 := HX2.look 0
  have c5_1 := HX2.look 1
  have c5_2 := HX2.look 2
  have c5_3 := HX2.look 3
  have c5_4 := HX2.look 4
  have l5_0 := HX1.bx.lt
  have l5_1 := HX2.bx.lt
  go_wp2_with fail
  clear c5_0 c5_1 c5_2 c5_3 c5_4 l5_0 l5_1
  refine (heldBaseResult_nil r x _).mono ?_
  rintro e w7 ⟨rfl, hb⟩
  have Z7 := Lib.hid hb.size
  replace HX1 := HX1.below hb
  replace HX2 := HX2.below hb
  replace HB := Lib.hid (below_step HB.out hb)
  clear hb
  have l6_0 := HX1.bx.lt
  have l6_1 := HX2.bx.lt
  go_wp2_with fail
  clear l6_0 l6_1
  refine (newBase_any a0 _).mono ?_
  rw [HRr.out, HRx.out]
  rintro e w8 ⟨rfl, hb⟩
  have Z8 := Lib.hid hb.size
  replace HX1 := HX1.below hb
  replace HX2 := HX2.below hb
  replace HB := Lib.hid (below_step HB.out hb)
  clear hb
  have c7_0 := HX1.look 0
  have c7_1 := HX1.look 1
  have c7_2 := HX1.look 2
  have c7_3 := HX1.look 3
  have c7_4 := HX1.look 4
  have l7_0 := HX1.bx.lt
  have l7_1 := HX2.bx.lt
  go_wp2_with fail
  clear c7_0 c7_1 c7_2 c7_3 c7_4 l7_0 l7_1
  refine Calls.name ?_
  intro U9 hU9
  have hb : Below w8.heap.size w8 U9 := by rw [hU9]; exact ((Below.refl _ _).alloc (Nat.le_refl _) _)
  have zz : Hid (w8.heap.size + 1 = U9.heap.size) := Lib.hid (by rw [hU9]; simp)
  have HX3 : Kept w8.heap.size (w8.heap.size + 1) (BoxK w8.heap.size 85 #[.int .i64 r, .int .i64 x, .slice none 0 0, .bool false, .slice none 0 0]) U9 := by rw [hU9]; exact Kept.box (Box.made_at _ _ _ rfl)
  replace HX1 := HX1.below hb
  replace HX2 := HX2.below hb
  replace HB := Lib.hid (below_step HB.out hb)
  clear hb
  have Z9 := zz; clear zz
  clear hU9
  refine (eqBaseResult_nil r x _).mono ?_
  rintro e w10 ⟨rfl, hb⟩
  have Z10 := Lib.hid hb.size
  replace HX1 := HX1.below hb
  replace HX2 := HX2.below hb
  replace HX3 := HX3.below hb
  replace HB := Lib.hid (below_step HB.out hb)
  clear hb
  have c8_0 := HX2.look 0
  have c8_1 := HX2.look 1
  have c8_2 := HX2.look 2
  have c8_3 := HX2.look 3
  have c8_4 := HX2.look 4
  have l8_0 := HX1.bx.lt
  have l8_1 := HX2.bx.lt
  have l8_2 := HX3.bx.lt
  go_wp2_with fail
  clear c8_0 c8_1 c8_2 c8_3 c8_4 l8_0 l8_1 l8_2
  refine (heldBaseResult_nil r x _).mono ?_
  rintro e w11 ⟨rfl, hb⟩
  have Z11 := Lib.hid hb.size
  replace HX1 := HX1.below hb
  replace HX2 := HX2.below hb
  replace HX3 := HX3.below hb
  replace HB := Lib.hid (below_step HB.out hb)
  clear hb
  have l9_0 := HX1.bx.lt
  have l9_1 := HX2.bx.lt
  have l9_2 := HX3.bx.lt
  go_wp2
  clear l9_0 l9_1 l9_2
  go_ret
  exact ⟨rfl, HB.out⟩

end Go.Proofs.Ytakplomopbnekaa
