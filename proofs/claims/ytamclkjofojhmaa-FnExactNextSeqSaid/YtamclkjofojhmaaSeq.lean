/-
  What NextSeq answers. No statement is proved here.
-/
import Derived.Test.YtamclkjofojhmaaWalk
import Derived.Test.YtamclkjofojhmaaEncBoth
namespace Go.Proofs.Ytamclkjofojhmaa
open Go.RowKit
set_option linter.unusedVariables false

/-- What NextSeq tells. -/
def seqC (a : Int) : Int := if allIn (-2147483647) 2147483647 [a] = false then 3 else if a = 2147483647 then 9 else 0
def seqV (a : Int) : Int := if allIn (-2147483647) 2147483647 [a] = false then 0 else if a = 2147483647 then 0 else a + 1

set_option maxRecDepth 100000 in
set_option maxHeartbeats 1600000 in
theorem specNextSeq_any (a : Int) (w : World) :
    Calls Try.prog 33 #[.int .i64 a] w fun e w' => e = .returned (.agg #[.int .i64 (seqC a), .int .i64 (seqV a)]) ∧ Below w.heap.size w w' := by
  by_cases h0 : allIn (-2147483647) 2147483647 [a] = false
  · have HB := Lib.hid (Below.refl w.heap.size w)
    have HA := Lib.hid h0
    have HC : Hid (seqC a = 3) := Lib.hid (by unfold seqC; rw [if_pos h0])
    have HV : Hid (seqV a = 0) := Lib.hid (by unfold seqV; rw [if_pos h0])
    clear h0
    go_enter Try.func33, Try.ntmps33
    go_wp2_with fail
    refine Calls.name ?_
    intro U1 hU1
    have hb : Below w.heap.size w U1 := by rw [hU1]; exact ((Below.refl _ _).alloc (Nat.le_refl _) _)
    have zz : Hid (w.heap.size + 1 = U1.heap.size) := Lib.hid (by rw [hU1]; simp)
    have HX1 : Kept w.heap.size (w.heap.size + 1) (BoxK w.heap.size 42 #[.int .i64 0, .int .i64 0]) U1 := by rw [hU1]; exact Kept.box (Box.made_at _ _ _ rfl)
    replace HB := Lib.hid (below_step HB.out hb)
    clear hb
    have Z1 := zz; clear zz
    clear hU1
    refine (l1In_any a _ _ _).mono ?_
    rw [HA.out]
    rintro e w2 ⟨rfl, rfl⟩
    have c_0 := HX1.look 0
    have c_1 := HX1.look 1
    have f_0 := HX1.free 0
    have f_1 := HX1.free 1
    have l_0 := HX1.le
    go_wp2
    clear c_0 c_1 f_0 f_1 l_0
    obtain ⟨U3, hU3⟩ : ∃ W : World, W = ((w2.setCell ⟨w.heap.size, 0, none⟩ (.int .i64 3)).setCell ⟨w.heap.size, 1, none⟩ (.int .i64 0)) := ⟨_, rfl⟩
    have ho : Only w.heap.size (w.heap.size + 1) w2 U3 := by rw [hU3]; exact (((Only.refl _ _ _).set (p := ⟨w.heap.size, 0, none⟩) (Nat.le_refl _) (Nat.lt_succ_self _) _).set (p := ⟨w.heap.size, 1, none⟩) (Nat.le_refl _) (Nat.lt_succ_self _) _)
    replace HX1 : Kept w.heap.size (w.heap.size + 1) (BoxK w.heap.size 42 #[.int .i64 3, .int .i64 0]) U3 := by rw [hU3]; exact Kept.box ((HX1.bx.put 0 (.int .i64 3)).put 1 (.int .i64 0))
    replace HB := Lib.hid (Below.only HB.out ho (by have := Z1.out; omega) HB.out.size)
    have Z2 := Lib.hid ho.size; clear ho
    have q_0 := HX1.look 0
    have q_1 := HX1.look 1
    subst hU3
    exact bodyPost_ret (v := .agg #[.int .i64 3, .int .i64 0]) (by simp [results, Try.results33, go_sem, q_0, q_1]) rfl ⟨by rw [HC.out, HV.out], HB.out⟩
  by_cases h1 : a = 2147483647
  · have HB := Lib.hid (Below.refl w.heap.size w)
    have HA := Lib.hid (eq_true_of_ne_false h0)
    have HC : Hid (seqC a = 9) := Lib.hid (by unfold seqC; rw [if_neg h0, if_pos h1])
    have HV : Hid (seqV a = 0) := Lib.hid (by unfold seqV; rw [if_neg h0, if_pos h1])
    have hq : (a == 2147483647) = true := by simpa using h1
    clear h0 h1
    go_enter Try.func33, Try.ntmps33
    go_wp2_with fail
    refine Calls.name ?_
    intro U1 hU1
    have hb : Below w.heap.size w U1 := by rw [hU1]; exact ((Below.refl _ _).alloc (Nat.le_refl _) _)
    have zz : Hid (w.heap.size + 1 = U1.heap.size) := Lib.hid (by rw [hU1]; simp)
    have HX1 : Kept w.heap.size (w.heap.size + 1) (BoxK w.heap.size 42 #[.int .i64 0, .int .i64 0]) U1 := by rw [hU1]; exact Kept.box (Box.made_at _ _ _ rfl)
    replace HB := Lib.hid (below_step HB.out hb)
    clear hb
    have Z1 := zz; clear zz
    clear hU1
    refine (l1In_any a _ _ _).mono ?_
    rw [HA.out]
    rintro e w2 ⟨rfl, rfl⟩
    have c_0 := HX1.look 0
    have c_1 := HX1.look 1
    have f_0 := HX1.free 0
    have f_1 := HX1.free 1
    have l_0 := HX1.le
    go_wp2
    clear c_0 c_1 f_0 f_1 l_0
    obtain ⟨U3, hU3⟩ : ∃ W : World, W = ((w2.setCell ⟨w.heap.size, 0, none⟩ (.int .i64 9)).setCell ⟨w.heap.size, 1, none⟩ (.int .i64 0)) := ⟨_, rfl⟩
    have ho : Only w.heap.size (w.heap.size + 1) w2 U3 := by rw [hU3]; exact (((Only.refl _ _ _).set (p := ⟨w.heap.size, 0, none⟩) (Nat.le_refl _) (Nat.lt_succ_self _) _).set (p := ⟨w.heap.size, 1, none⟩) (Nat.le_refl _) (Nat.lt_succ_self _) _)
    replace HX1 : Kept w.heap.size (w.heap.size + 1) (BoxK w.heap.size 42 #[.int .i64 9, .int .i64 0]) U3 := by rw [hU3]; exact Kept.box ((HX1.bx.put 0 (.int .i64 9)).put 1 (.int .i64 0))
    replace HB := Lib.hid (Below.only HB.out ho (by have := Z1.out; omega) HB.out.size)
    have Z2 := Lib.hid ho.size; clear ho
    have q_0 := HX1.look 0
    have q_1 := HX1.look 1
    subst hU3
    exact bodyPost_ret (v := .agg #[.int .i64 9, .int .i64 0]) (by simp [results, Try.results33, go_sem, q_0, q_1]) rfl ⟨by rw [HC.out, HV.out], HB.out⟩
  · have HB := Lib.hid (Below.refl w.heap.size w)
    have HA := Lib.hid (eq_true_of_ne_false h0)
    have HC : Hid (seqC a = 0) := Lib.hid (by unfold seqC; rw [if_neg h0, if_neg h1])
    have HV : Hid (seqV a = a + 1) := Lib.hid (by unfold seqV; rw [if_neg h0, if_neg h1])
    have hq : (a == 2147483647) = false := by simpa using h1
    obtain ⟨g1, g2⟩ := allIn_one HA.out
    clear h0 h1
    go_enter Try.func33, Try.ntmps33
    go_wp2_with fail
    refine Calls.name ?_
    intro U1 hU1
    have hb : Below w.heap.size w U1 := by rw [hU1]; exact ((Below.refl _ _).alloc (Nat.le_refl _) _)
    have zz : Hid (w.heap.size + 1 = U1.heap.size) := Lib.hid (by rw [hU1]; simp)
    have HX1 : Kept w.heap.size (w.heap.size + 1) (BoxK w.heap.size 42 #[.int .i64 0, .int .i64 0]) U1 := by rw [hU1]; exact Kept.box (Box.made_at _ _ _ rfl)
    replace HB := Lib.hid (below_step HB.out hb)
    clear hb
    have Z1 := zz; clear zz
    clear hU1
    refine (l1In_any a _ _ _).mono ?_
    rw [HA.out]
    rintro e w2 ⟨rfl, rfl⟩
    have c_0 := HX1.look 0
    have c_1 := HX1.look 1
    have f_0 := HX1.free 0
    have f_1 := HX1.free 1
    have l_0 := HX1.le
    go_wp2
    clear c_0 c_1 f_0 f_1 l_0
    obtain ⟨U3, hU3⟩ : ∃ W : World, W = ((w2.setCell ⟨w.heap.size, 0, none⟩ (.int .i64 0)).setCell ⟨w.heap.size, 1, none⟩ (.int .i64 (a + 1))) := ⟨_, rfl⟩
    have ho : Only w.heap.size (w.heap.size + 1) w2 U3 := by rw [hU3]; exact (((Only.refl _ _ _).set (p := ⟨w.heap.size, 0, none⟩) (Nat.le_refl _) (Nat.lt_succ_self _) _).set (p := ⟨w.heap.size, 1, none⟩) (Nat.le_refl _) (Nat.lt_succ_self _) _)
    replace HX1 : Kept w.heap.size (w.heap.size + 1) (BoxK w.heap.size 42 #[.int .i64 0, .int .i64 (a + 1)]) U3 := by rw [hU3]; exact Kept.box ((HX1.bx.put 0 (.int .i64 0)).put 1 (.int .i64 (a + 1)))
    replace HB := Lib.hid (Below.only HB.out ho (by have := Z1.out; omega) HB.out.size)
    have Z2 := Lib.hid ho.size; clear ho
    have q_0 := HX1.look 0
    have q_1 := HX1.look 1
    subst hU3
    exact bodyPost_ret (v := .agg #[.int .i64 0, .int .i64 (a + 1)]) (by simp [results, Try.results33, go_sem, q_0, q_1]) rfl ⟨by rw [HC.out, HV.out], HB.out⟩

set_option maxRecDepth 100000 in
set_option maxHeartbeats 1600000 in
theorem nextSeq_any (a : Int) (w : World) :
    Calls Try.prog 30 #[.int .i64 a] w fun e w' => e = .returned (.agg #[.int .i64 (seqC a), .int .i64 (seqV a)]) ∧ Below w.heap.size w w' := by
  by_cases h0 : allIn (-2147483647) 2147483647 [a] = false
  · have HB := Lib.hid (Below.refl w.heap.size w)
    have HA := Lib.hid h0
    have HC : Hid (seqC a = 3) := Lib.hid (by unfold seqC; rw [if_pos h0])
    have HV : Hid (seqV a = 0) := Lib.hid (by unfold seqV; rw [if_pos h0])
    clear h0
    go_enter Try.func30, Try.ntmps30
    go_wp2_with fail
    refine Calls.name ?_
    intro U1 hU1
    have hb : Below w.heap.size w U1 := by rw [hU1]; exact (((Below.refl _ _).alloc (Nat.le_refl _) _).alloc (by simp) _)
    have zz : Hid (w.heap.size + 2 = U1.heap.size) := Lib.hid (by rw [hU1]; simp)
    have HX1 : Kept w.heap.size (w.heap.size + 1) (BoxK w.heap.size 42 #[.int .i64 0, .int .i64 0]) U1 := by rw [hU1]; exact Kept.box ((Box.made_at _ _ _ rfl).over _)
    have HX2 : Kept (w.heap.size + 1) (w.heap.size + 1 + 1) (BoxK (w.heap.size + 1) 2 #[.int .i64 a]) U1 := by rw [hU1]; exact Kept.box (Box.made_at _ _ _ (by simp))
    replace HB := Lib.hid (below_step HB.out hb)
    clear hb
    have Z1 := zz; clear zz
    clear hU1
    have HL := Lib.hid (HX2.look 0)
    refine (allWithin_one _ _ _ a _ HL.out).mono ?_
    rw [HA.out]
    rintro e w2 ⟨rfl, rfl⟩
    have c_0 := HX1.look 0
    have c_1 := HX1.look 1
    have f_0 := HX1.free 0
    have f_1 := HX1.free 1
    have l_0 := HX1.le
    have l_1 := HX2.le
    go_wp2
    clear c_0 c_1 f_0 f_1 l_0 l_1
    obtain ⟨U3, hU3⟩ : ∃ W : World, W = ((w2.setCell ⟨w.heap.size, 0, none⟩ (.int .i64 3)).setCell ⟨w.heap.size, 1, none⟩ (.int .i64 0)) := ⟨_, rfl⟩
    have ho : Only w.heap.size (w.heap.size + 1) w2 U3 := by rw [hU3]; exact (((Only.refl _ _ _).set (p := ⟨w.heap.size, 0, none⟩) (Nat.le_refl _) (Nat.lt_succ_self _) _).set (p := ⟨w.heap.size, 1, none⟩) (Nat.le_refl _) (Nat.lt_succ_self _) _)
    replace HX1 : Kept w.heap.size (w.heap.size + 1) (BoxK w.heap.size 42 #[.int .i64 3, .int .i64 0]) U3 := by rw [hU3]; exact Kept.box ((HX1.bx.put 0 (.int .i64 3)).put 1 (.int .i64 0))
    replace HX2 := HX2.only ho (by have := Z1.out; omega)
    replace HB := Lib.hid (Below.only HB.out ho (by have := Z1.out; omega) HB.out.size)
    have Z2 := Lib.hid ho.size; clear ho
    have q_0 := HX1.look 0
    have q_1 := HX1.look 1
    subst hU3
    exact bodyPost_ret (v := .agg #[.int .i64 3, .int .i64 0]) (by simp [results, Try.results30, go_sem, q_0, q_1]) rfl ⟨by rw [HC.out, HV.out], HB.out⟩
  by_cases h1 : a = 2147483647
  · have HB := Lib.hid (Below.refl w.heap.size w)
    have HA := Lib.hid (eq_true_of_ne_false h0)
    have HC : Hid (seqC a = 9) := Lib.hid (by unfold seqC; rw [if_neg h0, if_pos h1])
    have HV : Hid (seqV a = 0) := Lib.hid (by unfold seqV; rw [if_neg h0, if_pos h1])
    have hq : (a == 2147483647) = true := by simpa using h1
    clear h0 h1
    go_enter Try.func30, Try.ntmps30
    go_wp2_with fail
    refine Calls.name ?_
    intro U1 hU1
    have hb : Below w.heap.size w U1 := by rw [hU1]; exact (((Below.refl _ _).alloc (Nat.le_refl _) _).alloc (by simp) _)
    have zz : Hid (w.heap.size + 2 = U1.heap.size) := Lib.hid (by rw [hU1]; simp)
    have HX1 : Kept w.heap.size (w.heap.size + 1) (BoxK w.heap.size 42 #[.int .i64 0, .int .i64 0]) U1 := by rw [hU1]; exact Kept.box ((Box.made_at _ _ _ rfl).over _)
    have HX2 : Kept (w.heap.size + 1) (w.heap.size + 1 + 1) (BoxK (w.heap.size + 1) 2 #[.int .i64 a]) U1 := by rw [hU1]; exact Kept.box (Box.made_at _ _ _ (by simp))
    replace HB := Lib.hid (below_step HB.out hb)
    clear hb
    have Z1 := zz; clear zz
    clear hU1
    have HL := Lib.hid (HX2.look 0)
    refine (allWithin_one _ _ _ a _ HL.out).mono ?_
    rw [HA.out]
    rintro e w2 ⟨rfl, rfl⟩
    have c_0 := HX1.look 0
    have c_1 := HX1.look 1
    have f_0 := HX1.free 0
    have f_1 := HX1.free 1
    have l_0 := HX1.le
    have l_1 := HX2.le
    go_wp2
    clear c_0 c_1 f_0 f_1 l_0 l_1
    obtain ⟨U3, hU3⟩ : ∃ W : World, W = ((w2.setCell ⟨w.heap.size, 0, none⟩ (.int .i64 9)).setCell ⟨w.heap.size, 1, none⟩ (.int .i64 0)) := ⟨_, rfl⟩
    have ho : Only w.heap.size (w.heap.size + 1) w2 U3 := by rw [hU3]; exact (((Only.refl _ _ _).set (p := ⟨w.heap.size, 0, none⟩) (Nat.le_refl _) (Nat.lt_succ_self _) _).set (p := ⟨w.heap.size, 1, none⟩) (Nat.le_refl _) (Nat.lt_succ_self _) _)
    replace HX1 : Kept w.heap.size (w.heap.size + 1) (BoxK w.heap.size 42 #[.int .i64 9, .int .i64 0]) U3 := by rw [hU3]; exact Kept.box ((HX1.bx.put 0 (.int .i64 9)).put 1 (.int .i64 0))
    replace HX2 := HX2.only ho (by have := Z1.out; omega)
    replace HB := Lib.hid (Below.only HB.out ho (by have := Z1.out; omega) HB.out.size)
    have Z2 := Lib.hid ho.size; clear ho
    have q_0 := HX1.look 0
    have q_1 := HX1.look 1
    subst hU3
    exact bodyPost_ret (v := .agg #[.int .i64 9, .int .i64 0]) (by simp [results, Try.results30, go_sem, q_0, q_1]) rfl ⟨by rw [HC.out, HV.out], HB.out⟩
  · have HB := Lib.hid (Below.refl w.heap.size w)
    have HA := Lib.hid (eq_true_of_ne_false h0)
    have HC : Hid (seqC a = 0) := Lib.hid (by unfold seqC; rw [if_neg h0, if_neg h1])
    have HV : Hid (seqV a = a + 1) := Lib.hid (by unfold seqV; rw [if_neg h0, if_neg h1])
    have hq : (a == 2147483647) = false := by simpa using h1
    obtain ⟨g1, g2⟩ := allIn_one HA.out
    clear h0 h1
    go_enter Try.func30, Try.ntmps30
    go_wp2_with fail
    refine Calls.name ?_
    intro U1 hU1
    have hb : Below w.heap.size w U1 := by rw [hU1]; exact (((Below.refl _ _).alloc (Nat.le_refl _) _).alloc (by simp) _)
    have zz : Hid (w.heap.size + 2 = U1.heap.size) := Lib.hid (by rw [hU1]; simp)
    have HX1 : Kept w.heap.size (w.heap.size + 1) (BoxK w.heap.size 42 #[.int .i64 0, .int .i64 0]) U1 := by rw [hU1]; exact Kept.box ((Box.made_at _ _ _ rfl).over _)
    have HX2 : Kept (w.heap.size + 1) (w.heap.size + 1 + 1) (BoxK (w.heap.size + 1) 2 #[.int .i64 a]) U1 := by rw [hU1]; exact Kept.box (Box.made_at _ _ _ (by simp))
    replace HB := Lib.hid (below_step HB.out hb)
    clear hb
    have Z1 := zz; clear zz
    clear hU1
    have HL := Lib.hid (HX2.look 0)
    refine (allWithin_one _ _ _ a _ HL.out).mono ?_
    rw [HA.out]
    rintro e w2 ⟨rfl, rfl⟩
    have c_0 := HX1.look 0
    have c_1 := HX1.look 1
    have f_0 := HX1.free 0
    have f_1 := HX1.free 1
    have l_0 := HX1.le
    have l_1 := HX2.le
    go_wp2
    clear c_0 c_1 f_0 f_1 l_0 l_1
    obtain ⟨U3, hU3⟩ : ∃ W : World, W = ((w2.setCell ⟨w.heap.size, 0, none⟩ (.int .i64 0)).setCell ⟨w.heap.size, 1, none⟩ (.int .i64 (a + 1))) := ⟨_, rfl⟩
    have ho : Only w.heap.size (w.heap.size + 1) w2 U3 := by rw [hU3]; exact (((Only.refl _ _ _).set (p := ⟨w.heap.size, 0, none⟩) (Nat.le_refl _) (Nat.lt_succ_self _) _).set (p := ⟨w.heap.size, 1, none⟩) (Nat.le_refl _) (Nat.lt_succ_self _) _)
    replace HX1 : Kept w.heap.size (w.heap.size + 1) (BoxK w.heap.size 42 #[.int .i64 0, .int .i64 (a + 1)]) U3 := by rw [hU3]; exact Kept.box ((HX1.bx.put 0 (.int .i64 0)).put 1 (.int .i64 (a + 1)))
    replace HX2 := HX2.only ho (by have := Z1.out; omega)
    replace HB := Lib.hid (Below.only HB.out ho (by have := Z1.out; omega) HB.out.size)
    have Z2 := Lib.hid ho.size; clear ho
    have q_0 := HX1.look 0
    have q_1 := HX1.look 1
    subst hU3
    exact bodyPost_ret (v := .agg #[.int .i64 0, .int .i64 (a + 1)]) (by simp [results, Try.results30, go_sem, q_0, q_1]) rfl ⟨by rw [HC.out, HV.out], HB.out⟩


end Go.Proofs.Ytamclkjofojhmaa
