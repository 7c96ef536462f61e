/-
  Whatever bytes the law is given: of two advertisements at most one is newer, a higher number is, and one as old as can be is newer than one that is not. No condition.
-/
import Derived.Test.YtamclkjofojhmaaWalk
import Derived.Test.YtamclkjofojhmaaEncBoth
import Derived.Test.YtamclkjofojhmaaCompare
import Derived.Test.YtamclkjofojhmaaSpecCmp
import Derived.Test.YtamclkjofojhmaaAgeLsa
import Derived.Test.YtamclkjofojhmaaSame
import Derived.Test.YtamclkjofojhmaaDraw
import Derived.Test.YtamclkjofojhmaaL3Pair
import Derived.Test.YtamclkjofojhmaaDrawsAge
import Derived.Test.YtamclkjofojhmaaRows
import Derived.WalkKit
import Derived.ProofKit
import Derived.OpenShut
import Derived.ShutString
import Derived.ChangeOld
import Derived.Below
namespace Go.Proofs.Ytamclkjofojhmaa
open Go.RowKit
set_option linter.unusedVariables false

/-- What NextSeq tells. -/
def seqC (a : Int) : Int := if allIn (-2147483647) 2147483647 [a] = false then 3 else if a = 2147483647 then 9 else 0
def seqV (a : Int) : Int := if allIn (-2147483647) 2147483647 [a] = false then 0 else if a = 2147483647 then 0 else a + 1

set_option maxRecDepth 100000 in
set_option maxHeartbeats 1600000 in
theorem specNextSeq_any (a : Int) (w : World) :
    Calls Try.prog 33 #[.int .i64 a] w fun e w' => e = .returned (.agg #[.int .i64 (seqC a), .int .i64 (seqV a)]) ∧ Below w.heap.size w w' := by
  by_cases h0 : allIn (-2147483647) 2147483647 [a] = false
  · have HB := Lib.hid (Below.refl w.heap.size w)
    have HA := Lib.hid h0
    have HC : Hid (seqC a = 3) := Lib.hid (by unfold seqC; rw [if_pos h0])
    have HV : Hid (seqV a = 0) := Lib.hid (by unfold seqV; rw [if_pos h0])
    clear h0
    go_enter Try.func33, Try.ntmps33
    go_wp2_with fail
    refine Calls.name ?_
    intro U1 hU1
    have hb : Below w.heap.size w U1 := by rw [hU1]; exact ((Below.refl _ _).alloc (Nat.le_refl _) _)
    have zz : Hid (w.heap.size + 1 = U1.heap.size) := Lib.hid (by rw [hU1]; simp)
    have HX1 : Kept w.heap.size (w.heap.size + 1) (BoxK w.heap.size 42 #[.int .i64 0, .int .i64 0]) U1 := by rw [hU1]; exact Kept.box (Box.made_at _ _ _ rfl)
    replace HB := Lib.hid (below_step HB.out hb)
    clear hb
    have Z1 := zz; clear zz
    clear hU1
    refine (l1In_any a _ _ _).mono ?_
    rw [HA.out]
    rintro e w2 ⟨rfl, rfl⟩
    have c_0 := HX1.look 0
    have c_1 := HX1.look 1
    have f_0 := HX1.free 0
    have f_1 := HX1.free 1
    have l_0 := HX1.le
    go_wp2
    clear c_0 c_1 f_0 f_1 l_0
    obtain ⟨U3, hU3⟩ : ∃ W : World, W = ((w2.setCell ⟨w.heap.size, 0, none⟩ (.int .i64 3)).setCell ⟨w.heap.size, 1, none⟩ (.int .i64 0)) := ⟨_, rfl⟩
    have ho : Only w.heap.size (w.heap.size + 1) w2 U3 := by rw [hU3]; exact (((Only.refl _ _ _).set (p := ⟨w.heap.size, 0, none⟩) (Nat.le_refl _) (Nat.lt_succ_self _) _).set (p := ⟨w.heap.size, 1, none⟩) (Nat.le_refl _) (Nat.lt_succ_self _) _)
    replace HX1 : Kept w.heap.size (w.heap.size + 1) (BoxK w.heap.size 42 #[.int .i64 3, .int .i64 0]) U3 := by rw [hU3]; exact Kept.box ((HX1.bx.put 0 (.int .i64 3)).put 1 (.int .i64 0))
    replace HB := Lib.hid (Below.only HB.out ho (by have := Z1.out; omega) HB.out.size)
    have Z2 := Lib.hid ho.size; clear ho
    have q_0 := HX1.look 0
    have q_1 := HX1.look 1
    subst hU3
    exact bodyPost_ret (v := .agg #[.int .i64 3, .int .i64 0]) (by simp [results, Try.results33, go_sem, q_0, q_1]) rfl ⟨by rw [HC.out, HV.out], HB.out⟩
  by_cases h1 : a = 2147483647
  · have HB := Lib.hid (Below.refl w.heap.size w)
    have HA := Lib.hid (eq_true_of_ne_false h0)
    have HC : Hid (seqC a = 9) := Lib.hid (by unfold seqC; rw [if_neg h0, if_pos h1])
    have HV : Hid (seqV a = 0) := Lib.hid (by unfold seqV; rw [if_neg h0, if_pos h1])
    have hq : (a == 2147483647) = true := by simpa using h1
    clear h0 h1
    go_enter Try.func33, Try.ntmps33
    go_wp2_with fail
    refine Calls.name ?_
    intro U1 hU1
    have hb : Below w.heap.size w U1 := by rw [hU1]; exact ((Below.refl _ _).alloc (Nat.le_refl _) _)
    have zz : Hid (w.heap.size + 1 = U1.heap.size) := Lib.hid (by rw [hU1]; simp)
    have HX1 : Kept w.heap.size (w.heap.size + 1) (BoxK w.heap.size 42 #[.int .i64 0, .int .i64 0]) U1 := by rw [hU1]; exact Kept.box (Box.made_at _ _ _ rfl)
    replace HB := Lib.hid (below_step HB.out hb)
    clear hb
    have Z1 := zz; clear zz
    clear hU1
    refine (l1In_any a _ _ _).mono ?_
    rw [HA.out]
    rintro e w2 ⟨rfl, rfl⟩
    have c_0 := HX1.look 0
    have c_1 := HX1.look 1
    have f_0 := HX1.free 0
    have f_1 := HX1.free 1
    have l_0 := HX1.le
    go_wp2
    clear c_0 c_1 f_0 f_1 l_0
    obtain ⟨U3, hU3⟩ : ∃ W : World, W = ((w2.setCell ⟨w.heap.size, 0, none⟩ (.int .i64 9)).setCell ⟨w.heap.size, 1, none⟩ (.int .i64 0)) := ⟨_, rfl⟩
    have ho : Only w.heap.size (w.heap.size + 1) w2 U3 := by rw [hU3]; exact (((Only.refl _ _ _).set (p := ⟨w.heap.size, 0, none⟩) (Nat.le_refl _) (Nat.lt_succ_self _) _).set (p := ⟨w.heap.size, 1, none⟩) (Nat.le_refl _) (Nat.lt_succ_self _) _)
    replace HX1 : Kept w.heap.size (w.heap.size + 1) (BoxK w.heap.size 42 #[.int .i64 9, .int .i64 0]) U3 := by rw [hU3]; exact Kept.box ((HX1.bx.put 0 (.int .i64 9)).put 1 (.int .i64 0))
    replace HB := Lib.hid (Below.only HB.out ho (by have := Z1.out; omega) HB.out.size)
    have Z2 := Lib.hid ho.size; clear ho
    have q_0 := HX1.look 0
    have q_1 := HX1.look 1
    subst hU3
    exact bodyPost_ret (v := .agg #[.int .i64 9, .int .i64 0]) (by simp [results, Try.results33, go_sem, q_0, q_1]) rfl ⟨by rw [HC.out, HV.out], HB.out⟩
  · have HB := Lib.hid (Below.refl w.heap.size w)
    have HA := Lib.hid (eq_true_of_ne_false h0)
    have HC : Hid (seqC a = 0) := Lib.hid (by unfold seqC; rw [if_neg h0, if_neg h1])
    have HV : Hid (seqV a = a + 1) := Lib.hid (by unfold seqV; rw [if_neg h0, if_neg h1])
    have hq : (a == 2147483647) = false := by simpa using h1
    obtain ⟨g1, g2⟩ := allIn_one HA.out
    clear h0 h1
    go_enter Try.func33, Try.ntmps33
    go_wp2_with fail
    refine Calls.name ?_
    intro U1 hU1
    have hb : Below w.heap.size w U1 := by rw [hU1]; exact ((Below.refl _ _).alloc (Nat.le_refl _) _)
    have zz : Hid (w.heap.size + 1 = U1.heap.size) := Lib.hid (by rw [hU1]; simp)
    have HX1 : Kept w.heap.size (w.heap.size + 1) (BoxK w.heap.size 42 #[.int .i64 0, .int .i64 0]) U1 := by rw [hU1]; exact Kept.box (Box.made_at _ _ _ rfl)
    replace HB := Lib.hid (below_step HB.out hb)
    clear hb
    have Z1 := zz; clear zz
    clear hU1
    refine (l1In_any a _ _ _).mono ?_
    rw [HA.out]
    rintro e w2 ⟨rfl, rfl⟩
    have c_0 := HX1.look 0
    have c_1 := HX1.look 1
    have f_0 := HX1.free 0
    have f_1 := HX1.free 1
    have l_0 := HX1.le
    go_wp2
    clear c_0 c_1 f_0 f_1 l_0
    obtain ⟨U3, hU3⟩ : ∃ W : World, W = ((w2.setCell ⟨w.heap.size, 0, none⟩ (.int .i64 0)).setCell ⟨w.heap.size, 1, none⟩ (.int .i64 (a + 1))) := ⟨_, rfl⟩
    have ho : Only w.heap.size (w.heap.size + 1) w2 U3 := by rw [hU3]; exact (((Only.refl _ _ _).set (p := ⟨w.heap.size, 0, none⟩) (Nat.le_refl _) (Nat.lt_succ_self _) _).set (p := ⟨w.heap.size, 1, none⟩) (Nat.le_refl _) (Nat.lt_succ_self _) _)
    replace HX1 : Kept w.heap.size (w.heap.size + 1) (BoxK w.heap.size 42 #[.int .i64 0, .int .i64 (a + 1)]) U3 := by rw [hU3]; exact Kept.box ((HX1.bx.put 0 (.int .i64 0)).put 1 (.int .i64 (a + 1)))
    replace HB := Lib.hid (Below.only HB.out ho (by have := Z1.out; omega) HB.out.size)
    have Z2 := Lib.hid ho.size; clear ho
    have q_0 := HX1.look 0
    have q_1 := HX1.look 1
    subst hU3
    exact bodyPost_ret (v := .agg #[.int .i64 0, .int .i64 (a + 1)]) (by simp [results, Try.results33, go_sem, q_0, q_1]) rfl ⟨by rw [HC.out, HV.out], HB.out⟩

set_option maxRecDepth 100000 in
set_option maxHeartbeats 1600000 in
theorem nextSeq_any (a : Int) (w : World) :
    Calls Try.prog 30 #[.int .i64 a] w fun e w' => e = .returned (.agg #[.int .i64 (seqC a), .int .i64 (seqV a)]) ∧ Below w.heap.size w w' := by
  by_cases h0 : allIn (-2147483647) 2147483647 [a] = false
  · have HB := Lib.hid (Below.refl w.heap.size w)
    have HA := Lib.hid h0
    have HC : Hid (seqC a = 3) := Lib.hid (by unfold seqC; rw [if_pos h0])
    have HV : Hid (seqV a = 0) := Lib.hid (by unfold seqV; rw [if_pos h0])
    clear h0
    go_enter Try.func30, Try.ntmps30
    go_wp2_with fail
    refine Calls.name ?_
    intro U1 hU1
    have hb : Below w.heap.size w U1 := by rw [hU1]; exact (((Below.refl _ _).alloc (Nat.le_refl _) _).alloc (by simp) _)
    have zz : Hid (w.heap.size + 2 = U1.heap.size) := Lib.hid (by rw [hU1]; simp)
    have HX1 : Kept w.heap.size (w.heap.size + 1) (BoxK w.heap.size 42 #[.int .i64 0, .int .i64 0]) U1 := by rw [hU1]; exact Kept.box ((Box.made_at _ _ _ rfl).over _)
    have HX2 : Kept (w.heap.size + 1) (w.heap.size + 1 + 1) (BoxK (w.heap.size + 1) 2 #[.int .i64 a]) U1 := by rw [hU1]; exact Kept.box (Box.made_at _ _ _ (by simp))
    replace HB := Lib.hid (below_step HB.out hb)
    clear hb
    have Z1 := zz; clear zz
    clear hU1
    have HL := Lib.hid (HX2.look 0)
    refine (allWithin_one _ _ _ a _ HL.out).mono ?_
    rw [HA.out]
    rintro e w2 ⟨rfl, rfl⟩
    have c_0 := HX1.look 0
    have c_1 := HX1.look 1
    have f_0 := HX1.free 0
    have f_1 := HX1.free 1
    have l_0 := HX1.le
    have l_1 := HX2.le
    go_wp2
    clear c_0 c_1 f_0 f_1 l_0 l_1
    obtain ⟨U3, hU3⟩ : ∃ W : World, W = ((w2.setCell ⟨w.heap.size, 0, none⟩ (.int .i64 3)).setCell ⟨w.heap.size, 1, none⟩ (.int .i64 0)) := ⟨_, rfl⟩
    have ho : Only w.heap.size (w.heap.size + 1) w2 U3 := by rw [hU3]; exact (((Only.refl _ _ _).set (p := ⟨w.heap.size, 0, none⟩) (Nat.le_refl _) (Nat.lt_succ_self _) _).set (p := ⟨w.heap.size, 1, none⟩) (Nat.le_refl _) (Nat.lt_succ_self _) _)
    replace HX1 : Kept w.heap.size (w.heap.size + 1) (BoxK w.heap.size 42 #[.int .i64 3, .int .i64 0]) U3 := by rw [hU3]; exact Kept.box ((HX1.bx.put 0 (.int .i64 3)).put 1 (.int .i64 0))
    replace HX2 := HX2.only ho (by have := Z1.out; omega)
    replace HB := Lib.hid (Below.only HB.out ho (by have := Z1.out; omega) HB.out.size)
    have Z2 := Lib.hid ho.size; clear ho
    have q_0 := HX1.look 0
    have q_1 := HX1.look 1
    subst hU3
    exact bodyPost_ret (v := .agg #[.int .i64 3, .int .i64 0]) (by simp [results, Try.results30, go_sem, q_0, q_1]) rfl ⟨by rw [HC.out, HV.out], HB.out⟩
  by_cases h1 : a = 2147483647
  · have HB := Lib.hid (Below.refl w.heap.size w)
    have HA := Lib.hid (eq_true_of_ne_false h0)
    have HC : Hid (seqC a = 9) := Lib.hid (by unfold seqC; rw [if_neg h0, if_pos h1])
    have HV : Hid (seqV a = 0) := Lib.hid (by unfold seqV; rw [if_neg h0, if_pos h1])
    have hq : (a == 2147483647) = true := by simpa using h1
    clear h0 h1
    go_enter Try.func30, Try.ntmps30
    go_wp2_with fail
    refine Calls.name ?_
    intro U1 hU1
    have hb : Below w.heap.size w U1 := by rw [hU1]; exact (((Below.refl _ _).alloc (Nat.le_refl _) _).alloc (by simp) _)
    have zz : Hid (w.heap.size + 2 = U1.heap.size) := Lib.hid (by rw [hU1]; simp)
    have HX1 : Kept w.heap.size (w.heap.size + 1) (BoxK w.heap.size 42 #[.int .i64 0, .int .i64 0]) U1 := by rw [hU1]; exact Kept.box ((Box.made_at _ _ _ rfl).over _)
    have HX2 : Kept (w.heap.size + 1) (w.heap.size + 1 + 1) (BoxK (w.heap.size + 1) 2 #[.int .i64 a]) U1 := by rw [hU1]; exact Kept.box (Box.made_at _ _ _ (by simp))
    replace HB := Lib.hid (below_step HB.out hb)
    clear hb
    have Z1 := zz; clear zz
    clear hU1
    have HL := Lib.hid (HX2.look 0)
    refine (allWithin_one _ _ _ a _ HL.out).mono ?_
    rw [HA.out]
    rintro e w2 ⟨rfl, rfl⟩
    have c_0 := HX1.look 0
    have c_1 := HX1.look 1
    have f_0 := HX1.free 0
    have f_1 := HX1.free 1
    have l_0 := HX1.le
    have l_1 := HX2.le
    go_wp2
    clear c_0 c_1 f_0 f_1 l_0 l_1
    obtain ⟨U3, hU3⟩ : ∃ W : World, W = ((w2.setCell ⟨w.heap.size, 0, none⟩ (.int .i64 9)).setCell ⟨w.heap.size, 1, none⟩ (.int .i64 0)) := ⟨_, rfl⟩
    have ho : Only w.heap.size (w.heap.size + 1) w2 U3 := by rw [hU3]; exact (((Only.refl _ _ _).set (p := ⟨w.heap.size, 0, none⟩) (Nat.le_refl _) (Nat.lt_succ_self _) _).set (p := ⟨w.heap.size, 1, none⟩) (Nat.le_refl _) (Nat.lt_succ_self _) _)
    replace HX1 : Kept w.heap.size (w.heap.size + 1) (BoxK w.heap.size 42 #[.int .i64 9, .int .i64 0]) U3 := by rw [hU3]; exact Kept.box ((HX1.bx.put 0 (.int .i64 9)).put 1 (.int .i64 0))
    replace HX2 := HX2.only ho (by have := Z1.out; omega)
    replace HB := Lib.hid (Below.only HB.out ho (by have := Z1.out; omega) HB.out.size)
    have Z2 := Lib.hid ho.size; clear ho
    have q_0 := HX1.look 0
    have q_1 := HX1.look 1
    subst hU3
    exact bodyPost_ret (v := .agg #[.int .i64 9, .int .i64 0]) (by simp [results, Try.results30, go_sem, q_0, q_1]) rfl ⟨by rw [HC.out, HV.out], HB.out⟩
  · have HB := Lib.hid (Below.refl w.heap.size w)
    have HA := Lib.hid (eq_true_of_ne_false h0)
    have HC : Hid (seqC a = 0) := Lib.hid (by unfold seqC; rw [if_neg h0, if_neg h1])
    have HV : Hid (seqV a = a + 1) := Lib.hid (by unfold seqV; rw [if_neg h0, if_neg h1])
    have hq : (a == 2147483647) = false := by simpa using h1
    obtain ⟨g1, g2⟩ := allIn_one HA.out
    clear h0 h1
    go_enter Try.func30, Try.ntmps30
    go_wp2_with fail
    refine Calls.name ?_
    intro U1 hU1
    have hb : Below w.heap.size w U1 := by rw [hU1]; exact (((Below.refl _ _).alloc (Nat.le_refl _) _).alloc (by simp) _)
    have zz : Hid (w.heap.size + 2 = U1.heap.size) := Lib.hid (by rw [hU1]; simp)
    have HX1 : Kept w.heap.size (w.heap.size + 1) (BoxK w.heap.size 42 #[.int .i64 0, .int .i64 0]) U1 := by rw [hU1]; exact Kept.box ((Box.made_at _ _ _ rfl).over _)
    have HX2 : Kept (w.heap.size + 1) (w.heap.size + 1 + 1) (BoxK (w.heap.size + 1) 2 #[.int .i64 a]) U1 := by rw [hU1]; exact Kept.box (Box.made_at _ _ _ (by simp))
    replace HB := Lib.hid (below_step HB.out hb)
    clear hb
    have Z1 := zz; clear zz
    clear hU1
    have HL := Lib.hid (HX2.look 0)
    refine (allWithin_one _ _ _ a _ HL.out).mono ?_
    rw [HA.out]
    rintro e w2 ⟨rfl, rfl⟩
    have c_0 := HX1.look 0
    have c_1 := HX1.look 1
    have f_0 := HX1.free 0
    have f_1 := HX1.free 1
    have l_0 := HX1.le
    have l_1 := HX2.le
    go_wp2
    clear c_0 c_1 f_0 f_1 l_0 l_1
    obtain ⟨U3, hU3⟩ : ∃ W : World, W = ((w2.setCell ⟨w.heap.size, 0, none⟩ (.int .i64 0)).setCell ⟨w.heap.size, 1, none⟩ (.int .i64 (a + 1))) := ⟨_, rfl⟩
    have ho : Only w.heap.size (w.heap.size + 1) w2 U3 := by rw [hU3]; exact (((Only.refl _ _ _).set (p := ⟨w.heap.size, 0, none⟩) (Nat.le_refl _) (Nat.lt_succ_self _) _).set (p := ⟨w.heap.size, 1, none⟩) (Nat.le_refl _) (Nat.lt_succ_self _) _)
    replace HX1 : Kept w.heap.size (w.heap.size + 1) (BoxK w.heap.size 42 #[.int .i64 0, .int .i64 (a + 1)]) U3 := by rw [hU3]; exact Kept.box ((HX1.bx.put 0 (.int .i64 0)).put 1 (.int .i64 (a + 1)))
    replace HX2 := HX2.only ho (by have := Z1.out; omega)
    replace HB := Lib.hid (Below.only HB.out ho (by have := Z1.out; omega) HB.out.size)
    have Z2 := Lib.hid ho.size; clear ho
    have q_0 := HX1.look 0
    have q_1 := HX1.look 1
    subst hU3
    exact bodyPost_ret (v := .agg #[.int .i64 0, .int .i64 (a + 1)]) (by simp [results, Try.results30, go_sem, q_0, q_1]) rfl ⟨by rw [HC.out, HV.out], HB.out⟩


end Go.Proofs.Ytamclkjofojhmaa

namespace Go.Proofs.Ytamclkjofojhmaa
open Go.RowKit
set_option linter.unusedVariables false

attribute [local go_sem high] neq_key eql_key

theorem l3Compare_any (l : LsaM) (q : Bool) (lo hi : Nat) (A B : Option Addr) (n c m d : Nat) (k : LsaM) (q2 : Bool) (lo2 hi2 : Nat) (A2 B2 : Option Addr) (n2 c2 m2 d2 : Nat) (g g2 : Nat) (w : World) (hx : Box w g 29 (lsaCells l A B n c m d)) (hl : LsaAt q lo hi w A n B m l) (hy : Box w g2 29 (lsaCells k A2 B2 n2 c2 m2 d2)) (hk : LsaAt q2 lo2 hi2 w A2 n2 B2 m2 k) (h0 : pairC l k = 0) :
    Calls Try.prog 91 #[.pointer (some ⟨g, 0, none⟩), .pointer (some ⟨g2, 0, none⟩)] w fun e w' => e = .returned (.int .i64 (ordV l k)) ∧ Below w.heap.size w w' := by
  by_cases h1 : cmpI l.seq k.seq = 0
  rotate_left
  · exact l3Compare_1 l q lo hi A B n c m d k q2 lo2 hi2 A2 B2 n2 c2 m2 d2 g g2 w hx hl hy hk h0 h1
  by_cases h2 : cmpI (sumV l) (sumV k) = 0
  rotate_left
  · exact l3Compare_2 l q lo hi A B n c m d k q2 lo2 hi2 A2 B2 n2 c2 m2 d2 g g2 w hx hl hy hk h0 h1 h2
  by_cases h3 : oldB l = oldB k
  rotate_left
  · cases h5 : oldB l
    · exact l3Compare_3f l q lo hi A B n c m d k q2 lo2 hi2 A2 B2 n2 c2 m2 d2 g g2 w hx hl hy hk h0 h1 h2 ⟨h5, by rw [h5] at h3; cases h6 : oldB k; exact absurd h6.symm h3; rfl⟩
    · exact l3Compare_3t l q lo hi A B n c m d k q2 lo2 hi2 A2 B2 n2 c2 m2 d2 g g2 w hx hl hy hk h0 h1 h2 ⟨h5, by rw [h5] at h3; cases h6 : oldB k; rfl; exact absurd h6.symm h3⟩
  by_cases h4 : allIn (-900) 900 [l.age - k.age] = false
  · by_cases hz : 900 < k.age - l.age
    · exact l3Compare_4a l q lo hi A B n c m d k q2 lo2 hi2 A2 B2 n2 c2 m2 d2 g g2 w hx hl hy hk h0 h1 h2 h3 h4 hz
    · exact l3Compare_4b l q lo hi A B n c m d k q2 lo2 hi2 A2 B2 n2 c2 m2 d2 g g2 w hx hl hy hk h0 h1 h2 h3 h4 (by have := allIn_out h4; omega) hz
  · exact l3Compare_5 l q lo hi A B n c m d k q2 lo2 hi2 A2 B2 n2 c2 m2 d2 g g2 w hx hl hy hk h0 h1 h2 h3 h4

set_option maxRecDepth 100000 in
set_option maxHeartbeats 3200000 in
theorem specCompare_1 (l : LsaM) (q : Bool) (lo hi : Nat) (A B : Option Addr) (n c m d : Nat) (k : LsaM) (q2 : Bool) (lo2 hi2 : Nat) (A2 B2 : Option Addr) (n2 c2 m2 d2 : Nat) (w : World) (hl : LsaAt q lo hi w A n B m l) (hn : n ≤ 1048576) (hm : m ≤ 1048576) (hk : LsaAt q2 lo2 hi2 w A2 n2 B2 m2 k) (hn2 : n2 ≤ 1048576) (hm2 : m2 ≤ 1048576) (h1 : ¬ faultOf l = 0) :
    Calls Try.prog 31 #[.agg (lsaCells l A B n c m d), .agg (lsaCells k A2 B2 n2 c2 m2 d2)] w fun e w' => e = .returned (.agg #[.int .i64 (pairC l k), .int .i64 (ordV l k)]) ∧ Below w.heap.size w w' := by
  have HB := Lib.hid (Below.refl w.heap.size w)
  have HL := hl.kept
  have Z0 := Lib.hid hl.le
  clear hl
  have HK := hk.kept
  have Z00 := Lib.hid hk.le
  clear hk
  have HO := Lib.hid (ordV_0 (a := l) (b := k) (by rw [pairC_1 h1]; exact h1))
  obtain ⟨r, hr⟩ : ∃ r, faultOf l = r := ⟨_, rfl⟩
  have HC : Hid (pairC l k = r) := Lib.hid (by rw [← hr]; exact pairC_1 h1)
  rw [hr] at h1
  have hne : (r != 0) = true := by rw [bne_iff_ne]; exact h1
  have HF := Lib.hid hr
  clear hr h1
  go_enter Try.func31, Try.ntmps31
  go_wp2_with fail
  refine Calls.name ?_
  intro U1 hU1
  have hb : Below w.heap.size w U1 := by rw [hU1]; exact ((((Below.refl _ _).alloc (Nat.le_refl _) _).alloc (by simp <;> omega) _).alloc (by simp <;> omega) _)
  have zz : Hid (w.heap.size + 3 = U1.heap.size) := Lib.hid (by rw [hU1]; simp)
  have HX1 : Kept w.heap.size (w.heap.size + 1) (BoxK w.heap.size 29 #[.int .i64 l.age, .int .i64 l.options, .int .i64 l.typ, .int .i64 l.id, .int .i64 l.adv, .int .i64 l.seq, .slice A n c, .slice B m d, .int .i64 l.mask, .int .i64 l.cost]) U1 := by rw [hU1]; exact Kept.box (((Box.made_at _ _ _ rfl).over _).over _)
  have HX2 : Kept (w.heap.size + 1) (w.heap.size + 1 + 1) (BoxK (w.heap.size + 1) 29 #[.int .i64 k.age, .int .i64 k.options, .int .i64 k.typ, .int .i64 k.id, .int .i64 k.adv, .int .i64 k.seq, .slice A2 n2 c2, .slice B2 m2 d2, .int .i64 k.mask, .int .i64 k.cost]) U1 := by rw [hU1]; exact Kept.box ((Box.made_at _ _ _ (by simp <;> omega)).over _)
  have HX3 : Kept (w.heap.size + 1 + 1) (w.heap.size + 1 + 1 + 1) (BoxK (w.heap.size + 1 + 1) 49 #[.int .i64 0, .int .i64 0]) U1 := by rw [hU1]; exact Kept.box (Box.made_at _ _ _ (by simp <;> omega))
  replace HL := HL.below hb
  replace HK := HK.below hb
  replace HB := Lib.hid (below_step HB.out hb)
  clear hb
  have Z1 := zz; clear zz
  clear hU1
  refine (specFault_any l q lo hi A B n c m d _ HL.lsa.in_ HL.le hn hm).mono ?_
  rw [HF.out]
  rintro e w2 ⟨rfl, hb⟩
  have Z2 := Lib.hid hb.size
  replace HL := HL.below hb
  replace HK := HK.below hb
  replace HX1 := HX1.below hb
  replace HX2 := HX2.below hb
  replace HX3 := HX3.below hb
  replace HB := Lib.hid (below_step HB.out hb)
  clear hb
  have c2_0 := HX3.look 0
  have c2_1 := HX3.look 1
  have f2_0 := HX3.free 0
  have f2_1 := HX3.free 1
  have l2_0 := HX1.bx.lt
  have l2_1 := HX2.bx.lt
  have l2_2 := HX3.bx.lt
  go_wp2
  clear c2_0 c2_1 f2_0 f2_1 l2_0 l2_1 l2_2
  obtain ⟨U3, hU3⟩ : ∃ W : World, W = ((w2.setCell ⟨w.heap.size + 1 + 1, 0, none⟩ (.int .i64 r)).setCell ⟨w.heap.size + 1 + 1, 1, none⟩ (.int .i64 0)) := ⟨_, rfl⟩
  have ho : Only (w.heap.size + 1 + 1) (w.heap.size + 1 + 1 + 1) w2 U3 := by rw [hU3]; exact (((Only.refl _ _ _).set (p := ⟨w.heap.size + 1 + 1, 0, none⟩) (Nat.le_refl _) (Nat.lt_succ_self _) _).set (p := ⟨w.heap.size + 1 + 1, 1, none⟩) (Nat.le_refl _) (Nat.lt_succ_self _) _)
  replace HX3 : Kept (w.heap.size + 1 + 1) (w.heap.size + 1 + 1 + 1) (BoxK (w.heap.size + 1 + 1) 49 #[.int .i64 r, .int .i64 0]) U3 := by rw [hU3]; exact Kept.box ((HX3.bx.puts 0 (.int .i64 r) (cs' := #[.int .i64 r, .int .i64 0]) rfl).puts 1 (.int .i64 0) (cs' := #[.int .i64 r, .int .i64 0]) rfl)
  replace HL := HL.only ho (by have := Z0.out; have := Z00.out; have := Z1.out; have := Z2.out; omega)
  replace HK := HK.only ho (by have := Z0.out; have := Z00.out; have := Z1.out; have := Z2.out; omega)
  replace HX1 := HX1.only ho (by have := Z0.out; have := Z00.out; have := Z1.out; have := Z2.out; omega)
  replace HX2 := HX2.only ho (by have := Z0.out; have := Z00.out; have := Z1.out; have := Z2.out; omega)
  replace HB := Lib.hid (Below.only HB.out ho (by have := Z0.out; have := Z00.out; have := Z1.out; have := Z2.out; omega) HB.out.size)
  have Z3 := Lib.hid ho.size; clear ho
  have q_0 := HX3.look 0
  have q_1 := HX3.look 1
  subst hU3
  exact bodyPost_ret (v := .agg #[.int .i64 r, .int .i64 0]) (by simp [results, Try.results31, go_sem, q_0, q_1]) rfl ⟨by rw [HC.out, HO.out], HB.out⟩

set_option maxRecDepth 100000 in
set_option maxHeartbeats 3200000 in
theorem specCompare_2 (l : LsaM) (q : Bool) (lo hi : Nat) (A B : Option Addr) (n c m d : Nat) (k : LsaM) (q2 : Bool) (lo2 hi2 : Nat) (A2 B2 : Option Addr) (n2 c2 m2 d2 : Nat) (w : World) (hl : LsaAt q lo hi w A n B m l) (hn : n ≤ 1048576) (hm : m ≤ 1048576) (hk : LsaAt q2 lo2 hi2 w A2 n2 B2 m2 k) (hn2 : n2 ≤ 1048576) (hm2 : m2 ≤ 1048576) (h1 : faultOf l = 0) (h2 : ¬ faultOf k = 0) :
    Calls Try.prog 31 #[.agg (lsaCells l A B n c m d), .agg (lsaCells k A2 B2 n2 c2 m2 d2)] w fun e w' => e = .returned (.agg #[.int .i64 (pairC l k), .int .i64 (ordV l k)]) ∧ Below w.heap.size w w' := by
  have HB := Lib.hid (Below.refl w.heap.size w)
  have HL := hl.kept
  have Z0 := Lib.hid hl.le
  clear hl
  have HK := hk.kept
  have Z00 := Lib.hid hk.le
  clear hk
  have HO := Lib.hid (ordV_0 (a := l) (b := k) (by rw [pairC_2 h1 h2]; exact h2))
  obtain ⟨r, hr⟩ : ∃ r, faultOf k = r := ⟨_, rfl⟩
  have HC : Hid (pairC l k = r) := Lib.hid (by rw [← hr]; exact pairC_2 h1 h2)
  rw [hr] at h2
  have hne : (r != 0) = true := by rw [bne_iff_ne]; exact h2
  have HF := Lib.hid h1
  have HG := Lib.hid hr
  clear hr h1 h2
  go_enter Try.func31, Try.ntmps31
  go_wp2_with fail
  refine Calls.name ?_
  intro U1 hU1
  have hb : Below w.heap.size w U1 := by rw [hU1]; exact ((((Below.refl _ _).alloc (Nat.le_refl _) _).alloc (by simp <;> omega) _).alloc (by simp <;> omega) _)
  have zz : Hid (w.heap.size + 3 = U1.heap.size) := Lib.hid (by rw [hU1]; simp)
  have HX1 : Kept w.heap.size (w.heap.size + 1) (BoxK w.heap.size 29 #[.int .i64 l.age, .int .i64 l.options, .int .i64 l.typ, .int .i64 l.id, .int .i64 l.adv, .int .i64 l.seq, .slice A n c, .slice B m d, .int .i64 l.mask, .int .i64 l.cost]) U1 := by rw [hU1]; exact Kept.box (((Box.made_at _ _ _ rfl).over _).over _)
  have HX2 : Kept (w.heap.size + 1) (w.heap.size + 1 + 1) (BoxK (w.heap.size + 1) 29 #[.int .i64 k.age, .int .i64 k.options, .int .i64 k.typ, .int .i64 k.id, .int .i64 k.adv, .int .i64 k.seq, .slice A2 n2 c2, .slice B2 m2 d2, .int .i64 k.mask, .int .i64 k.cost]) U1 := by rw [hU1]; exact Kept.box ((Box.made_at _ _ _ (by simp <;> omega)).over _)
  have HX3 : Kept (w.heap.size + 1 + 1) (w.heap.size + 1 + 1 + 1) (BoxK (w.heap.size + 1 + 1) 49 #[.int .i64 0, .int .i64 0]) U1 := by rw [hU1]; exact Kept.box (Box.made_at _ _ _ (by simp <;> omega))
  replace HL := HL.below hb
  replace HK := HK.below hb
  replace HB := Lib.hid (below_step HB.out hb)
  clear hb
  have Z1 := zz; clear zz
  clear hU1
  refine (specFault_any l q lo hi A B n c m d _ HL.lsa.in_ HL.le hn hm).mono ?_
  rw [HF.out]
  rintro e w2 ⟨rfl, hb⟩
  have Z2 := Lib.hid hb.size
  replace HL := HL.below hb
  replace HK := HK.below hb
  replace HX1 := HX1.below hb
  replace HX2 := HX2.below hb
  replace HX3 := HX3.below hb
  replace HB := Lib.hid (below_step HB.out hb)
  clear hb
  have c2_0 := HX2.look 0
  have c2_1 := HX2.look 1
  have c2_2 := HX2.look 2
  have c2_3 := HX2.look 3
  have c2_4 := HX2.look 4
  have c2_5 := HX2.look 5
  have c2_6 := HX2.look 6
  have c2_7 := HX2.look 7
  have c2_8 := HX2.look 8
  have c2_9 := HX2.look 9
  have l2_0 := HX1.bx.lt
  have l2_1 := HX2.bx.lt
  have l2_2 := HX3.bx.lt
  go_wp2_with fail
  clear c2_0 c2_1 c2_2 c2_3 c2_4 c2_5 c2_6 c2_7 c2_8 c2_9 l2_0 l2_1 l2_2
  refine (specFault_any k q2 lo2 hi2 A2 B2 n2 c2 m2 d2 _ HK.lsa.in_ HK.le hn2 hm2).mono ?_
  rw [HG.out]
  rintro e w3 ⟨rfl, hb⟩
  have Z3 := Lib.hid hb.size
  replace HL := HL.below hb
  replace HK := HK.below hb
  replace HX1 := HX1.below hb
  replace HX2 := HX2.below hb
  replace HX3 := HX3.below hb
  replace HB := Lib.hid (below_step HB.out hb)
  clear hb
  have c3_0 := HX3.look 0
  have c3_1 := HX3.look 1
  have f3_0 := HX3.free 0
  have f3_1 := HX3.free 1
  have l3_0 := HX1.bx.lt
  have l3_1 := HX2.bx.lt
  have l3_2 := HX3.bx.lt
  go_wp2
  clear c3_0 c3_1 f3_0 f3_1 l3_0 l3_1 l3_2
  obtain ⟨U4, hU4⟩ : ∃ W : World, W = ((w3.setCell ⟨w.heap.size + 1 + 1, 0, none⟩ (.int .i64 r)).setCell ⟨w.heap.size + 1 + 1, 1, none⟩ (.int .i64 0)) := ⟨_, rfl⟩
  have ho : Only (w.heap.size + 1 + 1) (w.heap.size + 1 + 1 + 1) w3 U4 := by rw [hU4]; exact (((Only.refl _ _ _).set (p := ⟨w.heap.size + 1 + 1, 0, none⟩) (Nat.le_refl _) (Nat.lt_succ_self _) _).set (p := ⟨w.heap.size + 1 + 1, 1, none⟩) (Nat.le_refl _) (Nat.lt_succ_self _) _)
  replace HX3 : Kept (w.heap.size + 1 + 1) (w.heap.size + 1 + 1 + 1) (BoxK (w.heap.size + 1 + 1) 49 #[.int .i64 r, .int .i64 0]) U4 := by rw [hU4]; exact Kept.box ((HX3.bx.puts 0 (.int .i64 r) (cs' := #[.int .i64 r, .int .i64 0]) rfl).puts 1 (.int .i64 0) (cs' := #[.int .i64 r, .int .i64 0]) rfl)
  replace HL := HL.only ho (by have := Z0.out; have := Z00.out; have := Z1.out; have := Z2.out; have := Z3.out; omega)
  replace HK := HK.only ho (by have := Z0.out; have := Z00.out; have := Z1.out; have := Z2.out; have := Z3.out; omega)
  replace HX1 := HX1.only ho (by have := Z0.out; have := Z00.out; have := Z1.out; have := Z2.out; have := Z3.out; omega)
  replace HX2 := HX2.only ho (by have := Z0.out; have := Z00.out; have := Z1.out; have := Z2.out; have := Z3.out; omega)
  replace HB := Lib.hid (Below.only HB.out ho (by have := Z0.out; have := Z00.out; have := Z1.out; have := Z2.out; have := Z3.out; omega) HB.out.size)
  have Z4 := Lib.hid ho.size; clear ho
  have q_0 := HX3.look 0
  have q_1 := HX3.look 1
  subst hU4
  exact bodyPost_ret (v := .agg #[.int .i64 r, .int .i64 0]) (by simp [results, Try.results31, go_sem, q_0, q_1]) rfl ⟨by rw [HC.out, HO.out], HB.out⟩

set_option maxRecDepth 100000 in
set_option maxHeartbeats 3200000 in
theorem specCompare_3 (l : LsaM) (q : Bool) (lo hi : Nat) (A B : Option Addr) (n c m d : Nat) (k : LsaM) (q2 : Bool) (lo2 hi2 : Nat) (A2 B2 : Option Addr) (n2 c2 m2 d2 : Nat) (w : World) (hl : LsaAt q lo hi w A n B m l) (hn : n ≤ 1048576) (hm : m ≤ 1048576) (hk : LsaAt q2 lo2 hi2 w A2 n2 B2 m2 k) (hn2 : n2 ≤ 1048576) (hm2 : m2 ≤ 1048576) (h1 : faultOf l = 0) (h2 : faultOf k = 0) (h3 : keyB l.typ l.id l.adv k.typ k.id k.adv = false) :
    Calls Try.prog 31 #[.agg (lsaCells l A B n c m d), .agg (lsaCells k A2 B2 n2 c2 m2 d2)] w fun e w' => e = .returned (.agg #[.int .i64 (pairC l k), .int .i64 (ordV l k)]) ∧ Below w.heap.size w w' := by
  have HB := Lib.hid (Below.refl w.heap.size w)
  have HL := hl.kept
  have Z0 := Lib.hid hl.le
  clear hl
  have HK := hk.kept
  have Z00 := Lib.hid hk.le
  clear hk
  have HO := Lib.hid (ordV_0 (a := l) (b := k) (by rw [pairC_3 h1 h2 h3]; decide))
  have HC := Lib.hid (pairC_3 h1 h2 h3)
  have HF := Lib.hid h1
  have HG := Lib.hid h2
  clear h1 h2
  go_enter Try.func31, Try.ntmps31
  go_wp2_with fail
  refine Calls.name ?_
  intro U1 hU1
  have hb : Below w.heap.size w U1 := by rw [hU1]; exact ((((Below.refl _ _).alloc (Nat.le_refl _) _).alloc (by simp <;> omega) _).alloc (by simp <;> omega) _)
  have zz : Hid (w.heap.size + 3 = U1.heap.size) := Lib.hid (by rw [hU1]; simp)
  have HX1 : Kept w.heap.size (w.heap.size + 1) (BoxK w.heap.size 29 #[.int .i64 l.age, .int .i64 l.options, .int .i64 l.typ, .int .i64 l.id, .int .i64 l.adv, .int .i64 l.seq, .slice A n c, .slice B m d, .int .i64 l.mask, .int .i64 l.cost]) U1 := by rw [hU1]; exact Kept.box (((Box.made_at _ _ _ rfl).over _).over _)
  have HX2 : Kept (w.heap.size + 1) (w.heap.size + 1 + 1) (BoxK (w.heap.size + 1) 29 #[.int .i64 k.age, .int .i64 k.options, .int .i64 k.typ, .int .i64 k.id, .int .i64 k.adv, .int .i64 k.seq, .slice A2 n2 c2, .slice B2 m2 d2, .int .i64 k.mask, .int .i64 k.cost]) U1 := by rw [hU1]; exact Kept.box ((Box.made_at _ _ _ (by simp <;> omega)).over _)
  have HX3 : Kept (w.heap.size + 1 + 1) (w.heap.size + 1 + 1 + 1) (BoxK (w.heap.size + 1 + 1) 49 #[.int .i64 0, .int .i64 0]) U1 := by rw [hU1]; exact Kept.box (Box.made_at _ _ _ (by simp <;> omega))
  replace HL := HL.below hb
  replace HK := HK.below hb
  replace HB := Lib.hid (below_step HB.out hb)
  clear hb
  have Z1 := zz; clear zz
  clear hU1
  refine (specFault_any l q lo hi A B n c m d _ HL.lsa.in_ HL.le hn hm).mono ?_
  rw [HF.out]
  rintro e w2 ⟨rfl, hb⟩
  have Z2 := Lib.hid hb.size
  replace HL := HL.below hb
  replace HK := HK.below hb
  replace HX1 := HX1.below hb
  replace HX2 := HX2.below hb
  replace HX3 := HX3.below hb
  replace HB := Lib.hid (below_step HB.out hb)
  clear hb
  have c2_0 := HX2.look 0
  have c2_1 := HX2.look 1
  have c2_2 := HX2.look 2
  have c2_3 := HX2.look 3
  have c2_4 := HX2.look 4
  have c2_5 := HX2.look 5
  have c2_6 := HX2.look 6
  have c2_7 := HX2.look 7
  have c2_8 := HX2.look 8
  have c2_9 := HX2.look 9
  have l2_0 := HX1.bx.lt
  have l2_1 := HX2.bx.lt
  have l2_2 := HX3.bx.lt
  go_wp2_with fail
  clear c2_0 c2_1 c2_2 c2_3 c2_4 c2_5 c2_6 c2_7 c2_8 c2_9 l2_0 l2_1 l2_2
  refine (specFault_any k q2 lo2 hi2 A2 B2 n2 c2 m2 d2 _ HK.lsa.in_ HK.le hn2 hm2).mono ?_
  rw [HG.out]
  rintro e w3 ⟨rfl, hb⟩
  have Z3 := Lib.hid hb.size
  replace HL := HL.below hb
  replace HK := HK.below hb
  replace HX1 := HX1.below hb
  replace HX2 := HX2.below hb
  replace HX3 := HX3.below hb
  replace HB := Lib.hid (below_step HB.out hb)
  clear hb
  have c3_0 := HX1.look 2
  have c3_1 := HX1.look 3
  have c3_2 := HX1.look 4
  have c3_3 := HX2.look 2
  have c3_4 := HX2.look 3
  have c3_5 := HX2.look 4
  have c3_6 := HX3.look 0
  have c3_7 := HX3.look 1
  have f3_0 := HX3.free 0
  have f3_1 := HX3.free 1
  have l3_0 := HX1.bx.lt
  have l3_1 := HX2.bx.lt
  have l3_2 := HX3.bx.lt
  have n3_0_0 : ¬ (w.heap.size + 1 + 1) = w.heap.size := (by have := Z0.out; have := Z00.out; have := Z1.out; have := Z2.out; have := Z3.out; omega)
  have m3_0_0 : ¬ w.heap.size = (w.heap.size + 1 + 1) := (by have := Z0.out; have := Z00.out; have := Z1.out; have := Z2.out; have := Z3.out; omega)
  have n3_0_1 : ¬ (w.heap.size + 1 + 1) = (w.heap.size + 1) := (by have := Z0.out; have := Z00.out; have := Z1.out; have := Z2.out; have := Z3.out; omega)
  have m3_0_1 : ¬ (w.heap.size + 1) = (w.heap.size + 1 + 1) := (by have := Z0.out; have := Z00.out; have := Z1.out; have := Z2.out; have := Z3.out; omega)
  go_wp2
  clear c3_0 c3_1 c3_2 c3_3 c3_4 c3_5 c3_6 c3_7 f3_0 f3_1 l3_0 l3_1 l3_2 n3_0_0 m3_0_0 n3_0_1 m3_0_1
  obtain ⟨U4, hU4⟩ : ∃ W : World, W = ((w3.setCell ⟨w.heap.size + 1 + 1, 0, none⟩ (.int .i64 8)).setCell ⟨w.heap.size + 1 + 1, 1, none⟩ (.int .i64 0)) := ⟨_, rfl⟩
  have ho : Only (w.heap.size + 1 + 1) (w.heap.size + 1 + 1 + 1) w3 U4 := by rw [hU4]; exact (((Only.refl _ _ _).set (p := ⟨w.heap.size + 1 + 1, 0, none⟩) (Nat.le_refl _) (Nat.lt_succ_self _) _).set (p := ⟨w.heap.size + 1 + 1, 1, none⟩) (Nat.le_refl _) (Nat.lt_succ_self _) _)
  replace HX3 : Kept (w.heap.size + 1 + 1) (w.heap.size + 1 + 1 + 1) (BoxK (w.heap.size + 1 + 1) 49 #[.int .i64 8, .int .i64 0]) U4 := by rw [hU4]; exact Kept.box ((HX3.bx.puts 0 (.int .i64 8) (cs' := #[.int .i64 8, .int .i64 0]) rfl).puts 1 (.int .i64 0) (cs' := #[.int .i64 8, .int .i64 0]) rfl)
  replace HL := HL.only ho (by have := Z0.out; have := Z00.out; have := Z1.out; have := Z2.out; have := Z3.out; omega)
  replace HK := HK.only ho (by have := Z0.out; have := Z00.out; have := Z1.out; have := Z2.out; have := Z3.out; omega)
  replace HX1 := HX1.only ho (by have := Z0.out; have := Z00.out; have := Z1.out; have := Z2.out; have := Z3.out; omega)
  replace HX2 := HX2.only ho (by have := Z0.out; have := Z00.out; have := Z1.out; have := Z2.out; have := Z3.out; omega)
  replace HB := Lib.hid (Below.only HB.out ho (by have := Z0.out; have := Z00.out; have := Z1.out; have := Z2.out; have := Z3.out; omega) HB.out.size)
  have Z4 := Lib.hid ho.size; clear ho
  have q_0 := HX3.look 0
  have q_1 := HX3.look 1
  subst hU4
  exact bodyPost_ret (v := .agg #[.int .i64 8, .int .i64 0]) (by simp [results, Try.results31, go_sem, q_0, q_1]) rfl ⟨by rw [HC.out, HO.out], HB.out⟩

set_option maxRecDepth 100000 in
set_option maxHeartbeats 3200000 in
theorem specCompare_4 (l : LsaM) (q : Bool) (lo hi : Nat) (A B : Option Addr) (n c m d : Nat) (k : LsaM) (q2 : Bool) (lo2 hi2 : Nat) (A2 B2 : Option Addr) (n2 c2 m2 d2 : Nat) (w : World) (hl : LsaAt q lo hi w A n B m l) (hn : n ≤ 1048576) (hm : m ≤ 1048576) (hk : LsaAt q2 lo2 hi2 w A2 n2 B2 m2 k) (hn2 : n2 ≤ 1048576) (hm2 : m2 ≤ 1048576) (h1 : faultOf l = 0) (h2 : faultOf k = 0) (h3 : ¬ keyB l.typ l.id l.adv k.typ k.id k.adv = false) :
    Calls Try.prog 31 #[.agg (lsaCells l A B n c m d), .agg (lsaCells k A2 B2 n2 c2 m2 d2)] w fun e w' => e = .returned (.agg #[.int .i64 (pairC l k), .int .i64 (ordV l k)]) ∧ Below w.heap.size w w' := by
  have HB := Lib.hid (Below.refl w.heap.size w)
  have HL := hl.kept
  have Z0 := Lib.hid hl.le
  clear hl
  have HK := hk.kept
  have Z00 := Lib.hid hk.le
  clear hk
  obtain ⟨v, hv⟩ : ∃ z, ordV l k = z := ⟨_, rfl⟩
  have HO := Lib.hid hv; clear hv
  have HC := Lib.hid (pairC_4 h1 h2 h3)
  have HF := Lib.hid h1
  have HG := Lib.hid h2
  have hk1 : keyB l.typ l.id l.adv k.typ k.id k.adv = true := by simpa using h3
  clear h1 h2 h3
  go_enter Try.func31, Try.ntmps31
  go_wp2_with fail
  refine Calls.name ?_
  intro U1 hU1
  have hb : Below w.heap.size w U1 := by rw [hU1]; exact ((((Below.refl _ _).alloc (Nat.le_refl _) _).alloc (by simp <;> omega) _).alloc (by simp <;> omega) _)
  have zz : Hid (w.heap.size + 3 = U1.heap.size) := Lib.hid (by rw [hU1]; simp)
  have HX1 : Kept w.heap.size (w.heap.size + 1) (BoxK w.heap.size 29 #[.int .i64 l.age, .int .i64 l.options, .int .i64 l.typ, .int .i64 l.id, .int .i64 l.adv, .int .i64 l.seq, .slice A n c, .slice B m d, .int .i64 l.mask, .int .i64 l.cost]) U1 := by rw [hU1]; exact Kept.box (((Box.made_at _ _ _ rfl).over _).over _)
  have HX2 : Kept (w.heap.size + 1) (w.heap.size + 1 + 1) (BoxK (w.heap.size + 1) 29 #[.int .i64 k.age, .int .i64 k.options, .int .i64 k.typ, .int .i64 k.id, .int .i64 k.adv, .int .i64 k.seq, .slice A2 n2 c2, .slice B2 m2 d2, .int .i64 k.mask, .int .i64 k.cost]) U1 := by rw [hU1]; exact Kept.box ((Box.made_at _ _ _ (by simp <;> omega)).over _)
  have HX3 : Kept (w.heap.size + 1 + 1) (w.heap.size + 1 + 1 + 1) (BoxK (w.heap.size + 1 + 1) 49 #[.int .i64 0, .int .i64 0]) U1 := by rw [hU1]; exact Kept.box (Box.made_at _ _ _ (by simp <;> omega))
  replace HL := HL.below hb
  replace HK := HK.below hb
  replace HB := Lib.hid (below_step HB.out hb)
  clear hb
  have Z1 := zz; clear zz
  clear hU1
  refine (specFault_any l q lo hi A B n c m d _ HL.lsa.in_ HL.le hn hm).mono ?_
  rw [HF.out]
  rintro e w2 ⟨rfl, hb⟩
  have Z2 := Lib.hid hb.size
  replace HL := HL.below hb
  replace HK := HK.below hb
  replace HX1 := HX1.below hb
  replace HX2 := HX2.below hb
  replace HX3 := HX3.below hb
  replace HB := Lib.hid (below_step HB.out hb)
  clear hb
  have c2_0 := HX2.look 0
  have c2_1 := HX2.look 1
  have c2_2 := HX2.look 2
  have c2_3 := HX2.look 3
  have c2_4 := HX2.look 4
  have c2_5 := HX2.look 5
  have c2_6 := HX2.look 6
  have c2_7 := HX2.look 7
  have c2_8 := HX2.look 8
  have c2_9 := HX2.look 9
  have l2_0 := HX1.bx.lt
  have l2_1 := HX2.bx.lt
  have l2_2 := HX3.bx.lt
  go_wp2_with fail
  clear c2_0 c2_1 c2_2 c2_3 c2_4 c2_5 c2_6 c2_7 c2_8 c2_9 l2_0 l2_1 l2_2
  refine (specFault_any k q2 lo2 hi2 A2 B2 n2 c2 m2 d2 _ HK.lsa.in_ HK.le hn2 hm2).mono ?_
  rw [HG.out]
  rintro e w3 ⟨rfl, hb⟩
  have Z3 := Lib.hid hb.size
  replace HL := HL.below hb
  replace HK := HK.below hb
  replace HX1 := HX1.below hb
  replace HX2 := HX2.below hb
  replace HX3 := HX3.below hb
  replace HB := Lib.hid (below_step HB.out hb)
  clear hb
  have c3_0 := HX1.look 2
  have c3_1 := HX1.look 3
  have c3_2 := HX1.look 4
  have c3_3 := HX2.look 2
  have c3_4 := HX2.look 3
  have c3_5 := HX2.look 4
  have l3_0 := HX1.bx.lt
  have l3_1 := HX2.bx.lt
  have l3_2 := HX3.bx.lt
  go_wp2_with fail
  clear c3_0 c3_1 c3_2 c3_3 c3_4 c3_5 l3_0 l3_1 l3_2
  refine (l3Compare_any l q lo hi A B n c m d k q2 lo2 hi2 A2 B2 n2 c2 m2 d2 _ _ _ HX1.bx HL.lsa HX2.bx HK.lsa HC.out).mono ?_
  rw [HO.out]
  rintro e w4 ⟨rfl, hb⟩
  have Z4 := Lib.hid hb.size
  replace HL := HL.below hb
  replace HK := HK.below hb
  replace HX1 := HX1.below hb
  replace HX2 := HX2.below hb
  replace HX3 := HX3.below hb
  replace HB := Lib.hid (below_step HB.out hb)
  clear hb
  have c4_0 := HX3.look 0
  have c4_1 := HX3.look 1
  have f4_0 := HX3.free 0
  have f4_1 := HX3.free 1
  have l4_0 := HX1.bx.lt
  have l4_1 := HX2.bx.lt
  have l4_2 := HX3.bx.lt
  go_wp2
  clear c4_0 c4_1 f4_0 f4_1 l4_0 l4_1 l4_2
  obtain ⟨U5, hU5⟩ : ∃ W : World, W = ((w4.setCell ⟨w.heap.size + 1 + 1, 0, none⟩ (.int .i64 0)).setCell ⟨w.heap.size + 1 + 1, 1, none⟩ (.int .i64 v)) := ⟨_, rfl⟩
  have ho : Only (w.heap.size + 1 + 1) (w.heap.size + 1 + 1 + 1) w4 U5 := by rw [hU5]; exact (((Only.refl _ _ _).set (p := ⟨w.heap.size + 1 + 1, 0, none⟩) (Nat.le_refl _) (Nat.lt_succ_self _) _).set (p := ⟨w.heap.size + 1 + 1, 1, none⟩) (Nat.le_refl _) (Nat.lt_succ_self _) _)
  replace HX3 : Kept (w.heap.size + 1 + 1) (w.heap.size + 1 + 1 + 1) (BoxK (w.heap.size + 1 + 1) 49 #[.int .i64 0, .int .i64 v]) U5 := by rw [hU5]; exact Kept.box ((HX3.bx.puts 0 (.int .i64 0) (cs' := #[.int .i64 0, .int .i64 0]) rfl).puts 1 (.int .i64 v) (cs' := #[.int .i64 0, .int .i64 v]) rfl)
  replace HL := HL.only ho (by have := Z0.out; have := Z00.out; have := Z1.out; have := Z2.out; have := Z3.out; have := Z4.out; omega)
  replace HK := HK.only ho (by have := Z0.out; have := Z00.out; have := Z1.out; have := Z2.out; have := Z3.out; have := Z4.out; omega)
  replace HX1 := HX1.only ho (by have := Z0.out; have := Z00.out; have := Z1.out; have := Z2.out; have := Z3.out; have := Z4.out; omega)
  replace HX2 := HX2.only ho (by have := Z0.out; have := Z00.out; have := Z1.out; have := Z2.out; have := Z3.out; have := Z4.out; omega)
  replace HB := Lib.hid (Below.only HB.out ho (by have := Z0.out; have := Z00.out; have := Z1.out; have := Z2.out; have := Z3.out; have := Z4.out; omega) HB.out.size)
  have Z5 := Lib.hid ho.size; clear ho
  have q_0 := HX3.look 0
  have q_1 := HX3.look 1
  subst hU5
  exact bodyPost_ret (v := .agg #[.int .i64 0, .int .i64 v]) (by simp [results, Try.results31, go_sem, q_0, q_1]) rfl ⟨by rw [HC.out, HO.out], HB.out⟩

theorem specCompare_any (l : LsaM) (q : Bool) (lo hi : Nat) (A B : Option Addr) (n c m d : Nat) (k : LsaM) (q2 : Bool) (lo2 hi2 : Nat) (A2 B2 : Option Addr) (n2 c2 m2 d2 : Nat) (w : World) (hl : LsaAt q lo hi w A n B m l) (hn : n ≤ 1048576) (hm : m ≤ 1048576) (hk : LsaAt q2 lo2 hi2 w A2 n2 B2 m2 k) (hn2 : n2 ≤ 1048576) (hm2 : m2 ≤ 1048576) :
    Calls Try.prog 31 #[.agg (lsaCells l A B n c m d), .agg (lsaCells k A2 B2 n2 c2 m2 d2)] w fun e w' => e = .returned (.agg #[.int .i64 (pairC l k), .int .i64 (ordV l k)]) ∧ Below w.heap.size w w' := by
  by_cases h1 : faultOf l = 0
  · by_cases h2 : faultOf k = 0
    · by_cases h3 : keyB l.typ l.id l.adv k.typ k.id k.adv = false
      · exact specCompare_3 l q lo hi A B n c m d k q2 lo2 hi2 A2 B2 n2 c2 m2 d2 w hl hn hm hk hn2 hm2 h1 h2 h3
      · exact specCompare_4 l q lo hi A B n c m d k q2 lo2 hi2 A2 B2 n2 c2 m2 d2 w hl hn hm hk hn2 hm2 h1 h2 h3
    · exact specCompare_2 l q lo hi A B n c m d k q2 lo2 hi2 A2 B2 n2 c2 m2 d2 w hl hn hm hk hn2 hm2 h1 h2
  · exact specCompare_1 l q lo hi A B n c m d k q2 lo2 hi2 A2 B2 n2 c2 m2 d2 w hl hn hm hk hn2 hm2 h1

/-- Is the first one newer. -/
def newB (l k : LsaM) : Bool := decide (pairC l k = 0) && decide (ordV l k = 1)
theorem eql_ord (a b : Int) (W : World) : (binOp .eql 49 (.agg #[.int .i64 a, .int .i64 b]) (.agg #[.int .i64 0, .int .i64 1])).run Try.prog W = .ok (.bool (decide (a = 0) && decide (b = 1))) W := by
  by_cases h1 : a = 0 <;> by_cases h2 : b = 1 <;> simp [go_sem, h1, h2]
attribute [local go_sem high] eql_ord

set_option maxRecDepth 100000 in
set_option maxHeartbeats 3200000 in
theorem isNewer_any (l : LsaM) (q : Bool) (lo hi : Nat) (A B : Option Addr) (n c m d : Nat) (k : LsaM) (q2 : Bool) (lo2 hi2 : Nat) (A2 B2 : Option Addr) (n2 c2 m2 d2 : Nat) (w : World) (hl : LsaAt q lo hi w A n B m l) (hn : n ≤ 1048576) (hm : m ≤ 1048576) (hk : LsaAt q2 lo2 hi2 w A2 n2 B2 m2 k) (hn2 : n2 ≤ 1048576) (hm2 : m2 ≤ 1048576) :
    Calls Try.prog 32 #[.agg (lsaCells l A B n c m d), .agg (lsaCells k A2 B2 n2 c2 m2 d2)] w fun e w' => e = .returned (.bool (newB l k)) ∧ Below w.heap.size w w' := by
  have HB := Lib.hid (Below.refl w.heap.size w)
  have HL := hl.kept
  have Z0 := Lib.hid hl.le
  clear hl
  have HK := hk.kept
  have Z00 := Lib.hid hk.le
  clear hk
  obtain ⟨p, hp⟩ : ∃ z, pairC l k = z := ⟨_, rfl⟩
  obtain ⟨v, hv⟩ : ∃ z, ordV l k = z := ⟨_, rfl⟩
  have HN : Hid (newB l k = (decide (p = 0) && decide (v = 1))) := Lib.hid (by unfold newB; rw [hp, hv])
  have HP := Lib.hid hp
  have HV := Lib.hid hv
  clear hp hv
  go_enter Try.func32, Try.ntmps32
  go_wp2_with fail
  refine Calls.name ?_
  intro U1 hU1
  have hb : Below w.heap.size w U1 := by rw [hU1]; exact (((Below.refl _ _).alloc (Nat.le_refl _) _).alloc (by simp <;> omega) _)
  have zz : Hid (w.heap.size + 2 = U1.heap.size) := Lib.hid (by rw [hU1]; simp)
  have HX1 : Kept w.heap.size (w.heap.size + 1) (BoxK w.heap.size 29 #[.int .i64 l.age, .int .i64 l.options, .int .i64 l.typ, .int .i64 l.id, .int .i64 l.adv, .int .i64 l.seq, .slice A n c, .slice B m d, .int .i64 l.mask, .int .i64 l.cost]) U1 := by rw [hU1]; exact Kept.box ((Box.made_at _ _ _ rfl).over _)
  have HX2 : Kept (w.heap.size + 1) (w.heap.size + 1 + 1) (BoxK (w.heap.size + 1) 29 #[.int .i64 k.age, .int .i64 k.options, .int .i64 k.typ, .int .i64 k.id, .int .i64 k.adv, .int .i64 k.seq, .slice A2 n2 c2, .slice B2 m2 d2, .int .i64 k.mask, .int .i64 k.cost]) U1 := by rw [hU1]; exact Kept.box (Box.made_at _ _ _ (by simp <;> omega))
  replace HL := HL.below hb
  replace HK := HK.below hb
  replace HB := Lib.hid (below_step HB.out hb)
  clear hb
  have Z1 := zz; clear zz
  clear hU1
  refine (compareLsas_any l q lo hi A B n c m d k q2 lo2 hi2 A2 B2 n2 c2 m2 d2 _ HL.lsa hn hm HK.lsa hn2 hm2).mono ?_
  rw [HP.out, HV.out]
  rintro e w2 ⟨rfl, hb⟩
  have Z2 := Lib.hid hb.size
  replace HL := HL.below hb
  replace HK := HK.below hb
  replace HX1 := HX1.below hb
  replace HX2 := HX2.below hb
  replace HB := Lib.hid (below_step HB.out hb)
  clear hb
  have l2_0 := HX1.bx.lt
  have l2_1 := HX2.bx.lt
  go_wp2
  clear l2_0 l2_1
  go_ret
  exact ⟨ret_bool (by first | rw [HN.out] | (rw [HN.out]; rfl)), HB.out⟩

set_option maxRecDepth 100000 in
set_option maxHeartbeats 3200000 in
theorem specIsNewer_0 (l : LsaM) (q : Bool) (lo hi : Nat) (A B : Option Addr) (n c m d : Nat) (k : LsaM) (q2 : Bool) (lo2 hi2 : Nat) (A2 B2 : Option Addr) (n2 c2 m2 d2 : Nat) (w : World) (hl : LsaAt q lo hi w A n B m l) (hn : n ≤ 1048576) (hm : m ≤ 1048576) (hk : LsaAt q2 lo2 hi2 w A2 n2 B2 m2 k) (hn2 : n2 ≤ 1048576) (hm2 : m2 ≤ 1048576) (hp : ¬ pairC l k = 0) :
    Calls Try.prog 50 #[.agg (lsaCells l A B n c m d), .agg (lsaCells k A2 B2 n2 c2 m2 d2)] w fun e w' => e = .returned (.bool (newB l k)) ∧ Below w.heap.size w w' := by
  have HB := Lib.hid (Below.refl w.heap.size w)
  have HL := hl.kept
  have Z0 := Lib.hid hl.le
  clear hl
  have HK := hk.kept
  have Z00 := Lib.hid hk.le
  clear hk
  obtain ⟨v, hv⟩ : ∃ z, ordV l k = z := ⟨_, rfl⟩
  have HN : Hid (newB l k = false) := Lib.hid (by unfold newB; rw [decide_eq_false hp]; rfl)
  obtain ⟨p, hq⟩ : ∃ z, pairC l k = z := ⟨_, rfl⟩
  rw [hq] at hp
  have hb1 : (p == 0) = false := by simpa using hp
  have HP := Lib.hid hq
  have HV := Lib.hid hv
  clear hp hq hv
  go_enter Try.func50, Try.ntmps50
  go_wp2_with fail
  refine Calls.name ?_
  intro U1 hU1
  have hb : Below w.heap.size w U1 := by rw [hU1]; exact (((Below.refl _ _).alloc (Nat.le_refl _) _).alloc (by simp <;> omega) _)
  have zz : Hid (w.heap.size + 2 = U1.heap.size) := Lib.hid (by rw [hU1]; simp)
  have HX1 : Kept w.heap.size (w.heap.size + 1) (BoxK w.heap.size 29 #[.int .i64 l.age, .int .i64 l.options, .int .i64 l.typ, .int .i64 l.id, .int .i64 l.adv, .int .i64 l.seq, .slice A n c, .slice B m d, .int .i64 l.mask, .int .i64 l.cost]) U1 := by rw [hU1]; exact Kept.box ((Box.made_at _ _ _ rfl).over _)
  have HX2 : Kept (w.heap.size + 1) (w.heap.size + 1 + 1) (BoxK (w.heap.size + 1) 29 #[.int .i64 k.age, .int .i64 k.options, .int .i64 k.typ, .int .i64 k.id, .int .i64 k.adv, .int .i64 k.seq, .slice A2 n2 c2, .slice B2 m2 d2, .int .i64 k.mask, .int .i64 k.cost]) U1 := by rw [hU1]; exact Kept.box (Box.made_at _ _ _ (by simp <;> omega))
  replace HL := HL.below hb
  replace HK := HK.below hb
  replace HB := Lib.hid (below_step HB.out hb)
  clear hb
  have Z1 := zz; clear zz
  clear hU1
  refine (specCompare_any l q lo hi A B n c m d k q2 lo2 hi2 A2 B2 n2 c2 m2 d2 _ HL.lsa hn hm HK.lsa hn2 hm2).mono ?_
  rw [HP.out, HV.out]
  rintro e w2 ⟨rfl, hb⟩
  have Z2 := Lib.hid hb.size
  replace HL := HL.below hb
  replace HK := HK.below hb
  replace HX1 := HX1.below hb
  replace HX2 := HX2.below hb
  replace HB := Lib.hid (below_step HB.out hb)
  clear hb
  have l2_0 := HX1.bx.lt
  have l2_1 := HX2.bx.lt
  go_wp2
  clear l2_0 l2_1
  obtain ⟨U3, hU3⟩ : ∃ W : World, W = (w2.alloc (.cells #[.int .i64 p, .int .i64 v] 49)) := ⟨_, rfl⟩
  have hb : Below w2.heap.size w2 U3 := by rw [hU3]; exact ((Below.refl _ _).alloc (Nat.le_refl _) _)
  have zz : Hid (w2.heap.size + 1 = U3.heap.size) := Lib.hid (by rw [hU3]; simp)
  have HX3 : Kept w2.heap.size (w2.heap.size + 1) (BoxK w2.heap.size 49 #[.int .i64 p, .int .i64 v]) U3 := by rw [hU3]; exact Kept.box (Box.made_at _ _ _ rfl)
  replace HL := HL.below hb
  replace HK := HK.below hb
  replace HX1 := HX1.below hb
  replace HX2 := HX2.below hb
  replace HB := Lib.hid (below_step HB.out hb)
  clear hb
  have Z3 := zz; clear zz
  subst hU3
  go_ret
  exact ⟨ret_bool (by first | rw [HN.out] | (rw [HN.out]; rfl)), HB.out⟩

set_option maxRecDepth 100000 in
set_option maxHeartbeats 3200000 in
theorem specIsNewer_1 (l : LsaM) (q : Bool) (lo hi : Nat) (A B : Option Addr) (n c m d : Nat) (k : LsaM) (q2 : Bool) (lo2 hi2 : Nat) (A2 B2 : Option Addr) (n2 c2 m2 d2 : Nat) (w : World) (hl : LsaAt q lo hi w A n B m l) (hn : n ≤ 1048576) (hm : m ≤ 1048576) (hk : LsaAt q2 lo2 hi2 w A2 n2 B2 m2 k) (hn2 : n2 ≤ 1048576) (hm2 : m2 ≤ 1048576) (hp : pairC l k = 0) :
    Calls Try.prog 50 #[.agg (lsaCells l A B n c m d), .agg (lsaCells k A2 B2 n2 c2 m2 d2)] w fun e w' => e = .returned (.bool (newB l k)) ∧ Below w.heap.size w w' := by
  have HB := Lib.hid (Below.refl w.heap.size w)
  have HL := hl.kept
  have Z0 := Lib.hid hl.le
  clear hl
  have HK := hk.kept
  have Z00 := Lib.hid hk.le
  clear hk
  obtain ⟨v, hv⟩ : ∃ z, ordV l k = z := ⟨_, rfl⟩
  have HN : Hid (newB l k = (v == 1)) := Lib.hid (by unfold newB; rw [decide_eq_true hp, hv, Bool.eq_iff_iff]; simp)
  have HP := Lib.hid hp
  have HV := Lib.hid hv
  clear hp hv
  go_enter Try.func50, Try.ntmps50
  go_wp2_with fail
  refine Calls.name ?_
  intro U1 hU1
  have hb : Below w.heap.size w U1 := by rw [hU1]; exact (((Below.refl _ _).alloc (Nat.le_refl _) _).alloc (by simp <;> omega) _)
  have zz : Hid (w.heap.size + 2 = U1.heap.size) := Lib.hid (by rw [hU1]; simp)
  have HX1 : Kept w.heap.size (w.heap.size + 1) (BoxK w.heap.size 29 #[.int .i64 l.age, .int .i64 l.options, .int .i64 l.typ, .int .i64 l.id, .int .i64 l.adv, .int .i64 l.seq, .slice A n c, .slice B m d, .int .i64 l.mask, .int .i64 l.cost]) U1 := by rw [hU1]; exact Kept.box ((Box.made_at _ _ _ rfl).over _)
  have HX2 : Kept (w.heap.size + 1) (w.heap.size + 1 + 1) (BoxK (w.heap.size + 1) 29 #[.int .i64 k.age, .int .i64 k.options, .int .i64 k.typ, .int .i64 k.id, .int .i64 k.adv, .int .i64 k.seq, .slice A2 n2 c2, .slice B2 m2 d2, .int .i64 k.mask, .int .i64 k.cost]) U1 := by rw [hU1]; exact Kept.box (Box.made_at _ _ _ (by simp <;> omega))
  replace HL := HL.below hb
  replace HK := HK.below hb
  replace HB := Lib.hid (below_step HB.out hb)
  clear hb
  have Z1 := zz; clear zz
  clear hU1
  refine (specCompare_any l q lo hi A B n c m d k q2 lo2 hi2 A2 B2 n2 c2 m2 d2 _ HL.lsa hn hm HK.lsa hn2 hm2).mono ?_
  rw [HP.out, HV.out]
  rintro e w2 ⟨rfl, hb⟩
  have Z2 := Lib.hid hb.size
  replace HL := HL.below hb
  replace HK := HK.below hb
  replace HX1 := HX1.below hb
  replace HX2 := HX2.below hb
  replace HB := Lib.hid (below_step HB.out hb)
  clear hb
  have l2_0 := HX1.bx.lt
  have l2_1 := HX2.bx.lt
  go_wp2
  clear l2_0 l2_1
  obtain ⟨U3, hU3⟩ : ∃ W : World, W = (w2.alloc (.cells #[.int .i64 0, .int .i64 v] 49)) := ⟨_, rfl⟩
  have hb : Below w2.heap.size w2 U3 := by rw [hU3]; exact ((Below.refl _ _).alloc (Nat.le_refl _) _)
  have zz : Hid (w2.heap.size + 1 = U3.heap.size) := Lib.hid (by rw [hU3]; simp)
  have HX3 : Kept w2.heap.size (w2.heap.size + 1) (BoxK w2.heap.size 49 #[.int .i64 0, .int .i64 v]) U3 := by rw [hU3]; exact Kept.box (Box.made_at _ _ _ rfl)
  replace HL := HL.below hb
  replace HK := HK.below hb
  replace HX1 := HX1.below hb
  replace HX2 := HX2.below hb
  replace HB := Lib.hid (below_step HB.out hb)
  clear hb
  have Z3 := zz; clear zz
  subst hU3
  go_ret
  exact ⟨ret_bool (by first | rw [HN.out] | (rw [HN.out]; rfl)), HB.out⟩

theorem specIsNewer_any (l : LsaM) (q : Bool) (lo hi : Nat) (A B : Option Addr) (n c m d : Nat) (k : LsaM) (q2 : Bool) (lo2 hi2 : Nat) (A2 B2 : Option Addr) (n2 c2 m2 d2 : Nat) (w : World) (hl : LsaAt q lo hi w A n B m l) (hn : n ≤ 1048576) (hm : m ≤ 1048576) (hk : LsaAt q2 lo2 hi2 w A2 n2 B2 m2 k) (hn2 : n2 ≤ 1048576) (hm2 : m2 ≤ 1048576) :
    Calls Try.prog 50 #[.agg (lsaCells l A B n c m d), .agg (lsaCells k A2 B2 n2 c2 m2 d2)] w fun e w' => e = .returned (.bool (newB l k)) ∧ Below w.heap.size w w' := by
  by_cases hp : pairC l k = 0
  · exact specIsNewer_1 l q lo hi A B n c m d k q2 lo2 hi2 A2 B2 n2 c2 m2 d2 w hl hn hm hk hn2 hm2 hp
  · exact specIsNewer_0 l q lo hi A B n c m d k q2 lo2 hi2 A2 B2 n2 c2 m2 d2 w hl hn hm hk hn2 hm2 hp

theorem eqOrderResult_yes (code v : Int) (w : World) :
    Calls Try.prog 48 #[.agg #[.int .i64 code, .int .i64 v], .agg #[.int .i64 code, .int .i64 v]] w fun e w' => e = .returned (.bool true) ∧ Below w.heap.size w w' := by
  go_enter Try.func48, Try.ntmps48
  go_wp2
  go_ret
  exact ⟨rfl, ((Below.refl _ _).alloc (Nat.le_refl _) _).alloc (by simp) _⟩


end Go.Proofs.Ytamclkjofojhmaa

namespace Go.Proofs.Ytamclkjofojhmaa
open Go.RowKit
set_option linter.unusedVariables false

theorem fault_with (l : LsaM) (s t : Int) (h : faultOf l = 0) (hs : -2147483647 ≤ s ∧ s ≤ 2147483647) (ht : 0 ≤ t ∧ t ≤ 3600) : faultOf { l with seq := s, age := t } = 0 := by
  unfold faultOf at h
  split at h
  · cases h
  rename_i h1
  split at h
  · cases h
  rename_i h2
  split at h
  · cases h
  rename_i h3
  have h2' : (allIn 0 3600 [l.age] && allIn 0 255 [l.options] && idIn l.id && idIn l.adv && allIn (-2147483647) 2147483647 [l.seq] && idIn l.mask && allIn 0 16777215 [l.cost]) = true := by
    rwa [Bool.not_eq_false] at h2
  simp only [Bool.and_eq_true] at h2'
  obtain ⟨⟨⟨⟨⟨⟨_, a2⟩, a3⟩, a4⟩, _⟩, a6⟩, a7⟩ := h2'
  unfold faultOf
  rw [if_neg h1, if_neg (by rw [allIn_one_yes ht.1 ht.2, a2, a3, a4, allIn_one_yes hs.1 hs.2, a6, a7]; decide), if_neg h3]
  exact h
theorem fault_seq (l : LsaM) (s : Int) (h : faultOf l = 0) (hs : -2147483647 ≤ s ∧ s ≤ 2147483647) : faultOf { l with seq := s } = 0 := fault_with l s l.age h hs (sound_of l h).age
theorem fault_age (l : LsaM) (t : Int) (h : faultOf l = 0) (ht : 0 ≤ t ∧ t ≤ 3600) : faultOf { l with age := t } = 0 := fault_with l l.seq t h (sound_of l h).seq ht

theorem age_fault (l : LsaM) (t : Int) (h : ageC l t = 0) : faultOf l = 0 ∧ 0 ≤ t ∧ faultOf (ageM l t) = 0 ∧ l.age ≤ (ageM l t).age := by
  have h1 : faultOf l = 0 := by
    by_cases e : faultOf l = 0
    · exact e
    · rw [ageC_1 e] at h; exact absurd h e
  have h2 : ¬ t < 0 := fun e => by rw [ageC_2 h1 e] at h; cases h
  have hs := (sound_of l h1).age
  refine ⟨h1, by omega, ?_, ?_⟩
  · rw [ageM_yes h]; exact fault_age l _ h1 (by omega)
  · rw [ageM_yes h]; show l.age ≤ min (l.age + min t 3600) 3600; omega
theorem age_parts (l : LsaM) (t p : Int) (h : ageC l t = 0) (h0 : 0 ≤ p) (h1 : p ≤ t) : ageC l p = 0 ∧ ageC (ageM l p) (t - p) = 0 ∧ ageM (ageM l p) (t - p) = ageM l t := by
  obtain ⟨hf, ht, _, _⟩ := age_fault l t h
  have hs := (sound_of l hf).age
  have e1 : ageC l p = 0 := ageC_3 hf (by omega)
  obtain ⟨_, _, hf2, _⟩ := age_fault l p e1
  have e2 : ageC (ageM l p) (t - p) = 0 := ageC_3 hf2 (by omega)
  refine ⟨e1, e2, ?_⟩
  rw [ageM_yes e2, ageM_yes e1, ageM_yes h]
  show ({ l with age := min (min (l.age + min p 3600) 3600 + min (t - p) 3600) 3600 } : LsaM) = { l with age := min (l.age + min t 3600) 3600 }
  rw [show min (min (l.age + min p 3600) 3600 + min (t - p) 3600) 3600 = min (l.age + min t 3600) 3600 by omega]

end Go.Proofs.Ytamclkjofojhmaa

namespace Go.Proofs.Ytamclkjofojhmaa
open Go.RowKit
set_option linter.unusedVariables false

theorem rawN_age (l : LsaM) (t : Int) : (rawN { l with age := t }).drop 2 = (rawN l).drop 2 := by
  have key : ∀ k : LsaM, (rawN k).drop 2 = packAll (headW k).tail ++ bodyN k := by
    intro k
    have e : rawN k = packN k.age 2 ++ (packAll (headW k).tail ++ bodyN k) := by
      unfold rawN headN headW packAll
      simp [List.append_assoc]
    rw [e, List.drop_append_of_le_length (by rw [packN_len]; omega), List.drop_of_length_le (by rw [packN_len]; omega), List.nil_append]
  rw [key, key]
  rfl
theorem encN_tail (l : LsaM) : (encN l).drop 16 = (sealN ((rawN l).drop 2) 14).drop 14 := by
  have h : ((rawN l).take 2).length = 2 := by rw [List.length_take, rawN_len]; omega
  unfold encN
  rw [List.drop_append, h, List.drop_of_length_le (by omega), List.nil_append]
theorem sumV_age (l : LsaM) (t : Int) (h : faultOf l = 0) (ht : 0 ≤ t ∧ t ≤ 3600) : sumV { l with age := t } = sumV l := by
  unfold sumV
  rw [if_pos (fault_age l t h ht), if_pos h, encN_tail, encN_tail, rawN_age]

theorem keyB_comm (a b c x y z : Int) : keyB a b c x y z = keyB x y z a b c := by
  unfold keyB
  rw [show decide (a = x) = decide (x = a) from decide_eq_decide.2 eq_comm, show decide (b = y) = decide (y = b) from decide_eq_decide.2 eq_comm, show decide (c = z) = decide (z = c) from decide_eq_decide.2 eq_comm]
theorem keyB_self (a b c : Int) : keyB a b c a b c = true := by simp [keyB]
theorem pairC_comm {a b : LsaM} (h : pairC a b = 0) : pairC b a = 0 := by
  obtain ⟨h1, h2, h3⟩ := pairC_sound h
  refine pairC_4 h2 h1 ?_
  rw [keyB_comm, h3]; decide
theorem pairC_self {a : LsaM} (h : faultOf a = 0) : pairC a a = 0 := pairC_4 h h (by rw [keyB_self]; decide)
theorem cmpI_anti (x y : Int) : cmpI y x = - cmpI x y := by unfold cmpI; split <;> split <;> first | omega | (split <;> omega) | simp
theorem allIn_anti (x y : Int) : allIn (-900) 900 [x - y] = allIn (-900) 900 [y - x] := by
  by_cases h : -900 ≤ x - y ∧ x - y ≤ 900
  · rw [allIn_one_yes h.1 h.2, allIn_one_yes (by omega) (by omega)]
  · rw [allIn_one_no h, allIn_one_no (by omega)]
theorem ordV_anti {a b : LsaM} (h : pairC a b = 0) : ordV a b + ordV b a = 0 := by
  have h' := pairC_comm h
  have c1 := cmpI_anti a.seq b.seq
  have c2 := cmpI_anti (sumV a) (sumV b)
  have c3 := cmpI_anti a.age b.age
  by_cases e1 : cmpI a.seq b.seq = 0
  · by_cases e2 : cmpI (sumV a) (sumV b) = 0
    · by_cases e3 : oldB a = oldB b
      · by_cases e4 : allIn (-900) 900 [a.age - b.age] = false
        · rw [ordV_4 h e1 e2 e3 e4, ordV_4 h' (by omega) (by omega) e3.symm (by rw [allIn_anti]; exact e4)]; omega
        · rw [ordV_5 h e1 e2 e3 e4, ordV_5 h' (by omega) (by omega) e3.symm (by rw [allIn_anti]; exact e4)]; rfl
      · rw [ordV_3 h e1 e2 e3, ordV_3 h' (by omega) (by omega) (fun e => e3 e.symm)]; omega
    · rw [ordV_2 h e1 e2, ordV_2 h' (by omega) (by omega)]; omega
  · rw [ordV_1 h e1, ordV_1 h' (by omega)]; omega
theorem cmpI_bd (x y : Int) : -1 ≤ cmpI x y ∧ cmpI x y ≤ 1 := by unfold cmpI; split <;> first | omega | (split <;> omega)
theorem ordV_bd (a b : LsaM) : -1 ≤ ordV a b ∧ ordV a b ≤ 1 := by
  unfold ordV
  split
  · omega
  split
  · exact cmpI_bd _ _
  split
  · exact cmpI_bd _ _
  split
  · exact cmpI_bd _ _
  split
  · exact cmpI_bd _ _
  · omega
theorem newB_eq {a b : LsaM} (h : pairC a b = 0) : newB a b = (ordV a b == 1) := by
  unfold newB
  rw [decide_eq_true h, Bool.true_and]
  rfl
theorem newB_no {a b : LsaM} (h : ¬ pairC a b = 0) : newB a b = false := by
  unfold newB
  rw [decide_eq_false h, Bool.false_and]
theorem pairC_iff {a b : LsaM} (h : ¬ pairC a b = 0) : ¬ pairC b a = 0 := fun e => h (pairC_comm e)
theorem flush_is {a : LsaM} (h : faultOf a = 0) : ageC a 3600 = 0 ∧ ageM a 3600 = { a with age := 3600 } := by
  have e := ageC_3 (t := 3600) h (by omega)
  have hs := (sound_of a h).age
  refine ⟨e, ?_⟩
  rw [ageM_yes e, show min (a.age + min 3600 3600) 3600 = 3600 by omega]
theorem ordV_self {a : LsaM} (h : faultOf a = 0) : ordV a a = 0 := by have := ordV_anti (pairC_self h); omega

theorem new_seq (a : LsaM) (h : faultOf a = 0) (s : Int) (h1 : a.seq < s) (h2 : s ≤ 2147483647) : newB { a with seq := s } a = true := by
  have hs := (sound_of a h).seq
  have hf := fault_seq a s h (by omega)
  have hp : pairC { a with seq := s } a = 0 := pairC_4 hf h (by show ¬ keyB a.typ a.id a.adv a.typ a.id a.adv = false; rw [keyB_self]; decide)
  have hc : cmpI s a.seq = 1 := cmpI_gt h1
  have ho : ordV { a with seq := s } a = 1 := (ordV_1 hp (by show ¬ cmpI s a.seq = 0; omega)).trans hc
  unfold newB
  rw [hp, ho]; decide
theorem new_old (a : LsaM) (h : faultOf a = 0) (h1 : a.age ≠ 3600) : newB { a with age := 3600 } a = true := by
  have hs := (sound_of a h).age
  have hf := fault_age a 3600 h (by omega)
  have hp : pairC { a with age := 3600 } a = 0 := pairC_4 hf h (by show ¬ keyB a.typ a.id a.adv a.typ a.id a.adv = false; rw [keyB_self]; decide)
  have hc : cmpI 3600 a.age = 1 := cmpI_gt (by omega)
  have ho : ordV { a with age := 3600 } a = 1 := by
    refine (ordV_3 hp (cmpI_eq.2 rfl) (cmpI_eq.2 (sumV_age a 3600 h (by omega))) ?_).trans hc
    show ¬ decide ((3600 : Int) = 3600) = decide (a.age = 3600)
    rw [decide_eq_false h1]; decide
  unfold newB
  rw [hp, ho]; decide

theorem seqV_of {a : Int} (h : seqC a = 0) : seqV a = a + 1 ∧ a + 1 ≤ 2147483647 := by
  unfold seqC at h
  split at h
  · cases h
  rename_i h1
  split at h
  · cases h
  rename_i h2
  refine ⟨by unfold seqV; rw [if_neg h1, if_neg h2], ?_⟩
  by_cases h3 : -2147483647 ≤ a ∧ a ≤ 2147483647
  · omega
  · rw [allIn_one_no h3] at h1; exact absurd rfl h1

end Go.Proofs.Ytamclkjofojhmaa

namespace Go.Proofs.Ytamclkjofojhmaa
open Go.RowKit

theorem lwSame_yes (A B : Option Addr) (n m c d : Nat) (xs : List Int) (w : World) (ha : BIn w A n xs) (hb : BIn w B m xs) :
    Calls Try.prog 25 #[.slice A n c, .slice B m d] w fun e w' => e = .returned (.bool true) ∧ w' = w := by
  have e1 := bytes_text (c := c) ha
  have e2 := bytes_text (c := d) hb
  clear ha hb
  go_enter Try.func25, Try.ntmps25
  go_wp2
  go_ret
  exact ⟨ret_bool (by simp), rfl⟩

theorem lwSame_any (A B : Option Addr) (n m c d : Nat) (xs ys : List Int) (w : World) (ha : BIn w A n xs) (hb : BIn w B m ys) (hx : Bytes xs) (hy : Bytes ys) :
    Calls Try.prog 25 #[.slice A n c, .slice B m d] w fun e w' => e = .returned (.bool (decide (xs = ys))) ∧ w' = w := by
  have e1 := bytes_text (c := c) ha
  have e2 := bytes_text (c := d) hb
  clear ha hb
  go_enter Try.func25, Try.ntmps25
  go_wp2
  go_ret
  exact ⟨ret_bool (same_dec hx hy), rfl⟩

theorem lwBig_no (A : Option Addr) (n c : Nat) (w : World) (hn : n ≤ 1048576) :
    Calls Try.prog 12 #[.slice A n c] w fun e w' => e = .returned (.bool false) ∧ w' = w := by
  have h1 : ¬ (1048576 : Int) < n := by omega
  go_enter Try.func12, Try.ntmps12
  go_wp2
  go_ret
  exact ⟨rfl, rfl⟩

theorem modlt (x m : Int) (h : 0 < m) : 0 ≤ x % m ∧ x % m < m := ⟨Int.emod_nonneg _ (by omega), Int.emod_lt_of_pos _ h⟩

set_option maxHeartbeats 800000 in
/-- lwAt: a place below m, for a choice i that is small. -/
theorem lwAt_any (A : Option Addr) (n c : Nat) (cs : List Int) (i m : Nat) (w : World) (ha : BIn w A n cs) (hb : Bytes cs) (hn : n ≤ 1048576) (hi : i ≤ 1000) (hm0 : 0 < m) (hm : m ≤ 1000000) :
    Calls Try.prog 26 #[.slice A n c, .int .i64 i, .int .i64 m] w fun e w' => ∃ v : Int, e = .returned (.int .i64 v) ∧ (0 ≤ v ∧ v < m) ∧ ∃ k, w' = w.drewN k := by
  by_cases h1 : m ≤ 1
  · have h1' : (m : Int) ≤ 1 := by omega
    have HM : Hid (0 < m) := hm0
    go_enter Try.func26, Try.ntmps26
    go_wp2
    go_ret
    exact ⟨0, rfl, ⟨by omega, by have := HM.out; omega⟩, 0, rfl⟩
  · have h1' : ¬ (m : Int) ≤ 1 := by omega
    have hmp : (0 : Int) < m := by omega
    by_cases h0 : n = 0
    · subst h0
      clear ha
      go_enter Try.func26, Try.ntmps26
      go_wp2
      go_ret
      exact ⟨_, rfl, modlt _ _ hmp, 0, rfl⟩
    · have hnp : 0 < n := by omega
      obtain ⟨b, o, rfl, hcell⟩ := ha.2 hnp
      obtain ⟨j0, hj0, hl0⟩ := tmod_nat i n hnp
      obtain ⟨j1, hj1, hl1⟩ := tmod_nat (i + 1) n hnp
      have hj1 : ((i : Int) + 1).tmod (n : Int) = (j1 : Int) := hj1
      obtain ⟨q, hq, hq0⟩ := tdiv_nat i n
      have d0 := hcell j0 hl0
      have d1 := hcell j1 hl1
      have b0 := hb.at_ j0
      have b1 := hb.at_ j1
      obtain ⟨z0, hz0⟩ : ∃ z, cs.getD j0 0 = z := ⟨_, rfl⟩
      obtain ⟨z1, hz1⟩ : ∃ z, cs.getD j1 0 = z := ⟨_, rfl⟩
      rw [hz0] at d0 b0
      rw [hz1] at d1 b1
      obtain ⟨b00, b01⟩ := b0
      obtain ⟨b10, b11⟩ := b1
      clear hz0 hz1 hcell ha hb
      have i0 : (j0 : Int) < n := by omega
      have i1 : (j1 : Int) < n := by omega
      have hne : ((n : Int) == 0) = false := by simp; omega
      have hnb : (n : Int) ≤ 1048576 := by omega
      have hib : (i : Int) ≤ 1000 := by omega
      have w1 : IntKind.i64.wrap ((i : Int) + 1) = (i : Int) + 1 := IntWalk.i64_in _ (by omega)
      have w3 : IntKind.i64.wrap ((q : Int) * 3) = (q : Int) * 3 := IntWalk.i64_in _ (by omega)
      have w4 : IntKind.i64.wrap (z0 + (q : Int) * 3) = z0 + (q : Int) * 3 := IntWalk.i64_in _ (by omega)
      by_cases h2 : m ≤ 200
      · have h2' : ¬ (200 : Int) < m := by omega
        go_enter Try.func26, Try.ntmps26
        go_wp2
        go_quiet (fail)
        go_wp2
        go_ret
        exact ⟨_, rfl, modlt _ _ hmp, _, rfl⟩
      · have h2' : (200 : Int) < m := by omega
        go_enter Try.func26, Try.ntmps26
        go_wp2
        go_quiet (fail)
        go_wp2
        go_ret
        exact ⟨_, rfl, modlt _ _ hmp, _, rfl⟩

theorem lwAt_two (A : Option Addr) (n c : Nat) (cs : List Int) (m : Nat) (w : World) (ha : BIn w A n cs) (hb : Bytes cs) (hn : n ≤ 1048576) (hm0 : 0 < m) (hm : m ≤ 1000000) :
    Calls Try.prog 26 #[.slice A n c, .int .i64 2, .int .i64 m] w fun e w' => ∃ v : Int, e = .returned (.int .i64 v) ∧ (0 ≤ v ∧ v < m) ∧ ∃ k, w' = w.drewN k :=
  lwAt_any A n c cs 2 m w ha hb hn (by omega) hm0 hm
theorem lwAt_three (A : Option Addr) (n c : Nat) (cs : List Int) (w : World) (ha : BIn w A n cs) (hb : Bytes cs) (hn : n ≤ 1048576) :
    Calls Try.prog 26 #[.slice A n c, .int .i64 3, .int .i64 8] w fun e w' => ∃ v : Int, e = .returned (.int .i64 v) ∧ (0 ≤ v ∧ v < 8) ∧ ∃ k, w' = w.drewN k :=
  lwAt_any A n c cs 3 8 w ha hb hn (by omega) (by omega) (by omega)

end Go.Proofs.Ytamclkjofojhmaa

namespace Go.Proofs.Ytamclkjofojhmaa
open Go.RowKit
set_option linter.unusedVariables false

set_option maxRecDepth 100000 in
set_option maxHeartbeats 6400000 in
theorem drawCompare_any (A0 : Option Addr) (n0 c0 : Nat) (cs : List Int) (w : World) (ha : BIn w A0 n0 cs) (hb : Bytes cs) (hn : n0 ≤ 1048576) :
    Calls Try.prog 27 #[.slice A0 n0 c0] w (TwoOut w) := by
  have HB := Lib.hid (Below.refl w.heap.size w)
  have HD := ha.hold
  have HBY := Lib.hid hb
  clear ha hb
  go_enter Try.func27, Try.ntmps27
  go_wp2_with fail
  refine Calls.name ?_
  intro U1 hU1
  have hb : Below w.heap.size w U1 := by rw [hU1]; exact (((Below.refl _ _).alloc (Nat.le_refl _) _).alloc (by simp <;> omega) _)
  have zz : Hid (w.heap.size + 2 = U1.heap.size) := Lib.hid (by rw [hU1]; simp)
  have HX1 : Kept w.heap.size (w.heap.size + 1) (BoxK w.heap.size 29 #[.int .i64 0, .int .i64 0, .int .i64 0, .int .i64 0, .int .i64 0, .int .i64 0, .slice none 0 0, .slice none 0 0, .int .i64 0, .int .i64 0]) U1 := by rw [hU1]; exact Kept.box ((Box.made_at _ _ _ rfl).over _)
  have HX2 : Kept (w.heap.size + 1) (w.heap.size + 1 + 1) (BoxK (w.heap.size + 1) 29 #[.int .i64 0, .int .i64 0, .int .i64 0, .int .i64 0, .int .i64 0, .int .i64 0, .slice none 0 0, .slice none 0 0, .int .i64 0, .int .i64 0]) U1 := by rw [hU1]; exact Kept.box (Box.made_at _ _ _ (by simp <;> omega))
  replace HD := HD.below hb
  replace HB := Lib.hid (below_step HB.out hb)
  clear hb
  have Z1 := zz; clear zz
  clear hU1
  refine (dSource A0 n0 c0 cs _ HD.out HBY.out hn).mono ?_
  rintro e w2 ⟨rfl, hs, hb⟩
  have Z2 := Lib.hid hb.size
  have Y1 := Lib.hid (And.intro Z1.out Z2.out); clear Z1 Z2
  replace HD := HD.below hb
  replace HX1 := HX1.below hb
  replace HX2 := HX2.below hb
  replace HB := Lib.hid (below_step HB.out hb)
  clear hb
  have HS := hs; clear hs
  have Z3 := Lib.hid HS.lt
  have Y2 := Lib.hid (And.intro Y1.out Z3.out); clear Y1 Z3
  have l2_0 := HX1.bx.lt
  have l2_1 := HX2.bx.lt
  go_wp2_with fail
  clear l2_0 l2_1
  refine (l3Pair_any _ A0 n0 c0 cs 0 _ HS.here (by omega)).mono ?_
  rintro e w3 ⟨l, A, B, n, c, m, d, k, A2, B2, n2, c2, m2, d2, rfl, hl, hk, hn1, hm, hn2, hm2, hs⟩
  have ho := hs.fr
  have Z4 := Lib.hid ho.size
  have Y3 := Lib.hid (And.intro Y2.out Z4.out); clear Y2 Z4
  replace HD := HD.only ho (by have := Y3.out; omega)
  replace HX1 := HX1.only ho (by have := Y3.out; omega)
  replace HX2 := HX2.only ho (by have := Y3.out; omega)
  replace HB := Lib.hid (Below.only HB.out ho (by have := Y3.out; omega) HB.out.size)
  replace HS := HS.next hs; clear ho hs
  have HA := hl.kept; clear hl
  have HK := hk.kept; clear hk
  clear HS
  have c3_0 := HX1.look 0
  have c3_1 := HX1.look 1
  have c3_2 := HX1.look 2
  have c3_3 := HX1.look 3
  have c3_4 := HX1.look 4
  have c3_5 := HX1.look 5
  have c3_6 := HX1.look 6
  have c3_7 := HX1.look 7
  have c3_8 := HX1.look 8
  have c3_9 := HX1.look 9
  have c3_10 := HX2.look 0
  have c3_11 := HX2.look 1
  have c3_12 := HX2.look 2
  have c3_13 := HX2.look 3
  have c3_14 := HX2.look 4
  have c3_15 := HX2.look 5
  have c3_16 := HX2.look 6
  have c3_17 := HX2.look 7
  have c3_18 := HX2.look 8
  have c3_19 := HX2.look 9
  have f3_0 := HX1.free 0
  have f3_1 := HX1.free 1
  have f3_2 := HX1.free 2
  have f3_3 := HX1.free 3
  have f3_4 := HX1.free 4
  have f3_5 := HX1.free 5
  have f3_6 := HX1.free 6
  have f3_7 := HX1.free 7
  have f3_8 := HX1.free 8
  have f3_9 := HX1.free 9
  have f3_10 := HX2.free 0
  have f3_11 := HX2.free 1
  have f3_12 := HX2.free 2
  have f3_13 := HX2.free 3
  have f3_14 := HX2.free 4
  have f3_15 := HX2.free 5
  have f3_16 := HX2.free 6
  have f3_17 := HX2.free 7
  have f3_18 := HX2.free 8
  have f3_19 := HX2.free 9
  have l3_0 := HX1.bx.lt
  have l3_1 := HX2.bx.lt
  have n3_0_1 : ¬ w.heap.size = (w.heap.size + 1) := (by have := Y3.out; omega)
  have m3_0_1 : ¬ (w.heap.size + 1) = w.heap.size := (by have := Y3.out; omega)
  go_wp2
  clear c3_0 c3_1 c3_2 c3_3 c3_4 c3_5 c3_6 c3_7 c3_8 c3_9 c3_10 c3_11 c3_12 c3_13 c3_14 c3_15 c3_16 c3_17 c3_18 c3_19 f3_0 f3_1 f3_2 f3_3 f3_4 f3_5 f3_6 f3_7 f3_8 f3_9 f3_10 f3_11 f3_12 f3_13 f3_14 f3_15 f3_16 f3_17 f3_18 f3_19 l3_0 l3_1 n3_0_1 m3_0_1
  obtain ⟨U4, hU4⟩ : ∃ W : World, W = ((((((((((w3.setCell ⟨w.heap.size, 0, none⟩ (.int .i64 l.age)).setCell ⟨w.heap.size, 1, none⟩ (.int .i64 l.options)).setCell ⟨w.heap.size, 2, none⟩ (.int .i64 l.typ)).setCell ⟨w.heap.size, 3, none⟩ (.int .i64 l.id)).setCell ⟨w.heap.size, 4, none⟩ (.int .i64 l.adv)).setCell ⟨w.heap.size, 5, none⟩ (.int .i64 l.seq)).setCell ⟨w.heap.size, 6, none⟩ (.slice A n c)).setCell ⟨w.heap.size, 7, none⟩ (.slice B m d)).setCell ⟨w.heap.size, 8, none⟩ (.int .i64 l.mask)).setCell ⟨w.heap.size, 9, none⟩ (.int .i64 l.cost)) := ⟨_, rfl⟩
  have ho : Only w.heap.size (w.heap.size + 1) w3 U4 := by rw [hU4]; exact (((((((((((Only.refl _ _ _).set (p := ⟨w.heap.size, 0, none⟩) (Nat.le_refl _) (Nat.lt_succ_self _) _).set (p := ⟨w.heap.size, 1, none⟩) (Nat.le_refl _) (Nat.lt_succ_self _) _).set (p := ⟨w.heap.size, 2, none⟩) (Nat.le_refl _) (Nat.lt_succ_self _) _).set (p := ⟨w.heap.size, 3, none⟩) (Nat.le_refl _) (Nat.lt_succ_self _) _).set (p := ⟨w.heap.size, 4, none⟩) (Nat.le_refl _) (Nat.lt_succ_self _) _).set (p := ⟨w.heap.size, 5, none⟩) (Nat.le_refl _) (Nat.lt_succ_self _) _).set (p := ⟨w.heap.size, 6, none⟩) (Nat.le_refl _) (Nat.lt_succ_self _) _).set (p := ⟨w.heap.size, 7, none⟩) (Nat.le_refl _) (Nat.lt_succ_self _) _).set (p := ⟨w.heap.size, 8, none⟩) (Nat.le_refl _) (Nat.lt_succ_self _) _).set (p := ⟨w.heap.size, 9, none⟩) (Nat.le_refl _) (Nat.lt_succ_self _) _)
  replace HX1 : Kept w.heap.size (w.heap.size + 1) (BoxK w.heap.size 29 #[.int .i64 l.age, .int .i64 l.options, .int .i64 l.typ, .int .i64 l.id, .int .i64 l.adv, .int .i64 l.seq, .slice A n c, .slice B m d, .int .i64 l.mask, .int .i64 l.cost]) U4 := by rw [hU4]; exact Kept.box ((((((((((HX1.bx.puts 0 (.int .i64 l.age) (cs' := #[.int .i64 l.age, .int .i64 0, .int .i64 0, .int .i64 0, .int .i64 0, .int .i64 0, .slice none 0 0, .slice none 0 0, .int .i64 0, .int .i64 0]) rfl).puts 1 (.int .i64 l.options) (cs' := #[.int .i64 l.age, .int .i64 l.options, .int .i64 0, .int .i64 0, .int .i64 0, .int .i64 0, .slice none 0 0, .slice none 0 0, .int .i64 0, .int .i64 0]) rfl).puts 2 (.int .i64 l.typ) (cs' := #[.int .i64 l.age, .int .i64 l.options, .int .i64 l.typ, .int .i64 0, .int .i64 0, .int .i64 0, .slice none 0 0, .slice none 0 0, .int .i64 0, .int .i64 0]) rfl).puts 3 (.int .i64 l.id) (cs' := #[.int .i64 l.age, .int .i64 l.options, .int .i64 l.typ, .int .i64 l.id, .int .i64 0, .int .i64 0, .slice none 0 0, .slice none 0 0, .int .i64 0, .int .i64 0]) rfl).puts 4 (.int .i64 l.adv) (cs' := #[.int .i64 l.age, .int .i64 l.options, .int .i64 l.typ, .int .i64 l.id, .int .i64 l.adv, .int .i64 0, .slice none 0 0, .slice none 0 0, .int .i64 0, .int .i64 0]) rfl).puts 5 (.int .i64 l.seq) (cs' := #[.int .i64 l.age, .int .i64 l.options, .int .i64 l.typ, .int .i64 l.id, .int .i64 l.adv, .int .i64 l.seq, .slice none 0 0, .slice none 0 0, .int .i64 0, .int .i64 0]) rfl).puts 6 (.slice A n c) (cs' := #[.int .i64 l.age, .int .i64 l.options, .int .i64 l.typ, .int .i64 l.id, .int .i64 l.adv, .int .i64 l.seq, .slice A n c, .slice none 0 0, .int .i64 0, .int .i64 0]) rfl).puts 7 (.slice B m d) (cs' := #[.int .i64 l.age, .int .i64 l.options, .int .i64 l.typ, .int .i64 l.id, .int .i64 l.adv, .int .i64 l.seq, .slice A n c, .slice B m d, .int .i64 0, .int .i64 0]) rfl).puts 8 (.int .i64 l.mask) (cs' := #[.int .i64 l.age, .int .i64 l.options, .int .i64 l.typ, .int .i64 l.id, .int .i64 l.adv, .int .i64 l.seq, .slice A n c, .slice B m d, .int .i64 l.mask, .int .i64 0]) rfl).puts 9 (.int .i64 l.cost) (cs' := #[.int .i64 l.age, .int .i64 l.options, .int .i64 l.typ, .int .i64 l.id, .int .i64 l.adv, .int .i64 l.seq, .slice A n c, .slice B m d, .int .i64 l.mask, .int .i64 l.cost]) rfl)
  replace HD := HD.only ho (by have := Y3.out; omega)
  replace HX2 := HX2.only ho (by have := Y3.out; omega)
  replace HA := HA.only ho (by have := Y3.out; omega)
  replace HK := HK.only ho (by have := Y3.out; omega)
  replace HB := Lib.hid (Below.only HB.out ho (by have := Y3.out; omega) HB.out.size)
  have Z5 : Hid (U4.heap.size = w3.heap.size) := Lib.hid (by rw [hU4]; simp [World.setCell]); clear ho
  have Y4 := Lib.hid (And.intro Y3.out Z5.out); clear Y3 Z5
  obtain ⟨U5, hU5⟩ : ∃ W : World, W = ((((((((((U4.setCell ⟨w.heap.size + 1, 0, none⟩ (.int .i64 k.age)).setCell ⟨w.heap.size + 1, 1, none⟩ (.int .i64 k.options)).setCell ⟨w.heap.size + 1, 2, none⟩ (.int .i64 k.typ)).setCell ⟨w.heap.size + 1, 3, none⟩ (.int .i64 k.id)).setCell ⟨w.heap.size + 1, 4, none⟩ (.int .i64 k.adv)).setCell ⟨w.heap.size + 1, 5, none⟩ (.int .i64 k.seq)).setCell ⟨w.heap.size + 1, 6, none⟩ (.slice A2 n2 c2)).setCell ⟨w.heap.size + 1, 7, none⟩ (.slice B2 m2 d2)).setCell ⟨w.heap.size + 1, 8, none⟩ (.int .i64 k.mask)).setCell ⟨w.heap.size + 1, 9, none⟩ (.int .i64 k.cost)) := ⟨_, rfl⟩
  have ho : Only (w.heap.size + 1) (w.heap.size + 1 + 1) U4 U5 := by rw [hU5]; exact (((((((((((Only.refl _ _ _).set (p := ⟨w.heap.size + 1, 0, none⟩) (Nat.le_refl _) (Nat.lt_succ_self _) _).set (p := ⟨w.heap.size + 1, 1, none⟩) (Nat.le_refl _) (Nat.lt_succ_self _) _).set (p := ⟨w.heap.size + 1, 2, none⟩) (Nat.le_refl _) (Nat.lt_succ_self _) _).set (p := ⟨w.heap.size + 1, 3, none⟩) (Nat.le_refl _) (Nat.lt_succ_self _) _).set (p := ⟨w.heap.size + 1, 4, none⟩) (Nat.le_refl _) (Nat.lt_succ_self _) _).set (p := ⟨w.heap.size + 1, 5, none⟩) (Nat.le_refl _) (Nat.lt_succ_self _) _).set (p := ⟨w.heap.size + 1, 6, none⟩) (Nat.le_refl _) (Nat.lt_succ_self _) _).set (p := ⟨w.heap.size + 1, 7, none⟩) (Nat.le_refl _) (Nat.lt_succ_self _) _).set (p := ⟨w.heap.size + 1, 8, none⟩) (Nat.le_refl _) (Nat.lt_succ_self _) _).set (p := ⟨w.heap.size + 1, 9, none⟩) (Nat.le_refl _) (Nat.lt_succ_self _) _)
  replace HX2 : Kept (w.heap.size + 1) (w.heap.size + 1 + 1) (BoxK (w.heap.size + 1) 29 #[.int .i64 k.age, .int .i64 k.options, .int .i64 k.typ, .int .i64 k.id, .int .i64 k.adv, .int .i64 k.seq, .slice A2 n2 c2, .slice B2 m2 d2, .int .i64 k.mask, .int .i64 k.cost]) U5 := by rw [hU5]; exact Kept.box ((((((((((HX2.bx.puts 0 (.int .i64 k.age) (cs' := #[.int .i64 k.age, .int .i64 0, .int .i64 0, .int .i64 0, .int .i64 0, .int .i64 0, .slice none 0 0, .slice none 0 0, .int .i64 0, .int .i64 0]) rfl).puts 1 (.int .i64 k.options) (cs' := #[.int .i64 k.age, .int .i64 k.options, .int .i64 0, .int .i64 0, .int .i64 0, .int .i64 0, .slice none 0 0, .slice none 0 0, .int .i64 0, .int .i64 0]) rfl).puts 2 (.int .i64 k.typ) (cs' := #[.int .i64 k.age, .int .i64 k.options, .int .i64 k.typ, .int .i64 0, .int .i64 0, .int .i64 0, .slice none 0 0, .slice none 0 0, .int .i64 0, .int .i64 0]) rfl).puts 3 (.int .i64 k.id) (cs' := #[.int .i64 k.age, .int .i64 k.options, .int .i64 k.typ, .int .i64 k.id, .int .i64 0, .int .i64 0, .slice none 0 0, .slice none 0 0, .int .i64 0, .int .i64 0]) rfl).puts 4 (.int .i64 k.adv) (cs' := #[.int .i64 k.age, .int .i64 k.options, .int .i64 k.typ, .int .i64 k.id, .int .i64 k.adv, .int .i64 0, .slice none 0 0, .slice none 0 0, .int .i64 0, .int .i64 0]) rfl).puts 5 (.int .i64 k.seq) (cs' := #[.int .i64 k.age, .int .i64 k.options, .int .i64 k.typ, .int .i64 k.id, .int .i64 k.adv, .int .i64 k.seq, .slice none 0 0, .slice none 0 0, .int .i64 0, .int .i64 0]) rfl).puts 6 (.slice A2 n2 c2) (cs' := #[.int .i64 k.age, .int .i64 k.options, .int .i64 k.typ, .int .i64 k.id, .int .i64 k.adv, .int .i64 k.seq, .slice A2 n2 c2, .slice none 0 0, .int .i64 0, .int .i64 0]) rfl).puts 7 (.slice B2 m2 d2) (cs' := #[.int .i64 k.age, .int .i64 k.options, .int .i64 k.typ, .int .i64 k.id, .int .i64 k.adv, .int .i64 k.seq, .slice A2 n2 c2, .slice B2 m2 d2, .int .i64 0, .int .i64 0]) rfl).puts 8 (.int .i64 k.mask) (cs' := #[.int .i64 k.age, .int .i64 k.options, .int .i64 k.typ, .int .i64 k.id, .int .i64 k.adv, .int .i64 k.seq, .slice A2 n2 c2, .slice B2 m2 d2, .int .i64 k.mask, .int .i64 0]) rfl).puts 9 (.int .i64 k.cost) (cs' := #[.int .i64 k.age, .int .i64 k.options, .int .i64 k.typ, .int .i64 k.id, .int .i64 k.adv, .int .i64 k.seq, .slice A2 n2 c2, .slice B2 m2 d2, .int .i64 k.mask, .int .i64 k.cost]) rfl)
  replace HD := HD.only ho (by have := Y4.out; omega)
  replace HX1 := HX1.only ho (by have := Y4.out; omega)
  replace HA := HA.only ho (by have := Y4.out; omega)
  replace HK := HK.only ho (by have := Y4.out; omega)
  replace HB := Lib.hid (Below.only HB.out ho (by have := Y4.out; omega) HB.out.size)
  have Z6 : Hid (U5.heap.size = U4.heap.size) := Lib.hid (by rw [hU5]; simp [World.setCell]); clear ho
  have Y5 := Lib.hid (And.intro Y4.out Z6.out); clear Y4 Z6
  have q0_0 := HX1.look 0
  have q0_1 := HX1.look 1
  have q0_2 := HX1.look 2
  have q0_3 := HX1.look 3
  have q0_4 := HX1.look 4
  have q0_5 := HX1.look 5
  have q0_6 := HX1.look 6
  have q0_7 := HX1.look 7
  have q0_8 := HX1.look 8
  have q0_9 := HX1.look 9
  have q1_0 := HX2.look 0
  have q1_1 := HX2.look 1
  have q1_2 := HX2.look 2
  have q1_3 := HX2.look 3
  have q1_4 := HX2.look 4
  have q1_5 := HX2.look 5
  have q1_6 := HX2.look 6
  have q1_7 := HX2.look 7
  have q1_8 := HX2.look 8
  have q1_9 := HX2.look 9
  have fin : ∀ e, e = Ending.returned (.tuple #[.agg (lsaCells ⟨l.age, l.options, l.typ, l.id, l.adv, l.seq, l.links, l.routers, l.mask, l.cost⟩ A B n c m d), .agg (lsaCells ⟨k.age, k.options, k.typ, k.id, k.adv, k.seq, k.links, k.routers, k.mask, k.cost⟩ A2 B2 n2 c2 m2 d2)]) → (TwoOut w e U5) := by rintro _ rfl; exact ⟨_, _, _, _, _, _, _, _, _, _, _, _, _, _, rfl, LsaAt.wide (lo' := w.heap.size) (hi' := U5.heap.size) HA.lsa rfl rfl (by have := Y5.out; omega) (by have := Y5.out; omega) (Nat.le_refl _), LsaAt.wide (lo' := w.heap.size) (hi' := U5.heap.size) HK.lsa rfl rfl (by have := Y5.out; omega) (by have := Y5.out; omega) (Nat.le_refl _), by omega, by omega, by omega, by omega, HB.out⟩
  subst hU5 hU4
  exact bodyPost_ret (v := .tuple #[.agg (lsaCells ⟨l.age, l.options, l.typ, l.id, l.adv, l.seq, l.links, l.routers, l.mask, l.cost⟩ A B n c m d), .agg (lsaCells ⟨k.age, k.options, k.typ, k.id, k.adv, k.seq, k.links, k.routers, k.mask, k.cost⟩ A2 B2 n2 c2 m2 d2)]) (by simp [results, Try.results27, go_sem, lsaCells, q0_0, q0_1, q0_2, q0_3, q0_4, q0_5, q0_6, q0_7, q0_8, q0_9, q1_0, q1_1, q1_2, q1_3, q1_4, q1_5, q1_6, q1_7, q1_8, q1_9]) rfl (fin _ rfl)


end Go.Proofs.Ytamclkjofojhmaa

namespace Go.Proofs.Ytamclkjofojhmaa
open Go.RowKit
set_option linter.unusedVariables false

theorem neq_ord_self (a b : Int) (W : World) : (binOp .neq 49 (.agg #[.int .i64 a, .int .i64 b]) (.agg #[.int .i64 a, .int .i64 b])).run Try.prog W = .ok (.bool false) W := by simp [go_sem]
theorem neq_int_self (a b : Int) (W : World) : (binOp .neq 42 (.agg #[.int .i64 a, .int .i64 b]) (.agg #[.int .i64 a, .int .i64 b])).run Try.prog W = .ok (.bool false) W := by simp [go_sem]
attribute [local go_sem high] neq_ord_self neq_int_self

set_option maxRecDepth 100000 in
set_option maxHeartbeats 6400000 in
theorem law_Fresh (A0 : Option Addr) (n0 c0 : Nat) (cs : List Int) (w : World) (ha : BIn w A0 n0 cs) (hb : Bytes cs) (hm : n0 ≤ maxLen) :
    Calls Try.prog 4 #[.slice A0 n0 c0] w fun e w' => e = .returned (.bool true) ∧ Below w.heap.size w w' := by
  unfold maxLen at hm
  by_cases hbig : 1048576 < n0
  · have h1 : (1048576 : Int) < n0 := by omega
    go_enter Try.func4, Try.ntmps4
    go_wp2
    go_ret
    exact ⟨rfl, Below.refl _ _⟩
  have hn : n0 ≤ 1048576 := by omega
  clear hm hbig
  have HB := Lib.hid (Below.refl w.heap.size w)
  have HD := ha.hold
  have HBY := Lib.hid hb
  clear ha hb
  go_enter Try.func4, Try.ntmps4
  go_wp2_with fail
  refine (lwBig_no A0 n0 c0 _ hn).mono ?_
  rintro e w1 ⟨rfl, rfl⟩
  go_wp2_with fail
  refine (drawCompare_any A0 n0 c0 cs _ HD.out HBY.out hn).mono ?_
  rintro e w2 ⟨l, A, B, n, c, m, d, k, A2, B2, n2, c2, m2, d2, rfl, hl, hk, hn1, hm1, hn2, hm2, hb⟩
  have Z1 := Lib.hid hb.size
  replace HD := HD.below hb
  replace HB := Lib.hid (below_step HB.out hb)
  clear hb
  have HL := hl.kept; clear hl
  have HK := hk.kept; clear hk
  obtain ⟨p, hr⟩ : ∃ z, pairC l k = z := ⟨_, rfl⟩
  have HRp := Lib.hid hr; clear hr
  obtain ⟨q, hr⟩ : ∃ z, pairC k l = z := ⟨_, rfl⟩
  have HRq := Lib.hid hr; clear hr
  obtain ⟨oa, hr⟩ : ∃ z, ordV l k = z := ⟨_, rfl⟩
  have HRoa := Lib.hid hr; clear hr
  obtain ⟨ob, hr⟩ : ∃ z, ordV k l = z := ⟨_, rfl⟩
  have HRob := Lib.hid hr; clear hr
  go_wp2_with fail
  refine Calls.name ?_
  intro U3 hU3
  have hb : Below w2.heap.size w2 U3 := by rw [hU3]; exact (((Below.refl _ _).alloc (Nat.le_refl _) _).alloc (by simp <;> omega) _)
  have zz : Hid (w2.heap.size + 2 = U3.heap.size) := Lib.hid (by rw [hU3]; simp)
  have HX1 : Kept w2.heap.size (w2.heap.size + 1) (BoxK w2.heap.size 29 #[.int .i64 l.age, .int .i64 l.options, .int .i64 l.typ, .int .i64 l.id, .int .i64 l.adv, .int .i64 l.seq, .slice A n c, .slice B m d, .int .i64 l.mask, .int .i64 l.cost]) U3 := by rw [hU3]; exact Kept.box ((Box.made_at _ _ _ rfl).over _)
  have HX2 : Kept (w2.heap.size + 1) (w2.heap.size + 1 + 1) (BoxK (w2.heap.size + 1) 29 #[.int .i64 k.age, .int .i64 k.options, .int .i64 k.typ, .int .i64 k.id, .int .i64 k.adv, .int .i64 k.seq, .slice A2 n2 c2, .slice B2 m2 d2, .int .i64 k.mask, .int .i64 k.cost]) U3 := by rw [hU3]; exact Kept.box (Box.made_at _ _ _ (by simp <;> omega))
  replace HD := HD.below hb
  replace HL := HL.below hb
  replace HK := HK.below hb
  replace HB := Lib.hid (below_step HB.out hb)
  clear hb
  have Z2 := zz; clear zz
  have Y1 := Lib.hid (And.intro Z1.out Z2.out); clear Z1 Z2
  clear hU3
  refine (compareLsas_any l true _ _ A B n c m d k true _ _ A2 B2 n2 c2 m2 d2 _ HL.lsa (by omega) (by omega) HK.lsa (by omega) (by omega)).mono ?_
  rw [HRp.out, HRoa.out]
  rintro e w4 ⟨rfl, hb⟩
  have Z3 := Lib.hid hb.size
  have Y2 := Lib.hid (And.intro Y1.out Z3.out); clear Y1 Z3
  replace HD := HD.below hb
  replace HL := HL.below hb
  replace HK := HK.below hb
  replace HX1 := HX1.below hb
  replace HX2 := HX2.below hb
  replace HB := Lib.hid (below_step HB.out hb)
  clear hb
  have c4_0 := HX1.look 0
  have c4_1 := HX1.look 1
  have c4_2 := HX1.look 2
  have c4_3 := HX1.look 3
  have c4_4 := HX1.look 4
  have c4_5 := HX1.look 5
  have c4_6 := HX1.look 6
  have c4_7 := HX1.look 7
  have c4_8 := HX1.look 8
  have c4_9 := HX1.look 9
  have c4_10 := HX2.look 0
  have c4_11 := HX2.look 1
  have c4_12 := HX2.look 2
  have c4_13 := HX2.look 3
  have c4_14 := HX2.look 4
  have c4_15 := HX2.look 5
  have c4_16 := HX2.look 6
  have c4_17 := HX2.look 7
  have c4_18 := HX2.look 8
  have c4_19 := HX2.look 9
  have l4_0 := HX1.bx.lt
  have l4_1 := HX2.bx.lt
  go_wp2_with fail
  clear c4_0 c4_1 c4_2 c4_3 c4_4 c4_5 c4_6 c4_7 c4_8 c4_9 c4_10 c4_11 c4_12 c4_13 c4_14 c4_15 c4_16 c4_17 c4_18 c4_19 l4_0 l4_1
  refine Calls.name ?_
  intro U5 hU5
  have hb : Below w4.heap.size w4 U5 := by rw [hU5]; exact ((Below.refl _ _).alloc (Nat.le_refl _) _)
  have zz : Hid (w4.heap.size + 1 = U5.heap.size) := Lib.hid (by rw [hU5]; simp)
  have HX3 : Kept w4.heap.size (w4.heap.size + 1) (BoxK w4.heap.size 49 #[.int .i64 p, .int .i64 oa]) U5 := by rw [hU5]; exact Kept.box (Box.made_at _ _ _ rfl)
  replace HD := HD.below hb
  replace HL := HL.below hb
  replace HK := HK.below hb
  replace HX1 := HX1.below hb
  replace HX2 := HX2.below hb
  replace HB := Lib.hid (below_step HB.out hb)
  clear hb
  have Z4 := zz; clear zz
  have Y3 := Lib.hid (And.intro Y2.out Z4.out); clear Y2 Z4
  clear hU5
  refine (compareLsas_any k true _ _ A2 B2 n2 c2 m2 d2 l true _ _ A B n c m d _ HK.lsa (by omega) (by omega) HL.lsa (by omega) (by omega)).mono ?_
  rw [HRq.out, HRob.out]
  rintro e w6 ⟨rfl, hb⟩
  have Z5 := Lib.hid hb.size
  have Y4 := Lib.hid (And.intro Y3.out Z5.out); clear Y3 Z5
  replace HD := HD.below hb
  replace HL := HL.below hb
  replace HK := HK.below hb
  replace HX1 := HX1.below hb
  replace HX2 := HX2.below hb
  replace HX3 := HX3.below hb
  replace HB := Lib.hid (below_step HB.out hb)
  clear hb
  have l5_0 := HX1.bx.lt
  have l5_1 := HX2.bx.lt
  have l5_2 := HX3.bx.lt
  go_wp2_with fail
  clear l5_0 l5_1 l5_2
  refine Calls.name ?_
  intro U7 hU7
  have hb : Below w6.heap.size w6 U7 := by rw [hU7]; exact ((Below.refl _ _).alloc (Nat.le_refl _) _)
  have zz : Hid (w6.heap.size + 1 = U7.heap.size) := Lib.hid (by rw [hU7]; simp)
  have HX4 : Kept w6.heap.size (w6.heap.size + 1) (BoxK w6.heap.size 49 #[.int .i64 q, .int .i64 ob]) U7 := by rw [hU7]; exact Kept.box (Box.made_at _ _ _ rfl)
  replace HD := HD.below hb
  replace HL := HL.below hb
  replace HK := HK.below hb
  replace HX1 := HX1.below hb
  replace HX2 := HX2.below hb
  replace HX3 := HX3.below hb
  replace HB := Lib.hid (below_step HB.out hb)
  clear hb
  have Z6 := zz; clear zz
  have Y5 := Lib.hid (And.intro Y4.out Z6.out); clear Y4 Z6
  clear hU7
  refine (drawSeq_any A0 n0 c0 cs _ HD.out HBY.out hn).mono ?_
  rintro e w8 ⟨sq, rfl, hb⟩
  have Z7 := Lib.hid hb.size
  have Y6 := Lib.hid (And.intro Y5.out Z7.out); clear Y5 Z7
  replace HD := HD.below hb
  replace HL := HL.below hb
  replace HK := HK.below hb
  replace HX1 := HX1.below hb
  replace HX2 := HX2.below hb
  replace HX3 := HX3.below hb
  replace HX4 := HX4.below hb
  replace HB := Lib.hid (below_step HB.out hb)
  clear hb
  obtain ⟨sc, hr⟩ : ∃ z, seqC sq = z := ⟨_, rfl⟩
  have HRsc := Lib.hid hr; clear hr
  obtain ⟨sv, hr⟩ : ∃ z, seqV sq = z := ⟨_, rfl⟩
  have HRsv := Lib.hid hr; clear hr
  have l6_0 := HX1.bx.lt
  have l6_1 := HX2.bx.lt
  have l6_2 := HX3.bx.lt
  have l6_3 := HX4.bx.lt
  go_wp2_with fail
  clear l6_0 l6_1 l6_2 l6_3
  refine (nextSeq_any sq _).mono ?_
  rw [HRsc.out, HRsv.out]
  rintro e w9 ⟨rfl, hb⟩
  have Z8 := Lib.hid hb.size
  have Y7 := Lib.hid (And.intro Y6.out Z8.out); clear Y6 Z8
  replace HD := HD.below hb
  replace HL := HL.below hb
  replace HK := HK.below hb
  replace HX1 := HX1.below hb
  replace HX2 := HX2.below hb
  replace HX3 := HX3.below hb
  replace HX4 := HX4.below hb
  replace HB := Lib.hid (below_step HB.out hb)
  clear hb
  have l7_0 := HX1.bx.lt
  have l7_1 := HX2.bx.lt
  have l7_2 := HX3.bx.lt
  have l7_3 := HX4.bx.lt
  go_wp2_with fail
  clear l7_0 l7_1 l7_2 l7_3
  by_cases hp : p = 0
  · have hpp := HRp.out.trans hp
    have HNB := Lib.hid ((newB_eq hpp).trans (by rw [HRoa.out] : (ordV l k == 1) = (oa == 1)))
    have hp1 : (p == 0) = true := by rw [hp]; rfl
    have hp2 : (p != 0) = false := by rw [hp]; rfl
    have hq1 : (q == 0) = true := by rw [← HRq.out, pairC_comm hpp]; rfl
    have hoo : oa + ob = 0 := by rw [← HRoa.out, ← HRob.out]; exact ordV_anti hpp
    have hoo1 : (oa + ob != 0) = false := by rw [hoo]; rfl
    have hbd1 := ordV_bd l k
    have hbd2 := ordV_bd k l
    rw [HRoa.out] at hbd1
    rw [HRob.out] at hbd2
    obtain ⟨d1, d2'⟩ := hbd1
    obtain ⟨d3, d4⟩ := hbd2
    have HF := Lib.hid (pairC_sound hpp).1
    have HPS := Lib.hid (pairC_self HF.out); have HOS := Lib.hid (ordV_self HF.out)
    clear hp hpp hoo
    have hbb : ((oa == 1) != (oa == 1)) = false := by simp
    refine Code.wp_name ?_
    intro U10 hU10
    have hb : Below w9.heap.size w9 U10 := by rw [hU10]; exact ((Below.refl _ _).alloc (Nat.le_refl _) _)
    have zz : Hid (w9.heap.size + 1 = U10.heap.size) := Lib.hid (by rw [hU10]; simp)
    have HX5 : Kept w9.heap.size (w9.heap.size + 1) (BoxK w9.heap.size 42 #[.int .i64 sc, .int .i64 sv]) U10 := by rw [hU10]; exact Kept.box (Box.made_at _ _ _ rfl)
    replace HD := HD.below hb
    replace HL := HL.below hb
    replace HK := HK.below hb
    replace HX1 := HX1.below hb
    replace HX2 := HX2.below hb
    replace HX3 := HX3.below hb
    replace HX4 := HX4.below hb
    replace HB := Lib.hid (below_step HB.out hb)
    clear hb
    have Z9 := zz; clear zz
    have Y8 := Lib.hid (And.intro Y7.out Z9.out); clear Y7 Z9
    clear hU10
    have SB : Hid (∀ W, Hid (Below U10.heap.size U10 W) → (fun W => W.cell? ⟨w2.heap.size, 0, none⟩ = some (.int .i64 l.age) ∧ W.cell? ⟨w2.heap.size, 1, none⟩ = some (.int .i64 l.options) ∧ W.cell? ⟨w2.heap.size, 2, none⟩ = some (.int .i64 l.typ) ∧ W.cell? ⟨w2.heap.size, 3, none⟩ = some (.int .i64 l.id) ∧ W.cell? ⟨w2.heap.size, 4, none⟩ = some (.int .i64 l.adv) ∧ W.cell? ⟨w2.heap.size, 5, none⟩ = some (.int .i64 l.seq) ∧ W.cell? ⟨w2.heap.size, 6, none⟩ = some (.slice A n c) ∧ W.cell? ⟨w2.heap.size, 7, none⟩ = some (.slice B m d) ∧ W.cell? ⟨w2.heap.size, 8, none⟩ = some (.int .i64 l.mask) ∧ W.cell? ⟨w2.heap.size, 9, none⟩ = some (.int .i64 l.cost) ∧ W.cell? ⟨w2.heap.size + 1, 0, none⟩ = some (.int .i64 k.age) ∧ W.cell? ⟨w2.heap.size + 1, 1, none⟩ = some (.int .i64 k.options) ∧ W.cell? ⟨w2.heap.size + 1, 2, none⟩ = some (.int .i64 k.typ) ∧ W.cell? ⟨w2.heap.size + 1, 3, none⟩ = some (.int .i64 k.id) ∧ W.cell? ⟨w2.heap.size + 1, 4, none⟩ = some (.int .i64 k.adv) ∧ W.cell? ⟨w2.heap.size + 1, 5, none⟩ = some (.int .i64 k.seq) ∧ W.cell? ⟨w2.heap.size + 1, 6, none⟩ = some (.slice A2 n2 c2) ∧ W.cell? ⟨w2.heap.size + 1, 7, none⟩ = some (.slice B2 m2 d2) ∧ W.cell? ⟨w2.heap.size + 1, 8, none⟩ = some (.int .i64 k.mask) ∧ W.cell? ⟨w2.heap.size + 1, 9, none⟩ = some (.int .i64 k.cost) ∧ W.cell? ⟨w4.heap.size, 0, none⟩ = some (.int .i64 p) ∧ W.cell? ⟨w4.heap.size, 1, none⟩ = some (.int .i64 oa) ∧ W.cell? ⟨w6.heap.size, 0, none⟩ = some (.int .i64 q) ∧ W.cell? ⟨w6.heap.size, 1, none⟩ = some (.int .i64 ob) ∧ W.cell? ⟨w9.heap.size, 0, none⟩ = some (.int .i64 sc) ∧ W.cell? ⟨w9.heap.size, 1, none⟩ = some (.int .i64 sv)) W) := fun W h => ⟨(HX1.below h.out).look 0, (HX1.below h.out).look 1, (HX1.below h.out).look 2, (HX1.below h.out).look 3, (HX1.below h.out).look 4, (HX1.below h.out).look 5, (HX1.below h.out).look 6, (HX1.below h.out).look 7, (HX1.below h.out).look 8, (HX1.below h.out).look 9, (HX2.below h.out).look 0, (HX2.below h.out).look 1, (HX2.below h.out).look 2, (HX2.below h.out).look 3, (HX2.below h.out).look 4, (HX2.below h.out).look 5, (HX2.below h.out).look 6, (HX2.below h.out).look 7, (HX2.below h.out).look 8, (HX2.below h.out).look 9, (HX3.below h.out).look 0, (HX3.below h.out).look 1, (HX4.below h.out).look 0, (HX4.below h.out).look 1, (HX5.below h.out).look 0, (HX5.below h.out).look 1⟩
    have V0 : Hid (Below U10.heap.size U10 U10.drew) := (Below.refl _ _).drew
    go_region_held3 (fun W => W.cell? ⟨w2.heap.size, 0, none⟩ = some (.int .i64 l.age) ∧ W.cell? ⟨w2.heap.size, 1, none⟩ = some (.int .i64 l.options) ∧ W.cell? ⟨w2.heap.size, 2, none⟩ = some (.int .i64 l.typ) ∧ W.cell? ⟨w2.heap.size, 3, none⟩ = some (.int .i64 l.id) ∧ W.cell? ⟨w2.heap.size, 4, none⟩ = some (.int .i64 l.adv) ∧ W.cell? ⟨w2.heap.size, 5, none⟩ = some (.int .i64 l.seq) ∧ W.cell? ⟨w2.heap.size, 6, none⟩ = some (.slice A n c) ∧ W.cell? ⟨w2.heap.size, 7, none⟩ = some (.slice B m d) ∧ W.cell? ⟨w2.heap.size, 8, none⟩ = some (.int .i64 l.mask) ∧ W.cell? ⟨w2.heap.size, 9, none⟩ = some (.int .i64 l.cost) ∧ W.cell? ⟨w2.heap.size + 1, 0, none⟩ = some (.int .i64 k.age) ∧ W.cell? ⟨w2.heap.size + 1, 1, none⟩ = some (.int .i64 k.options) ∧ W.cell? ⟨w2.heap.size + 1, 2, none⟩ = some (.int .i64 k.typ) ∧ W.cell? ⟨w2.heap.size + 1, 3, none⟩ = some (.int .i64 k.id) ∧ W.cell? ⟨w2.heap.size + 1, 4, none⟩ = some (.int .i64 k.adv) ∧ W.cell? ⟨w2.heap.size + 1, 5, none⟩ = some (.int .i64 k.seq) ∧ W.cell? ⟨w2.heap.size + 1, 6, none⟩ = some (.slice A2 n2 c2) ∧ W.cell? ⟨w2.heap.size + 1, 7, none⟩ = some (.slice B2 m2 d2) ∧ W.cell? ⟨w2.heap.size + 1, 8, none⟩ = some (.int .i64 k.mask) ∧ W.cell? ⟨w2.heap.size + 1, 9, none⟩ = some (.int .i64 k.cost) ∧ W.cell? ⟨w4.heap.size, 0, none⟩ = some (.int .i64 p) ∧ W.cell? ⟨w4.heap.size, 1, none⟩ = some (.int .i64 oa) ∧ W.cell? ⟨w6.heap.size, 0, none⟩ = some (.int .i64 q) ∧ W.cell? ⟨w6.heap.size, 1, none⟩ = some (.int .i64 ob) ∧ W.cell? ⟨w9.heap.size, 0, none⟩ = some (.int .i64 sc) ∧ W.cell? ⟨w9.heap.size, 1, none⟩ = some (.int .i64 sv)) (exact SB.out _ (by assumption))
      (first | (go_at_call 31; ((with_reducible refine (specCompare_any l true _ _ A B n c m d k true _ _ A2 B2 n2 c2 m2 d2 _ (HL.below V0.out).lsa (by omega) (by omega) (HK.below V0.out).lsa (by omega) (by omega)).mono ?_); rw [HRp.out, HRoa.out]; rintro e u1_0 ⟨rfl, hb⟩; have V1 := Lib.hid (below_step V0.out hb); clear hb)) | (go_at_call 32; ((with_reducible refine (isNewer_any l true _ _ A B n c m d k true _ _ A2 B2 n2 c2 m2 d2 _ (HL.below V1.out).lsa (by omega) (by omega) (HK.below V1.out).lsa (by omega) (by omega)).mono ?_); rw [HNB.out]; rintro e u1_1 ⟨rfl, hb⟩; have V2 := Lib.hid (below_step V1.out hb); clear hb)) | (go_at_call 33; ((with_reducible refine (specNextSeq_any sq _).mono ?_); rw [HRsc.out, HRsv.out]; rintro e u1_2 ⟨rfl, hb⟩; have V3 := Lib.hid (below_step V2.out hb); clear hb)))
    have hb := V3.out
    clear SB V0 V1 V2 V3
    have Z10 := Lib.hid hb.size
    have Y9 := Lib.hid (And.intro Y8.out Z10.out); clear Y8 Z10
    replace HD := HD.below hb
    replace HL := HL.below hb
    replace HK := HK.below hb
    replace HX1 := HX1.below hb
    replace HX2 := HX2.below hb
    replace HX3 := HX3.below hb
    replace HX4 := HX4.below hb
    replace HX5 := HX5.below hb
    replace HB := Lib.hid (below_step HB.out hb)
    clear hb
    have c8_0 := HX1.look 0
    have c8_1 := HX1.look 1
    have c8_2 := HX1.look 2
    have c8_3 := HX1.look 3
    have c8_4 := HX1.look 4
    have c8_5 := HX1.look 5
    have c8_6 := HX1.look 6
    have c8_7 := HX1.look 7
    have c8_8 := HX1.look 8
    have c8_9 := HX1.look 9
    have c8_10 := HX3.look 0
    have c8_11 := HX3.look 1
    have c8_12 := HX4.look 1
    have l8_0 := HX1.bx.lt
    have l8_1 := HX2.bx.lt
    have l8_2 := HX3.bx.lt
    have l8_3 := HX4.bx.lt
    have l8_4 := HX5.bx.lt
    go_wp2_with fail
    clear c8_0 c8_1 c8_2 c8_3 c8_4 c8_5 c8_6 c8_7 c8_8 c8_9 c8_10 c8_11 c8_12 l8_0 l8_1 l8_2 l8_3 l8_4
    refine (compareLsas_any l true _ _ A B n c m d l true _ _ A B n c m d _ HL.lsa (by omega) (by omega) HL.lsa (by omega) (by omega)).mono ?_
    rw [HPS.out, HOS.out]
    rintro e w11 ⟨rfl, hb⟩
    have Z11 := Lib.hid hb.size
    have Y10 := Lib.hid (And.intro Y9.out Z11.out); clear Y9 Z11
    replace HD := HD.below hb
    replace HL := HL.below hb
    replace HK := HK.below hb
    replace HX1 := HX1.below hb
    replace HX2 := HX2.below hb
    replace HX3 := HX3.below hb
    replace HX4 := HX4.below hb
    replace HX5 := HX5.below hb
    replace HB := Lib.hid (below_step HB.out hb)
    clear hb
    obtain ⟨sc2, hr⟩ : ∃ z, seqC l.seq = z := ⟨_, rfl⟩
    have HRsc2 := Lib.hid hr; clear hr
    obtain ⟨sv2, hr⟩ : ∃ z, seqV l.seq = z := ⟨_, rfl⟩
    have HRsv2 := Lib.hid hr; clear hr
    clear hp1 hp2 hq1 hoo1 hbb d1 d2' d3 d4
    have c9_0 := HX1.look 5
    have l9_0 := HX1.bx.lt
    have l9_1 := HX2.bx.lt
    have l9_2 := HX3.bx.lt
    have l9_3 := HX4.bx.lt
    have l9_4 := HX5.bx.lt
    go_wp2_with fail
    clear c9_0 l9_0 l9_1 l9_2 l9_3 l9_4
    refine (nextSeq_any l.seq _).mono ?_
    rw [HRsc2.out, HRsv2.out]
    rintro e w12 ⟨rfl, hb⟩
    have Z12 := Lib.hid hb.size
    have Y11 := Lib.hid (And.intro Y10.out Z12.out); clear Y10 Z12
    replace HD := HD.below hb
    replace HL := HL.below hb
    replace HK := HK.below hb
    replace HX1 := HX1.below hb
    replace HX2 := HX2.below hb
    replace HX3 := HX3.below hb
    replace HX4 := HX4.below hb
    replace HX5 := HX5.below hb
    replace HB := Lib.hid (below_step HB.out hb)
    clear hb
    by_cases hs : sc2 = 0
    · have hsq := seqV_of (HRsc2.out.trans hs)
      rw [HRsv2.out] at hsq
      have HN2 := Lib.hid (new_seq l HF.out sv2 (by omega) (by omega))
      clear hsq
      have hs1 : (sc2 == 0) = true := by rw [hs]; rfl
      clear hs
      have c10_0 := HX1.look 0
      have c10_1 := HX1.look 1
      have c10_2 := HX1.look 2
      have c10_3 := HX1.look 3
      have c10_4 := HX1.look 4
      have c10_5 := HX1.look 5
      have c10_6 := HX1.look 6
      have c10_7 := HX1.look 7
      have c10_8 := HX1.look 8
      have c10_9 := HX1.look 9
      have l10_0 := HX1.bx.lt
      have l10_1 := HX2.bx.lt
      have l10_2 := HX3.bx.lt
      have l10_3 := HX4.bx.lt
      have l10_4 := HX5.bx.lt
      go_wp2_with fail
      clear c10_0 c10_1 c10_2 c10_3 c10_4 c10_5 c10_6 c10_7 c10_8 c10_9 l10_0 l10_1 l10_2 l10_3 l10_4
      refine Calls.name ?_
      intro U13 hU13
      have hb : Below w12.heap.size w12 U13 := by rw [hU13]; exact (((Below.refl _ _).alloc (Nat.le_refl _) _).alloc (by simp <;> omega) _)
      have zz : Hid (w12.heap.size + 2 = U13.heap.size) := Lib.hid (by rw [hU13]; simp)
      have HX6 : Kept w12.heap.size (w12.heap.size + 1) (BoxK w12.heap.size 42 #[.int .i64 sc2, .int .i64 sv2]) U13 := by rw [hU13]; exact Kept.box ((Box.made_at _ _ _ rfl).over _)
      have HX7 : Kept (w12.heap.size + 1) (w12.heap.size + 1 + 1) (BoxK (w12.heap.size + 1) 29 #[.int .i64 l.age, .int .i64 l.options, .int .i64 l.typ, .int .i64 l.id, .int .i64 l.adv, .int .i64 sv2, .slice A n c, .slice B m d, .int .i64 l.mask, .int .i64 l.cost]) U13 := by rw [hU13]; exact Kept.box (Box.made_at _ _ _ (by simp <;> omega))
      replace HD := HD.below hb
      replace HL := HL.below hb
      replace HK := HK.below hb
      replace HX1 := HX1.below hb
      replace HX2 := HX2.below hb
      replace HX3 := HX3.below hb
      replace HX4 := HX4.below hb
      replace HX5 := HX5.below hb
      replace HB := Lib.hid (below_step HB.out hb)
      clear hb
      have Z13 := zz; clear zz
      have Y12 := Lib.hid (And.intro Y11.out Z13.out); clear Y11 Z13
      clear hU13
      refine (isNewer_any { l with seq := sv2 } true _ _ A B n c m d l true _ _ A B n c m d _ (LsaAt.as (l' := { l with seq := sv2 }) HL.lsa rfl rfl) (by omega) (by omega) HL.lsa (by omega) (by omega)).mono ?_
      rw [HN2.out]
      rintro e w14 ⟨rfl, hb⟩
      have Z14 := Lib.hid hb.size
      have Y13 := Lib.hid (And.intro Y12.out Z14.out); clear Y12 Z14
      replace HD := HD.below hb
      replace HL := HL.below hb
      replace HK := HK.below hb
      replace HX1 := HX1.below hb
      replace HX2 := HX2.below hb
      replace HX3 := HX3.below hb
      replace HX4 := HX4.below hb
      replace HX5 := HX5.below hb
      replace HX6 := HX6.below hb
      replace HX7 := HX7.below hb
      replace HB := Lib.hid (below_step HB.out hb)
      clear hb
      have hfl := flush_is HF.out
      have HFC := Lib.hid hfl.1; have HFM := Lib.hid hfl.2; clear hfl
      have c11_0 := HX1.look 0
      have c11_1 := HX1.look 1
      have c11_2 := HX1.look 2
      have c11_3 := HX1.look 3
      have c11_4 := HX1.look 4
      have c11_5 := HX1.look 5
      have c11_6 := HX1.look 6
      have c11_7 := HX1.look 7
      have c11_8 := HX1.look 8
      have c11_9 := HX1.look 9
      have l11_0 := HX1.bx.lt
      have l11_1 := HX2.bx.lt
      have l11_2 := HX3.bx.lt
      have l11_3 := HX4.bx.lt
      have l11_4 := HX5.bx.lt
      have l11_5 := HX6.bx.lt
      have l11_6 := HX7.bx.lt
      go_wp2_with fail
      clear c11_0 c11_1 c11_2 c11_3 c11_4 c11_5 c11_6 c11_7 c11_8 c11_9 l11_0 l11_1 l11_2 l11_3 l11_4 l11_5 l11_6
      refine (flush_any l true _ _ A B n c m d _ HL.lsa (by omega) (by omega)).mono ?_
      rw [HFC.out, HFM.out]
      rintro e w15 ⟨E5, F5, j5, b5, s5, t5, rfl, ht, hj5, hs5, hb⟩
      have Z15 := Lib.hid hb.size
      have Y14 := Lib.hid (And.intro Y13.out Z15.out); clear Y13 Z15
      replace HD := HD.below hb
      replace HL := HL.below hb
      replace HK := HK.below hb
      replace HX1 := HX1.below hb
      replace HX2 := HX2.below hb
      replace HX3 := HX3.below hb
      replace HX4 := HX4.below hb
      replace HX5 := HX5.below hb
      replace HX6 := HX6.below hb
      replace HX7 := HX7.below hb
      replace HB := Lib.hid (below_step HB.out hb)
      clear hb
      have HO5 := ht.kept; clear ht
      by_cases hg : l.age = 3600
      · have hg1 : (l.age == 3600) = true := by rw [hg]; rfl
        clear hg
        have c12_0 := HX1.look 0
        have l12_0 := HX1.bx.lt
        have l12_1 := HX2.bx.lt
        have l12_2 := HX3.bx.lt
        have l12_3 := HX4.bx.lt
        have l12_4 := HX5.bx.lt
        have l12_5 := HX6.bx.lt
        have l12_6 := HX7.bx.lt
        go_wp2
        clear c12_0 l12_0 l12_1 l12_2 l12_3 l12_4 l12_5 l12_6
        obtain ⟨U16, hU16⟩ : ∃ W : World, W = (w15.alloc (.cells #[.int .i64 0, .int .i64 ({ l with age := 3600 }.age), .int .i64 ({ l with age := 3600 }.options), .int .i64 ({ l with age := 3600 }.typ), .int .i64 ({ l with age := 3600 }.id), .int .i64 ({ l with age := 3600 }.adv), .int .i64 ({ l with age := 3600 }.seq), .slice E5 j5 b5, .slice F5 s5 t5, .int .i64 ({ l with age := 3600 }.mask), .int .i64 ({ l with age := 3600 }.cost)] 36)) := ⟨_, rfl⟩
        have hb : Below w15.heap.size w15 U16 := by rw [hU16]; exact ((Below.refl _ _).alloc (Nat.le_refl _) _)
        have zz : Hid (w15.heap.size + 1 = U16.heap.size) := Lib.hid (by rw [hU16]; simp)
        have HX8 : Kept w15.heap.size (w15.heap.size + 1) (BoxK w15.heap.size 36 #[.int .i64 0, .int .i64 ({ l with age := 3600 }.age), .int .i64 ({ l with age := 3600 }.options), .int .i64 ({ l with age := 3600 }.typ), .int .i64 ({ l with age := 3600 }.id), .int .i64 ({ l with age := 3600 }.adv), .int .i64 ({ l with age := 3600 }.seq), .slice E5 j5 b5, .slice F5 s5 t5, .int .i64 ({ l with age := 3600 }.mask), .int .i64 ({ l with age := 3600 }.cost)]) U16 := by rw [hU16]; exact Kept.box (Box.made_at _ _ _ rfl)
        replace HD := HD.below hb
        replace HL := HL.below hb
        replace HK := HK.below hb
        replace HX1 := HX1.below hb
        replace HX2 := HX2.below hb
        replace HX3 := HX3.below hb
        replace HX4 := HX4.below hb
        replace HX5 := HX5.below hb
        replace HX6 := HX6.below hb
        replace HX7 := HX7.below hb
        replace HO5 := HO5.below hb
        replace HB := Lib.hid (below_step HB.out hb)
        clear hb
        have Z16 := zz; clear zz
        have Y15 := Lib.hid (And.intro Y14.out Z16.out); clear Y14 Z16
        subst hU16
        go_ret
        exact ⟨rfl, HB.out⟩
      · have HN3 := Lib.hid (new_old l HF.out hg)
        have hg1 : (l.age == 3600) = false := by rw [beq_eq_false_iff_ne]; exact hg
        clear hg
        have c12_0 := HX1.look 0
        have c12_1 := HX1.look 1
        have c12_2 := HX1.look 2
        have c12_3 := HX1.look 3
        have c12_4 := HX1.look 4
        have c12_5 := HX1.look 5
        have c12_6 := HX1.look 6
        have c12_7 := HX1.look 7
        have c12_8 := HX1.look 8
        have c12_9 := HX1.look 9
        have l12_0 := HX1.bx.lt
        have l12_1 := HX2.bx.lt
        have l12_2 := HX3.bx.lt
        have l12_3 := HX4.bx.lt
        have l12_4 := HX5.bx.lt
        have l12_5 := HX6.bx.lt
        have l12_6 := HX7.bx.lt
        go_wp2_with fail
        clear c12_0 c12_1 c12_2 c12_3 c12_4 c12_5 c12_6 c12_7 c12_8 c12_9 l12_0 l12_1 l12_2 l12_3 l12_4 l12_5 l12_6
        refine Calls.name ?_
        intro U16 hU16
        have hb : Below w15.heap.size w15 U16 := by rw [hU16]; exact ((Below.refl _ _).alloc (Nat.le_refl _) _)
        have zz : Hid (w15.heap.size + 1 = U16.heap.size) := Lib.hid (by rw [hU16]; simp)
        have HX8 : Kept w15.heap.size (w15.heap.size + 1) (BoxK w15.heap.size 36 #[.int .i64 0, .int .i64 ({ l with age := 3600 }.age), .int .i64 ({ l with age := 3600 }.options), .int .i64 ({ l with age := 3600 }.typ), .int .i64 ({ l with age := 3600 }.id), .int .i64 ({ l with age := 3600 }.adv), .int .i64 ({ l with age := 3600 }.seq), .slice E5 j5 b5, .slice F5 s5 t5, .int .i64 ({ l with age := 3600 }.mask), .int .i64 ({ l with age := 3600 }.cost)]) U16 := by rw [hU16]; exact Kept.box (Box.made_at _ _ _ rfl)
        replace HD := HD.below hb
        replace HL := HL.below hb
        replace HK := HK.below hb
        replace HX1 := HX1.below hb
        replace HX2 := HX2.below hb
        replace HX3 := HX3.below hb
        replace HX4 := HX4.below hb
        replace HX5 := HX5.below hb
        replace HX6 := HX6.below hb
        replace HX7 := HX7.below hb
        replace HO5 := HO5.below hb
        replace HB := Lib.hid (below_step HB.out hb)
        clear hb
        have Z16 := zz; clear zz
        have Y15 := Lib.hid (And.intro Y14.out Z16.out); clear Y14 Z16
        clear hU16
        refine (isNewer_any { l with age := 3600 } true _ _ E5 F5 j5 b5 s5 t5 l true _ _ A B n c m d _ HO5.two.at_ hj5 hs5 HL.lsa (by omega) (by omega)).mono ?_
        rw [HN3.out]
        rintro e w17 ⟨rfl, hb⟩
        have Z17 := Lib.hid hb.size
        have Y16 := Lib.hid (And.intro Y15.out Z17.out); clear Y15 Z17
        replace HD := HD.below hb
        replace HL := HL.below hb
        replace HK := HK.below hb
        replace HX1 := HX1.below hb
        replace HX2 := HX2.below hb
        replace HX3 := HX3.below hb
        replace HX4 := HX4.below hb
        replace HX5 := HX5.below hb
        replace HX6 := HX6.below hb
        replace HX7 := HX7.below hb
        replace HO5 := HO5.below hb
        replace HX8 := HX8.below hb
        replace HB := Lib.hid (below_step HB.out hb)
        clear hb
        have l13_0 := HX1.bx.lt
        have l13_1 := HX2.bx.lt
        have l13_2 := HX3.bx.lt
        have l13_3 := HX4.bx.lt
        have l13_4 := HX5.bx.lt
        have l13_5 := HX6.bx.lt
        have l13_6 := HX7.bx.lt
        have l13_7 := HX8.bx.lt
        go_wp2
        clear l13_0 l13_1 l13_2 l13_3 l13_4 l13_5 l13_6 l13_7
        go_ret
        exact ⟨rfl, HB.out⟩
    · have hs1 : (sc2 == 0) = false := by rw [beq_eq_false_iff_ne]; exact hs
      clear hs
      have hfl := flush_is HF.out
      have HFC := Lib.hid hfl.1; have HFM := Lib.hid hfl.2; clear hfl
      have c10_0 := HX1.look 0
      have c10_1 := HX1.look 1
      have c10_2 := HX1.look 2
      have c10_3 := HX1.look 3
      have c10_4 := HX1.look 4
      have c10_5 := HX1.look 5
      have c10_6 := HX1.look 6
      have c10_7 := HX1.look 7
      have c10_8 := HX1.look 8
      have c10_9 := HX1.look 9
      have l10_0 := HX1.bx.lt
      have l10_1 := HX2.bx.lt
      have l10_2 := HX3.bx.lt
      have l10_3 := HX4.bx.lt
      have l10_4 := HX5.bx.lt
      go_wp2_with fail
      clear c10_0 c10_1 c10_2 c10_3 c10_4 c10_5 c10_6 c10_7 c10_8 c10_9 l10_0 l10_1 l10_2 l10_3 l10_4
      refine Calls.name ?_
      intro U13 hU13
      have hb : Below w12.heap.size w12 U13 := by rw [hU13]; exact ((Below.refl _ _).alloc (Nat.le_refl _) _)
      have zz : Hid (w12.heap.size + 1 = U13.heap.size) := Lib.hid (by rw [hU13]; simp)
      have HX6 : Kept w12.heap.size (w12.heap.size + 1) (BoxK w12.heap.size 42 #[.int .i64 sc2, .int .i64 sv2]) U13 := by rw [hU13]; exact Kept.box (Box.made_at _ _ _ rfl)
      replace HD := HD.below hb
      replace HL := HL.below hb
      replace HK := HK.below hb
      replace HX1 := HX1.below hb
      replace HX2 := HX2.below hb
      replace HX3 := HX3.below hb
      replace HX4 := HX4.below hb
      replace HX5 := HX5.below hb
      replace HB := Lib.hid (below_step HB.out hb)
      clear hb
      have Z13 := zz; clear zz
      have Y12 := Lib.hid (And.intro Y11.out Z13.out); clear Y11 Z13
      clear hU13
      refine (flush_any l true _ _ A B n c m d _ HL.lsa (by omega) (by omega)).mono ?_
      rw [HFC.out, HFM.out]
      rintro e w14 ⟨E5, F5, j5, b5, s5, t5, rfl, ht, hj5, hs5, hb⟩
      have Z14 := Lib.hid hb.size
      have Y13 := Lib.hid (And.intro Y12.out Z14.out); clear Y12 Z14
      replace HD := HD.below hb
      replace HL := HL.below hb
      replace HK := HK.below hb
      replace HX1 := HX1.below hb
      replace HX2 := HX2.below hb
      replace HX3 := HX3.below hb
      replace HX4 := HX4.below hb
      replace HX5 := HX5.below hb
      replace HX6 := HX6.below hb
      replace HB := Lib.hid (below_step HB.out hb)
      clear hb
      have HO5 := ht.kept; clear ht
      by_cases hg : l.age = 3600
      · have hg1 : (l.age == 3600) = true := by rw [hg]; rfl
        clear hg
        have c11_0 := HX1.look 0
        have l11_0 := HX1.bx.lt
        have l11_1 := HX2.bx.lt
        have l11_2 := HX3.bx.lt
        have l11_3 := HX4.bx.lt
        have l11_4 := HX5.bx.lt
        have l11_5 := HX6.bx.lt
        go_wp2
        clear c11_0 l11_0 l11_1 l11_2 l11_3 l11_4 l11_5
        obtain ⟨U15, hU15⟩ : ∃ W : World, W = (w14.alloc (.cells #[.int .i64 0, .int .i64 ({ l with age := 3600 }.age), .int .i64 ({ l with age := 3600 }.options), .int .i64 ({ l with age := 3600 }.typ), .int .i64 ({ l with age := 3600 }.id), .int .i64 ({ l with age := 3600 }.adv), .int .i64 ({ l with age := 3600 }.seq), .slice E5 j5 b5, .slice F5 s5 t5, .int .i64 ({ l with age := 3600 }.mask), .int .i64 ({ l with age := 3600 }.cost)] 36)) := ⟨_, rfl⟩
        have hb : Below w14.heap.size w14 U15 := by rw [hU15]; exact ((Below.refl _ _).alloc (Nat.le_refl _) _)
        have zz : Hid (w14.heap.size + 1 = U15.heap.size) := Lib.hid (by rw [hU15]; simp)
        have HX7 : Kept w14.heap.size (w14.heap.size + 1) (BoxK w14.heap.size 36 #[.int .i64 0, .int .i64 ({ l with age := 3600 }.age), .int .i64 ({ l with age := 3600 }.options), .int .i64 ({ l with age := 3600 }.typ), .int .i64 ({ l with age := 3600 }.id), .int .i64 ({ l with age := 3600 }.adv), .int .i64 ({ l with age := 3600 }.seq), .slice E5 j5 b5, .slice F5 s5 t5, .int .i64 ({ l with age := 3600 }.mask), .int .i64 ({ l with age := 3600 }.cost)]) U15 := by rw [hU15]; exact Kept.box (Box.made_at _ _ _ rfl)
        replace HD := HD.below hb
        replace HL := HL.below hb
        replace HK := HK.below hb
        replace HX1 := HX1.below hb
        replace HX2 := HX2.below hb
        replace HX3 := HX3.below hb
        replace HX4 := HX4.below hb
        replace HX5 := HX5.below hb
        replace HX6 := HX6.below hb
        replace HO5 := HO5.below hb
        replace HB := Lib.hid (below_step HB.out hb)
        clear hb
        have Z15 := zz; clear zz
        have Y14 := Lib.hid (And.intro Y13.out Z15.out); clear Y13 Z15
        subst hU15
        go_ret
        exact ⟨rfl, HB.out⟩
      · have HN3 := Lib.hid (new_old l HF.out hg)
        have hg1 : (l.age == 3600) = false := by rw [beq_eq_false_iff_ne]; exact hg
        clear hg
        have c11_0 := HX1.look 0
        have c11_1 := HX1.look 1
        have c11_2 := HX1.look 2
        have c11_3 := HX1.look 3
        have c11_4 := HX1.look 4
        have c11_5 := HX1.look 5
        have c11_6 := HX1.look 6
        have c11_7 := HX1.look 7
        have c11_8 := HX1.look 8
        have c11_9 := HX1.look 9
        have l11_0 := HX1.bx.lt
        have l11_1 := HX2.bx.lt
        have l11_2 := HX3.bx.lt
        have l11_3 := HX4.bx.lt
        have l11_4 := HX5.bx.lt
        have l11_5 := HX6.bx.lt
        go_wp2_with fail
        clear c11_0 c11_1 c11_2 c11_3 c11_4 c11_5 c11_6 c11_7 c11_8 c11_9 l11_0 l11_1 l11_2 l11_3 l11_4 l11_5
        refine Calls.name ?_
        intro U15 hU15
        have hb : Below w14.heap.size w14 U15 := by rw [hU15]; exact ((Below.refl _ _).alloc (Nat.le_refl _) _)
        have zz : Hid (w14.heap.size + 1 = U15.heap.size) := Lib.hid (by rw [hU15]; simp)
        have HX7 : Kept w14.heap.size (w14.heap.size + 1) (BoxK w14.heap.size 36 #[.int .i64 0, .int .i64 ({ l with age := 3600 }.age), .int .i64 ({ l with age := 3600 }.options), .int .i64 ({ l with age := 3600 }.typ), .int .i64 ({ l with age := 3600 }.id), .int .i64 ({ l with age := 3600 }.adv), .int .i64 ({ l with age := 3600 }.seq), .slice E5 j5 b5, .slice F5 s5 t5, .int .i64 ({ l with age := 3600 }.mask), .int .i64 ({ l with age := 3600 }.cost)]) U15 := by rw [hU15]; exact Kept.box (Box.made_at _ _ _ rfl)
        replace HD := HD.below hb
        replace HL := HL.below hb
        replace HK := HK.below hb
        replace HX1 := HX1.below hb
        replace HX2 := HX2.below hb
        replace HX3 := HX3.below hb
        replace HX4 := HX4.below hb
        replace HX5 := HX5.below hb
        replace HX6 := HX6.below hb
        replace HO5 := HO5.below hb
        replace HB := Lib.hid (below_step HB.out hb)
        clear hb
        have Z15 := zz; clear zz
        have Y14 := Lib.hid (And.intro Y13.out Z15.out); clear Y13 Z15
        clear hU15
        refine (isNewer_any { l with age := 3600 } true _ _ E5 F5 j5 b5 s5 t5 l true _ _ A B n c m d _ HO5.two.at_ hj5 hs5 HL.lsa (by omega) (by omega)).mono ?_
        rw [HN3.out]
        rintro e w16 ⟨rfl, hb⟩
        have Z16 := Lib.hid hb.size
        have Y15 := Lib.hid (And.intro Y14.out Z16.out); clear Y14 Z16
        replace HD := HD.below hb
        replace HL := HL.below hb
        replace HK := HK.below hb
        replace HX1 := HX1.below hb
        replace HX2 := HX2.below hb
        replace HX3 := HX3.below hb
        replace HX4 := HX4.below hb
        replace HX5 := HX5.below hb
        replace HX6 := HX6.below hb
        replace HO5 := HO5.below hb
        replace HX7 := HX7.below hb
        replace HB := Lib.hid (below_step HB.out hb)
        clear hb
        have l12_0 := HX1.bx.lt
        have l12_1 := HX2.bx.lt
        have l12_2 := HX3.bx.lt
        have l12_3 := HX4.bx.lt
        have l12_4 := HX5.bx.lt
        have l12_5 := HX6.bx.lt
        have l12_6 := HX7.bx.lt
        go_wp2
        clear l12_0 l12_1 l12_2 l12_3 l12_4 l12_5 l12_6
        go_ret
        exact ⟨rfl, HB.out⟩
  · have HNB := Lib.hid (newB_no (fun e => hp (HRp.out.symm.trans e)))
    have hp1 : (p == 0) = false := by rw [beq_eq_false_iff_ne]; exact hp
    have hp2 : (p != 0) = true := by rw [bne_iff_ne]; exact hp
    have hq1 : (q == 0) = false := by rw [beq_eq_false_iff_ne]; exact fun e => hp (by rw [← HRp.out]; exact pairC_comm (HRq.out.trans e))
    clear hp
    refine Code.wp_name ?_
    intro U10 hU10
    have hb : Below w9.heap.size w9 U10 := by rw [hU10]; exact ((Below.refl _ _).alloc (Nat.le_refl _) _)
    have zz : Hid (w9.heap.size + 1 = U10.heap.size) := Lib.hid (by rw [hU10]; simp)
    have HX5 : Kept w9.heap.size (w9.heap.size + 1) (BoxK w9.heap.size 42 #[.int .i64 sc, .int .i64 sv]) U10 := by rw [hU10]; exact Kept.box (Box.made_at _ _ _ rfl)
    replace HD := HD.below hb
    replace HL := HL.below hb
    replace HK := HK.below hb
    replace HX1 := HX1.below hb
    replace HX2 := HX2.below hb
    replace HX3 := HX3.below hb
    replace HX4 := HX4.below hb
    replace HB := Lib.hid (below_step HB.out hb)
    clear hb
    have Z9 := zz; clear zz
    have Y8 := Lib.hid (And.intro Y7.out Z9.out); clear Y7 Z9
    clear hU10
    have SB : Hid (∀ W, Hid (Below U10.heap.size U10 W) → (fun W => W.cell? ⟨w2.heap.size, 0, none⟩ = some (.int .i64 l.age) ∧ W.cell? ⟨w2.heap.size, 1, none⟩ = some (.int .i64 l.options) ∧ W.cell? ⟨w2.heap.size, 2, none⟩ = some (.int .i64 l.typ) ∧ W.cell? ⟨w2.heap.size, 3, none⟩ = some (.int .i64 l.id) ∧ W.cell? ⟨w2.heap.size, 4, none⟩ = some (.int .i64 l.adv) ∧ W.cell? ⟨w2.heap.size, 5, none⟩ = some (.int .i64 l.seq) ∧ W.cell? ⟨w2.heap.size, 6, none⟩ = some (.slice A n c) ∧ W.cell? ⟨w2.heap.size, 7, none⟩ = some (.slice B m d) ∧ W.cell? ⟨w2.heap.size, 8, none⟩ = some (.int .i64 l.mask) ∧ W.cell? ⟨w2.heap.size, 9, none⟩ = some (.int .i64 l.cost) ∧ W.cell? ⟨w2.heap.size + 1, 0, none⟩ = some (.int .i64 k.age) ∧ W.cell? ⟨w2.heap.size + 1, 1, none⟩ = some (.int .i64 k.options) ∧ W.cell? ⟨w2.heap.size + 1, 2, none⟩ = some (.int .i64 k.typ) ∧ W.cell? ⟨w2.heap.size + 1, 3, none⟩ = some (.int .i64 k.id) ∧ W.cell? ⟨w2.heap.size + 1, 4, none⟩ = some (.int .i64 k.adv) ∧ W.cell? ⟨w2.heap.size + 1, 5, none⟩ = some (.int .i64 k.seq) ∧ W.cell? ⟨w2.heap.size + 1, 6, none⟩ = some (.slice A2 n2 c2) ∧ W.cell? ⟨w2.heap.size + 1, 7, none⟩ = some (.slice B2 m2 d2) ∧ W.cell? ⟨w2.heap.size + 1, 8, none⟩ = some (.int .i64 k.mask) ∧ W.cell? ⟨w2.heap.size + 1, 9, none⟩ = some (.int .i64 k.cost) ∧ W.cell? ⟨w4.heap.size, 0, none⟩ = some (.int .i64 p) ∧ W.cell? ⟨w4.heap.size, 1, none⟩ = some (.int .i64 oa) ∧ W.cell? ⟨w6.heap.size, 0, none⟩ = some (.int .i64 q) ∧ W.cell? ⟨w6.heap.size, 1, none⟩ = some (.int .i64 ob) ∧ W.cell? ⟨w9.heap.size, 0, none⟩ = some (.int .i64 sc) ∧ W.cell? ⟨w9.heap.size, 1, none⟩ = some (.int .i64 sv)) W) := fun W h => ⟨(HX1.below h.out).look 0, (HX1.below h.out).look 1, (HX1.below h.out).look 2, (HX1.below h.out).look 3, (HX1.below h.out).look 4, (HX1.below h.out).look 5, (HX1.below h.out).look 6, (HX1.below h.out).look 7, (HX1.below h.out).look 8, (HX1.below h.out).look 9, (HX2.below h.out).look 0, (HX2.below h.out).look 1, (HX2.below h.out).look 2, (HX2.below h.out).look 3, (HX2.below h.out).look 4, (HX2.below h.out).look 5, (HX2.below h.out).look 6, (HX2.below h.out).look 7, (HX2.below h.out).look 8, (HX2.below h.out).look 9, (HX3.below h.out).look 0, (HX3.below h.out).look 1, (HX4.below h.out).look 0, (HX4.below h.out).look 1, (HX5.below h.out).look 0, (HX5.below h.out).look 1⟩
    have V0 : Hid (Below U10.heap.size U10 U10.drew) := (Below.refl _ _).drew
    refine wp_region_held_drew (S := (fun W => W.cell? ⟨w2.heap.size, 0, none⟩ = some (.int .i64 l.age) ∧ W.cell? ⟨w2.heap.size, 1, none⟩ = some (.int .i64 l.options) ∧ W.cell? ⟨w2.heap.size, 2, none⟩ = some (.int .i64 l.typ) ∧ W.cell? ⟨w2.heap.size, 3, none⟩ = some (.int .i64 l.id) ∧ W.cell? ⟨w2.heap.size, 4, none⟩ = some (.int .i64 l.adv) ∧ W.cell? ⟨w2.heap.size, 5, none⟩ = some (.int .i64 l.seq) ∧ W.cell? ⟨w2.heap.size, 6, none⟩ = some (.slice A n c) ∧ W.cell? ⟨w2.heap.size, 7, none⟩ = some (.slice B m d) ∧ W.cell? ⟨w2.heap.size, 8, none⟩ = some (.int .i64 l.mask) ∧ W.cell? ⟨w2.heap.size, 9, none⟩ = some (.int .i64 l.cost) ∧ W.cell? ⟨w2.heap.size + 1, 0, none⟩ = some (.int .i64 k.age) ∧ W.cell? ⟨w2.heap.size + 1, 1, none⟩ = some (.int .i64 k.options) ∧ W.cell? ⟨w2.heap.size + 1, 2, none⟩ = some (.int .i64 k.typ) ∧ W.cell? ⟨w2.heap.size + 1, 3, none⟩ = some (.int .i64 k.id) ∧ W.cell? ⟨w2.heap.size + 1, 4, none⟩ = some (.int .i64 k.adv) ∧ W.cell? ⟨w2.heap.size + 1, 5, none⟩ = some (.int .i64 k.seq) ∧ W.cell? ⟨w2.heap.size + 1, 6, none⟩ = some (.slice A2 n2 c2) ∧ W.cell? ⟨w2.heap.size + 1, 7, none⟩ = some (.slice B2 m2 d2) ∧ W.cell? ⟨w2.heap.size + 1, 8, none⟩ = some (.int .i64 k.mask) ∧ W.cell? ⟨w2.heap.size + 1, 9, none⟩ = some (.int .i64 k.cost) ∧ W.cell? ⟨w4.heap.size, 0, none⟩ = some (.int .i64 p) ∧ W.cell? ⟨w4.heap.size, 1, none⟩ = some (.int .i64 oa) ∧ W.cell? ⟨w6.heap.size, 0, none⟩ = some (.int .i64 q) ∧ W.cell? ⟨w6.heap.size, 1, none⟩ = some (.int .i64 ob) ∧ W.cell? ⟨w9.heap.size, 0, none⟩ = some (.int .i64 sc) ∧ W.cell? ⟨w9.heap.size, 1, none⟩ = some (.int .i64 sv))) (by kernel_rfl) ?_ (fun hHeld => ?_)
    · (try dsimp only); exact SB.out _ (by assumption)
    refine wpAnyH_take (i := 0) (v := ?v1_0) rfl (by kernel_rfl) (by kernel_rfl) (by kernel_rfl) (fun _ _ _ h => h) (Or.inl ⟨by rfl, ?hy1_0⟩) (by assumption) ?rest1_0
    case hy1_0 => (intro W hSw; (try dsimp only at hSw); (go_simp <;> with_reducible rfl))
    (try simp only [List.getElem_toArray, List.getElem_cons_zero, Act.put, List.setIfInBounds_toArray, List.set_cons_zero, List.set_cons_succ])
    refine wpAnyH_take (i := 1) (v := ?v1_1) rfl (by kernel_rfl) (by kernel_rfl) (by kernel_rfl) (fun _ _ _ h => h) (Or.inl ⟨by rfl, ?hy1_1⟩) (by assumption) ?rest1_1
    case hy1_1 => (intro W hSw; (try dsimp only at hSw); (go_simp <;> with_reducible rfl))
    (try simp only [List.getElem_toArray, List.getElem_cons_succ, List.getElem_cons_zero, Act.put, List.setIfInBounds_toArray, List.set_cons_zero, List.set_cons_succ])
    refine wpAnyH_take (i := 2) (v := ?v1_2) rfl (by kernel_rfl) (by kernel_rfl) (by kernel_rfl) (fun _ _ _ h => h) (Or.inl ⟨by rfl, ?hy1_2⟩) (by assumption) ?rest1_2
    case hy1_2 => (intro W hSw; (try dsimp only at hSw); (go_simp <;> with_reducible rfl))
    (try simp only [List.getElem_toArray, List.getElem_cons_succ, List.getElem_cons_zero, Act.put, List.setIfInBounds_toArray, List.set_cons_zero, List.set_cons_succ])
    refine wpAnyH_ready (rs := [3]) (by kernel_rfl) (by simp) ?_
    refine AllReadyH.cons rfl (fun K hK => ?_) AllReadyH.nil
    go_simp
    with_reducible refine (specCompare_any l true _ _ A B n c m d k true _ _ A2 B2 n2 c2 m2 d2 _ (HL.below V0.out).lsa (by omega) (by omega) (HK.below V0.out).lsa (by omega) (by omega)).mono ?_
    rw [HRp.out, HRoa.out]
    rintro e u1_0 ⟨rfl, hb⟩
    have V1 := Lib.hid (below_step V0.out hb)
    clear hb
    (try go_wp2_with fail)
    refine hK.out _ _ ?_ (fun hHeld => ?_)
    · (try dsimp only); exact SB.out _ V1
    clear hK K
    (try simp only [List.getElem_toArray, List.getElem_cons_succ, List.getElem_cons_zero, Act.put, List.setIfInBounds_toArray, List.set_cons_zero, List.set_cons_succ])
    refine wpAnyH_take (i := 4) (v := ?v1_4) rfl (by kernel_rfl) (by kernel_rfl) (by kernel_rfl) (fun _ _ _ h => h) (Or.inl ⟨by rfl, ?hy1_4⟩) (by assumption) ?rest1_4
    case hy1_4 => (intro W hSw; (try dsimp only at hSw); (go_simp <;> with_reducible rfl))
    (try simp only [List.getElem_toArray, List.getElem_cons_succ, List.getElem_cons_zero, Act.put, List.setIfInBounds_toArray, List.set_cons_zero, List.set_cons_succ])
    refine wpAnyH_take (i := 5) (v := ?v1_5) rfl (by kernel_rfl) (by kernel_rfl) (by kernel_rfl) (fun _ _ _ h => h) (Or.inl ⟨by rfl, ?hy1_5⟩) (by assumption) ?rest1_5
    case hy1_5 => (intro W hSw; (try dsimp only at hSw); (go_simp <;> with_reducible rfl))
    (try simp only [List.getElem_toArray, List.getElem_cons_succ, List.getElem_cons_zero, Act.put, List.setIfInBounds_toArray, List.set_cons_zero, List.set_cons_succ])
    refine wpAnyH_take (i := 6) (v := ?v1_6) rfl (by kernel_rfl) (by kernel_rfl) (by kernel_rfl) (fun _ _ _ h => h) (Or.inl ⟨by rfl, ?hy1_6⟩) (by assumption) ?rest1_6
    case hy1_6 => (intro W hSw; (try dsimp only at hSw); (go_simp <;> with_reducible rfl))
    (try simp only [List.getElem_toArray, List.getElem_cons_succ, List.getElem_cons_zero, Act.put, List.setIfInBounds_toArray, List.set_cons_zero, List.set_cons_succ])
    refine wpAnyH_take (i := 7) (v := ?v1_7) rfl (by kernel_rfl) (by kernel_rfl) (by kernel_rfl) (fun _ _ _ h => h) (Or.inl ⟨by rfl, ?hy1_7⟩) (by assumption) ?rest1_7
    case hy1_7 => (intro W hSw; (try dsimp only at hSw); (go_simp <;> with_reducible rfl))
    (try simp only [List.getElem_toArray, List.getElem_cons_succ, List.getElem_cons_zero, Act.put, List.setIfInBounds_toArray, List.set_cons_zero, List.set_cons_succ])
    refine wpAnyH_take (i := 9) (v := ?v1_9) rfl (by kernel_rfl) (by kernel_rfl) (by kernel_rfl) (fun _ _ _ h => h) (Or.inl ⟨by rfl, ?hy1_9⟩) (by assumption) ?rest1_9
    case hy1_9 => (intro W hSw; (try dsimp only at hSw); (go_simp <;> with_reducible rfl))
    (try simp only [List.getElem_toArray, List.getElem_cons_succ, List.getElem_cons_zero, Act.put, List.setIfInBounds_toArray, List.set_cons_zero, List.set_cons_succ])
    refine wpAnyH_take (i := 10) (v := ?v1_10) rfl (by kernel_rfl) (by kernel_rfl) (by kernel_rfl) (fun _ _ _ h => h) (Or.inl ⟨by rfl, ?hy1_10⟩) (by assumption) ?rest1_10
    case hy1_10 => (intro W hSw; (try dsimp only at hSw); (go_simp <;> with_reducible rfl))
    (try simp only [List.getElem_toArray, List.getElem_cons_succ, List.getElem_cons_zero, Act.put, List.setIfInBounds_toArray, List.set_cons_zero, List.set_cons_succ])
    refine wpAnyH_take (i := 11) (v := ?v1_11) rfl (by kernel_rfl) (by kernel_rfl) (by kernel_rfl) (fun _ _ _ h => h) (Or.inl ⟨by rfl, ?hy1_11⟩) (by assumption) ?rest1_11
    case hy1_11 => (intro W hSw; (try dsimp only at hSw); (go_simp <;> with_reducible rfl))
    (try simp only [List.getElem_toArray, List.getElem_cons_succ, List.getElem_cons_zero, Act.put, List.setIfInBounds_toArray, List.set_cons_zero, List.set_cons_succ])
    refine wpAnyH_ready (rs := [8]) (by kernel_rfl) (by simp) ?_
    refine AllReadyH.cons rfl (fun K hK => ?_) AllReadyH.nil
    go_simp
    with_reducible refine (isNewer_any l true _ _ A B n c m d k true _ _ A2 B2 n2 c2 m2 d2 _ (HL.below V1.out).lsa (by omega) (by omega) (HK.below V1.out).lsa (by omega) (by omega)).mono ?_
    rw [HNB.out]
    rintro e u1_1 ⟨rfl, hb⟩
    have V2 := Lib.hid (below_step V1.out hb)
    clear hb
    (try go_wp2_with fail)
    refine hK.out _ _ ?_ (fun hHeld => ?_)
    · (try dsimp only); exact SB.out _ V2
    clear hK K
    (try simp only [List.getElem_toArray, List.getElem_cons_succ, List.getElem_cons_zero, Act.put, List.setIfInBounds_toArray, List.set_cons_zero, List.set_cons_succ])
    refine wpAnyH_take (i := 12) (v := ?v1_12) rfl (by kernel_rfl) (by kernel_rfl) (by kernel_rfl) (fun _ _ _ h => h) (Or.inl ⟨by rfl, ?hy1_12⟩) (by assumption) ?rest1_12
    case hy1_12 => (intro W hSw; (try dsimp only at hSw); (go_simp <;> with_reducible rfl))
    (try simp only [List.getElem_toArray, List.getElem_cons_succ, List.getElem_cons_zero, Act.put, List.setIfInBounds_toArray, List.set_cons_zero, List.set_cons_succ])
    refine wpAnyH_take (i := 13) (v := undef) rfl (by kernel_rfl) (by kernel_rfl) (by kernel_rfl) (fun _ _ _ h => h) (Or.inr ⟨by rfl, rfl⟩) (by assumption) ?_
    (try simp only [List.getElem_toArray, List.getElem_cons_succ, List.getElem_cons_zero, Act.put, List.setIfInBounds_toArray, List.set_cons_zero, List.set_cons_succ])
    refine wpAnyH_take (i := 14) (v := undef) rfl (by kernel_rfl) (by kernel_rfl) (by kernel_rfl) (fun _ _ _ h => h) (Or.inr ⟨by rfl, rfl⟩) (by assumption) ?_
    (try simp only [List.getElem_toArray, List.getElem_cons_succ, List.getElem_cons_zero, Act.put, List.setIfInBounds_toArray, List.set_cons_zero, List.set_cons_succ])
    refine wpAnyH_take (i := 15) (v := undef) rfl (by kernel_rfl) (by kernel_rfl) (by kernel_rfl) (fun _ _ _ h => h) (Or.inr ⟨by rfl, rfl⟩) (by assumption) ?_
    (try simp only [List.getElem_toArray, List.getElem_cons_succ, List.getElem_cons_zero, Act.put, List.setIfInBounds_toArray, List.set_cons_zero, List.set_cons_succ])
    refine wpAnyH_take (i := 16) (v := ?v1_16) rfl (by kernel_rfl) (by kernel_rfl) (by kernel_rfl) (fun _ _ _ h => h) (Or.inl ⟨by rfl, ?hy1_16⟩) (by assumption) ?rest1_16
    case hy1_16 => (intro W hSw; (try dsimp only at hSw); (go_simp <;> with_reducible rfl))
    (try simp only [List.getElem_toArray, List.getElem_cons_succ, List.getElem_cons_zero, Act.put, List.setIfInBounds_toArray, List.set_cons_zero, List.set_cons_succ])
    refine wpAnyH_take (i := 17) (v := ?v1_17) rfl (by kernel_rfl) (by kernel_rfl) (by kernel_rfl) (fun _ _ _ h => h) (Or.inl ⟨by rfl, ?hy1_17⟩) (by assumption) ?rest1_17
    case hy1_17 => (intro W hSw; (try dsimp only at hSw); (go_simp <;> with_reducible rfl))
    (try simp only [List.getElem_toArray, List.getElem_cons_succ, List.getElem_cons_zero, Act.put, List.setIfInBounds_toArray, List.set_cons_zero, List.set_cons_succ])
    refine wpAnyH_take (i := 18) (v := ?v1_18) rfl (by kernel_rfl) (by kernel_rfl) (by kernel_rfl) (fun _ _ _ h => h) (Or.inl ⟨by rfl, ?hy1_18⟩) (by assumption) ?rest1_18
    case hy1_18 => (intro W hSw; (try dsimp only at hSw); (go_simp <;> with_reducible rfl))
    (try simp only [List.getElem_toArray, List.getElem_cons_succ, List.getElem_cons_zero, Act.put, List.setIfInBounds_toArray, List.set_cons_zero, List.set_cons_succ])
    refine wpAnyH_take (i := 19) (v := ?v1_19) rfl (by kernel_rfl) (by kernel_rfl) (by kernel_rfl) (fun _ _ _ h => h) (Or.inl ⟨by rfl, ?hy1_19⟩) (by assumption) ?rest1_19
    case hy1_19 => (intro W hSw; (try dsimp only at hSw); (go_simp <;> with_reducible rfl))
    (try simp only [List.getElem_toArray, List.getElem_cons_succ, List.getElem_cons_zero, Act.put, List.setIfInBounds_toArray, List.set_cons_zero, List.set_cons_succ])
    refine wpAnyH_take (i := 20) (v := ?v1_20) rfl (by kernel_rfl) (by kernel_rfl) (by kernel_rfl) (fun _ _ _ h => h) (Or.inl ⟨by rfl, ?hy1_20⟩) (by assumption) ?rest1_20
    case hy1_20 => (intro W hSw; (try dsimp only at hSw); (go_simp <;> with_reducible rfl))
    (try simp only [List.getElem_toArray, List.getElem_cons_succ, List.getElem_cons_zero, Act.put, List.setIfInBounds_toArray, List.set_cons_zero, List.set_cons_succ])
    refine wpAnyH_take (i := 21) (v := ?v1_21) rfl (by kernel_rfl) (by kernel_rfl) (by kernel_rfl) (fun _ _ _ h => h) (Or.inl ⟨by rfl, ?hy1_21⟩) (by assumption) ?rest1_21
    case hy1_21 => (intro W hSw; (try dsimp only at hSw); (go_simp <;> with_reducible rfl))
    (try simp only [List.getElem_toArray, List.getElem_cons_succ, List.getElem_cons_zero, Act.put, List.setIfInBounds_toArray, List.set_cons_zero, List.set_cons_succ])
    refine wpAnyH_ready (rs := [22]) (by kernel_rfl) (by simp) ?_
    refine AllReadyH.cons rfl (fun K hK => ?_) AllReadyH.nil
    go_simp
    with_reducible refine (specNextSeq_any sq _).mono ?_
    rw [HRsc.out, HRsv.out]
    rintro e u1_2 ⟨rfl, hb⟩
    have V3 := Lib.hid (below_step V2.out hb)
    clear hb
    (try go_wp2_with fail)
    refine hK.out _ _ ?_ (fun hHeld => ?_)
    · (try dsimp only); exact SB.out _ V3
    clear hK K
    (try simp only [List.getElem_toArray, List.getElem_cons_succ, List.getElem_cons_zero, Act.put, List.setIfInBounds_toArray, List.set_cons_zero, List.set_cons_succ])
    refine wpAnyH_take (i := 23) (v := ?v1_23) rfl (by kernel_rfl) (by kernel_rfl) (by kernel_rfl) (fun _ _ _ h => h) (Or.inl ⟨by rfl, ?hy1_23⟩) (by assumption) ?rest1_23
    case hy1_23 => (intro W hSw; (try dsimp only at hSw); (go_simp <;> with_reducible rfl))
    (try simp only [List.getElem_toArray, List.getElem_cons_succ, List.getElem_cons_zero, Act.put, List.setIfInBounds_toArray, List.set_cons_zero, List.set_cons_succ])
    refine wpAnyH_take (i := 24) (v := ?v1_24) rfl (by kernel_rfl) (by kernel_rfl) (by kernel_rfl) (fun _ _ _ h => h) (Or.inl ⟨by rfl, ?hy1_24⟩) (by assumption) ?rest1_24
    case hy1_24 => (intro W hSw; (try dsimp only at hSw); (go_simp <;> with_reducible rfl))
    (try simp only [List.getElem_toArray, List.getElem_cons_succ, List.getElem_cons_zero, Act.put, List.setIfInBounds_toArray, List.set_cons_zero, List.set_cons_succ])
    refine wpAnyH_take (i := 25) (v := ?v1_25) rfl (by kernel_rfl) (by kernel_rfl) (by kernel_rfl) (fun _ _ _ h => h) (Or.inl ⟨by rfl, ?hy1_25⟩) (by assumption) ?rest1_25
    case hy1_25 => (intro W hSw; (try dsimp only at hSw); (go_simp <;> with_reducible rfl))
    (try simp only [List.getElem_toArray, List.getElem_cons_succ, List.getElem_cons_zero, Act.put, List.setIfInBounds_toArray, List.set_cons_zero, List.set_cons_succ])
    refine wpAnyH_take (i := 26) (v := ?v1_26) rfl (by kernel_rfl) (by kernel_rfl) (by kernel_rfl) (fun _ _ _ h => h) (Or.inl ⟨by rfl, ?hy1_26⟩) (by assumption) ?rest1_26
    case hy1_26 => (intro W hSw; (try dsimp only at hSw); (go_simp <;> with_reducible rfl))
    (try simp only [List.getElem_toArray, List.getElem_cons_succ, List.getElem_cons_zero, Act.put, List.setIfInBounds_toArray, List.set_cons_zero, List.set_cons_succ])
    refine wpAnyH_take (i := 27) (v := ?v1_27) rfl (by kernel_rfl) (by kernel_rfl) (by kernel_rfl) (fun _ _ _ h => h) (Or.inl ⟨by rfl, ?hy1_27⟩) (by assumption) ?rest1_27
    case hy1_27 => (intro W hSw; (try dsimp only at hSw); (go_simp <;> with_reducible rfl))
    (try simp only [List.getElem_toArray, List.getElem_cons_succ, List.getElem_cons_zero, Act.put, List.setIfInBounds_toArray, List.set_cons_zero, List.set_cons_succ])
    refine wpAnyH_take (i := 28) (v := ?v1_28) rfl (by kernel_rfl) (by kernel_rfl) (by kernel_rfl) (fun _ _ _ h => h) (Or.inl ⟨by rfl, ?hy1_28⟩) (by assumption) ?rest1_28
    case hy1_28 => (intro W hSw; (try dsimp only at hSw); (go_simp <;> with_reducible rfl))
    (try simp only [List.getElem_toArray, List.getElem_cons_succ, List.getElem_cons_zero, Act.put, List.setIfInBounds_toArray, List.set_cons_zero, List.set_cons_succ])
    refine wpAnyH_take (i := 29) (v := ?v1_29) rfl (by kernel_rfl) (by kernel_rfl) (by kernel_rfl) (fun _ _ _ h => h) (Or.inl ⟨by rfl, ?hy1_29⟩) (by assumption) ?rest1_29
    case hy1_29 => (intro W hSw; (try dsimp only at hSw); (go_simp <;> with_reducible rfl))
    (try simp only [List.getElem_toArray, List.getElem_cons_succ, List.getElem_cons_zero, Act.put, List.setIfInBounds_toArray, List.set_cons_zero, List.set_cons_succ])
    refine wpAnyH_take (i := 30) (v := ?v1_30) rfl (by kernel_rfl) (by kernel_rfl) (by kernel_rfl) (fun _ _ _ h => h) (Or.inl ⟨by rfl, ?hy1_30⟩) (by assumption) ?rest1_30
    case hy1_30 => (intro W hSw; (try dsimp only at hSw); (go_simp <;> with_reducible rfl))
    (try simp only [List.getElem_toArray, List.getElem_cons_succ, List.getElem_cons_zero, Act.put, List.setIfInBounds_toArray, List.set_cons_zero, List.set_cons_succ])
    refine wpAnyH_take (i := 31) (v := ?v1_31) rfl (by kernel_rfl) (by kernel_rfl) (by kernel_rfl) (fun _ _ _ h => h) (Or.inl ⟨by rfl, ?hy1_31⟩) (by assumption) ?rest1_31
    case hy1_31 => (intro W hSw; (try dsimp only at hSw); (go_simp <;> with_reducible rfl))
    (try simp only [List.getElem_toArray, List.getElem_cons_succ, List.getElem_cons_zero, Act.put, List.setIfInBounds_toArray, List.set_cons_zero, List.set_cons_succ])
    refine wpAnyH_take (i := 32) (v := ?v1_32) rfl (by kernel_rfl) (by kernel_rfl) (by kernel_rfl) (fun _ _ _ h => h) (Or.inl ⟨by rfl, ?hy1_32⟩) (by assumption) ?rest1_32
    case hy1_32 => (intro W hSw; (try dsimp only at hSw); (go_simp <;> with_reducible rfl))
    (try simp only [List.getElem_toArray, List.getElem_cons_succ, List.getElem_cons_zero, Act.put, List.setIfInBounds_toArray, List.set_cons_zero, List.set_cons_succ])
    refine wpAnyH_take (i := 33) (v := ?v1_33) rfl (by kernel_rfl) (by kernel_rfl) (by kernel_rfl) (fun _ _ _ h => h) (Or.inl ⟨by rfl, ?hy1_33⟩) (by assumption) ?rest1_33
    case hy1_33 => (intro W hSw; (try dsimp only at hSw); (go_simp <;> with_reducible rfl))
    (try simp only [List.getElem_toArray, List.getElem_cons_succ, List.getElem_cons_zero, Act.put, List.setIfInBounds_toArray, List.set_cons_zero, List.set_cons_succ])
    refine wpAnyH_done (by kernel_rfl) ?_ _
    have hb := V3.out
    clear SB V0 V1 V2 V3
    have Z10 := Lib.hid hb.size
    have Y9 := Lib.hid (And.intro Y8.out Z10.out); clear Y8 Z10
    replace HD := HD.below hb
    replace HL := HL.below hb
    replace HK := HK.below hb
    replace HX1 := HX1.below hb
    replace HX2 := HX2.below hb
    replace HX3 := HX3.below hb
    replace HX4 := HX4.below hb
    replace HX5 := HX5.below hb
    replace HB := Lib.hid (below_step HB.out hb)
    clear hb
    have c8_0 := HX3.look 0
    have l8_0 := HX1.bx.lt
    have l8_1 := HX2.bx.lt
    have l8_2 := HX3.bx.lt
    have l8_3 := HX4.bx.lt
    have l8_4 := HX5.bx.lt
    go_wp2
    clear c8_0 l8_0 l8_1 l8_2 l8_3 l8_4
    go_ret
    exact ⟨rfl, HB.out⟩


end Go.Proofs.Ytamclkjofojhmaa

namespace Go.Proofs.Ytamclkjofojhmaa.fnFresh
open Go.ChangeShapes Go.WideShapes Go.ChangeAt Go.RowKit
open Go.ChangeMaps (open_string shut_string)
set_option linter.unusedVariables false

theorem own : ownKnob Try.prog.godebug = none := by kernel_rfl
theorem laidOut : laidOutB Try.prog = true := by kernel_rfl

/-- A slice of integers that came in: nil, or a row of cap cells. -/
def IsRow (k : IntKind) (w : World) (a : Option Addr) (len cap : Nat) (zs : List Int) : Prop :=
  (a = none ∧ len = 0 ∧ cap = 0 ∧ zs = []) ∨
  ∃ x, a = some x ∧ len ≤ cap ∧ cap ≤ maxLen ∧ zs.length = cap ∧ (∀ i, i < zs.length → w.cell? (x.add i) = some (.int k (zs.getD i 0))) ∧ ∀ n ∈ zs, (Lit.int k n).wf = true

theorem walk (a0 : Option Addr) (len0 cap0 : Nat) (z0 : List Int) (w : World) (w0 : IsRow .u8 w a0 len0 cap0 z0) :
    Calls Try.prog 4 #[.slice a0 len0 cap0] w fun e w' => e = .returned (.bool true) ∧ Below w.heap.size w w' := by
  obtain ⟨xs0, hx0, hy0, hm0⟩ := bin_of_row w0
  exact law_Fresh a0 len0 cap0 xs0 w hx0 hy0 hm0

set_option maxRecDepth 100000 in
theorem lifted (os : Os) (started : os.Started) (H : Type) (enc : TypeId × Value → H) :
    ReturnsInHanded {} Try.checked os 4 .any (Rows.fnFreshSpec.pre6 enc Try.prog Try.f4 Rows.fnFreshRow.domain false) (Rows.fnFreshSpec.post enc Try.prog Try.f4 false true false false) := by
  refine returnsInHanded_of_change (C := Try.checked) own started (by kernel_rfl) Try.func4
    (ChangeSpec.witness6 (enc := enc) (C := Try.checked) false ⟨#[], #[.slice none 0 0], []⟩ 8 (by kernel_rfl) (by kernel_rfl) (by kernel_rfl) (by kernel_rfl)) ?_
  intro W base args ds gs before hval0 hW hcnd _
  have hval : ∀ (j : Nat) t v, Try.f4.params[j]? = some t → args[j]? = some v → Value.okWide Try.prog W .any base t v := hval0
  have hW' := hW
  obtain ⟨p, q, hA0, hV, rfl, hfz, hnd⟩ := hW
  have hA : DataW.TrodAll enc Try.prog W 0 (fun _ => true) true Try.f4.params.toList args.toList ds p := hA0
  rw [Try.params4] at hA hval
  obtain ⟨v0, vs0, d0, ds0, p0, q0, hargs, rfl, rfl, h0, r0⟩ := trodAll_cons hA
  obtain ⟨rfl, rfl, rfl⟩ := trodAll_nil r0
  obtain rfl : args = #[v0] := by cases args; simp_all
  obtain ⟨rfl, rfl⟩ := trodVars_none hV
  obtain ⟨a0, len0, cap0, rfl⟩ := okWide_slice Try.underlying22 (hval 0 22 v0 rfl rfl)
  have k0 := h0
  have lt0 : ∀ x ∈ p0, x.block < W.heap.size := by obtain ⟨m, hm⟩ := k0; exact DataW.trod_lt m _ _ _ hm
  obtain ⟨z0, w0⟩ : ∃ zs, IsRow .u8 W a0 len0 cap0 zs := by
    obtain ⟨fuel, hf⟩ := h0
    rcases open_ints Try.underlying22 Try.underlying5 (by kernel_rfl) hf with ⟨hcs, _⟩ | ⟨x, l, c, zs, hcs, _, hl, hm, hz, _, hcell, hwz⟩
    · simp [Value.cells] at hcs
      obtain ⟨rfl, rfl, rfl⟩ := hcs
      exact ⟨[], .inl ⟨rfl, rfl, rfl, rfl⟩⟩
    · simp [Value.cells] at hcs
      obtain ⟨rfl, rfl, rfl⟩ := hcs
      exact ⟨zs, .inr ⟨_, rfl, hl, hm, by simpa using hz, hcell, hwz⟩⟩
  clear hA0 hval0
  refine (walk a0 len0 cap0 z0 W w0).mono fun e W' ⟨he, bel⟩ => ?_
  subst he
  exact ⟨_, rfl, _, _, _, [], _, [], hW', trodAll_mk1 (shut_bool Try.underlying4 _), (trodAll_cons_mk (Below.trod laidOut (by kernel_rfl) (of_decide_eq_true (by kernel_rfl)) k0 bel lt0) trodAll_mk0), rfl, bel.frame _, fun h => by cases h⟩

theorem over : Rows.fnFreshRow.holds Try.pinned (OpenSpec.ofChange Rows.fnFreshSpec) :=
  OpenClaim.holds_of_wide 4 Try.f4 rfl rfl rfl rfl rfl rfl rfl ⟨rfl, rfl, rfl, rfl, rfl⟩ rfl rfl rfl rfl rfl (by kernel_rfl) Try.func4 (by kernel_rfl)
    (of_decide_eq_true (by kernel_rfl)) (by unfold Func.isWrapper; first | (rw [if_pos (by decide +kernel)]; kernel_rfl) | (rw [if_neg (by decide +kernel)]; exact ⟨rfl, rfl⟩))
    (fun os started H enc _ => lifted os started H enc)

theorem proved : Rows.FnFreshSaid := over
#print axioms proved
end Go.Proofs.Ytamclkjofojhmaa.fnFresh
