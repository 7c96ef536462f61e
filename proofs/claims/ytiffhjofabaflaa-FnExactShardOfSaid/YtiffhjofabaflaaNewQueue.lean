/-
  Both NewQueue. No statement is proved here.
-/
import Derived.Test.YtiffhjofabaflaaQueueLaws
import Derived.Test.YtiffhjofabaflaaSum
namespace Go.Proofs.Ytiffhjofabaflaa
open Go.RowKit
set_option linter.unusedVariables false

/-- What NewQueue answers: code and Cap. -/
def nqC (a : Int) : Int := if 1 ≤ a ∧ a ≤ 8 then 0 else 3
def nqV (a : Int) : Int := if 1 ≤ a ∧ a ≤ 8 then a else 0

set_option maxHeartbeats 1600000 in
theorem specNewQueue_any (a : Int) (w : World) :
    Calls Try.prog 54 #[.int .i64 a] w fun e w' => ∃ A n c E m d, e = .returned (.agg #[.int .i64 (nqC a), .int .i64 (nqV a), .bool false, .slice A n c, .bool false, .slice E m d]) ∧ Kept w.heap.size w'.heap.size (QK w.heap.size w'.heap.size A n [] E m []) w' ∧ Below w.heap.size w w' := by
  by_cases h : 1 ≤ a ∧ a ≤ 8
  · have HB := Lib.hid (Below.refl w.heap.size w)
    have HA := Lib.hid (allIn_one_yes h.1 h.2)
    have HR : Hid (nqC a = 0 ∧ nqV a = a) := Lib.hid ⟨if_pos h, if_pos h⟩
    clear h
    go_enter Try.func54, Try.ntmps54
    go_wp2_with fail
    refine Calls.name ?_
    intro U1 hU1
    have hb : Below w.heap.size w U1 := by rw [hU1]; exact ((Below.refl _ _).alloc (Nat.le_refl _) _)
    have zz : Hid (w.heap.size + 1 = U1.heap.size) := Lib.hid (by rw [hU1]; simp)
    have HX1 : Kept w.heap.size (w.heap.size + 1) (BoxK w.heap.size 63 #[.int .i64 0, .int .i64 0, .bool false, .slice none 0 0, .bool false, .slice none 0 0]) U1 := by rw [hU1]; exact Kept.box (Box.made_at _ _ _ rfl)
    replace HB := Lib.hid (below_step HB.out hb)
    clear hb
    have Z1 := zz; clear zz
    clear hU1
    refine (l1In_any a 1 8 _).mono ?_
    rw [HA.out]
    rintro e w2 ⟨rfl, rfl⟩
    have c2_0 := HX1.look 0
    have c2_1 := HX1.look 1
    have c2_2 := HX1.look 2
    have c2_3 := HX1.look 3
    have c2_4 := HX1.look 4
    have c2_5 := HX1.look 5
    have f2_0 := HX1.free 0
    have f2_1 := HX1.free 1
    have f2_2 := HX1.free 2
    have f2_3 := HX1.free 3
    have f2_4 := HX1.free 4
    have f2_5 := HX1.free 5
    have l2_0 := HX1.bx.lt
    go_wp2
    clear c2_0 c2_1 c2_2 c2_3 c2_4 c2_5 f2_0 f2_1 f2_2 f2_3 f2_4 f2_5 l2_0
    obtain ⟨U3, hU3⟩ : ∃ W : World, W = ((((((w2.setCell ⟨w.heap.size, 0, none⟩ (.int .i64 0)).setCell ⟨w.heap.size, 1, none⟩ (.int .i64 a)).setCell ⟨w.heap.size, 2, none⟩ (.bool false)).setCell ⟨w.heap.size, 3, none⟩ (.slice none 0 0)).setCell ⟨w.heap.size, 4, none⟩ (.bool false)).setCell ⟨w.heap.size, 5, none⟩ (.slice none 0 0)) := ⟨_, rfl⟩
    have ho : Only w.heap.size (w.heap.size + 1) w2 U3 := by rw [hU3]; exact (((((((Only.refl _ _ _).set (p := ⟨w.heap.size, 0, none⟩) (Nat.le_refl _) (Nat.lt_succ_self _) _).set (p := ⟨w.heap.size, 1, none⟩) (Nat.le_refl _) (Nat.lt_succ_self _) _).set (p := ⟨w.heap.size, 2, none⟩) (Nat.le_refl _) (Nat.lt_succ_self _) _).set (p := ⟨w.heap.size, 3, none⟩) (Nat.le_refl _) (Nat.lt_succ_self _) _).set (p := ⟨w.heap.size, 4, none⟩) (Nat.le_refl _) (Nat.lt_succ_self _) _).set (p := ⟨w.heap.size, 5, none⟩) (Nat.le_refl _) (Nat.lt_succ_self _) _)
    replace HX1 : Kept w.heap.size (w.heap.size + 1) (BoxK w.heap.size 63 #[.int .i64 0, .int .i64 a, .bool false, .slice none 0 0, .bool false, .slice none 0 0]) U3 := by rw [hU3]; exact Kept.box ((((((HX1.bx.puts 0 (.int .i64 0) (cs' := #[.int .i64 0, .int .i64 0, .bool false, .slice none 0 0, .bool false, .slice none 0 0]) rfl).puts 1 (.int .i64 a) (cs' := #[.int .i64 0, .int .i64 a, .bool false, .slice none 0 0, .bool false, .slice none 0 0]) rfl).puts 2 (.bool false) (cs' := #[.int .i64 0, .int .i64 a, .bool false, .slice none 0 0, .bool false, .slice none 0 0]) rfl).puts 3 (.slice none 0 0) (cs' := #[.int .i64 0, .int .i64 a, .bool false, .slice none 0 0, .bool false, .slice none 0 0]) rfl).puts 4 (.bool false) (cs' := #[.int .i64 0, .int .i64 a, .bool false, .slice none 0 0, .bool false, .slice none 0 0]) rfl).puts 5 (.slice none 0 0) (cs' := #[.int .i64 0, .int .i64 a, .bool false, .slice none 0 0, .bool false, .slice none 0 0]) rfl)
    replace HB := Lib.hid (Below.only HB.out ho (by have := Z1.out; omega) HB.out.size)
    have Z2 : Hid (U3.heap.size = w2.heap.size) := Lib.hid (by rw [hU3]; simp [World.setCell]); clear ho
    have q_0 := HX1.look 0
    have q_1 := HX1.look 1
    have q_2 := HX1.look 2
    have q_3 := HX1.look 3
    have q_4 := HX1.look 4
    have q_5 := HX1.look 5
    subst hU3
    exact bodyPost_ret (v := .agg #[.int .i64 0, .int .i64 a, .bool false, .slice none 0 0, .bool false, .slice none 0 0]) (by simp [results, Try.results54, go_sem, q_0, q_1, q_2, q_3, q_4, q_5]) rfl (by rw [HR.out.1, HR.out.2]; exact ⟨none, 0, 0, none, 0, 0, rfl, QK.kept (QK.nil _ _ _ _ _) (Nat.le_refl _), HB.out⟩)
  · have HB := Lib.hid (Below.refl w.heap.size w)
    have HA := Lib.hid (allIn_one_no h)
    have HR : Hid (nqC a = 3 ∧ nqV a = 0) := Lib.hid ⟨if_neg h, if_neg h⟩
    clear h
    go_enter Try.func54, Try.ntmps54
    go_wp2_with fail
    refine Calls.name ?_
    intro U1 hU1
    have hb : Below w.heap.size w U1 := by rw [hU1]; exact ((Below.refl _ _).alloc (Nat.le_refl _) _)
    have zz : Hid (w.heap.size + 1 = U1.heap.size) := Lib.hid (by rw [hU1]; simp)
    have HX1 : Kept w.heap.size (w.heap.size + 1) (BoxK w.heap.size 63 #[.int .i64 0, .int .i64 0, .bool false, .slice none 0 0, .bool false, .slice none 0 0]) U1 := by rw [hU1]; exact Kept.box (Box.made_at _ _ _ rfl)
    replace HB := Lib.hid (below_step HB.out hb)
    clear hb
    have Z1 := zz; clear zz
    clear hU1
    refine (l1In_any a 1 8 _).mono ?_
    rw [HA.out]
    rintro e w2 ⟨rfl, rfl⟩
    have c2_0 := HX1.look 0
    have c2_1 := HX1.look 1
    have c2_2 := HX1.look 2
    have c2_3 := HX1.look 3
    have c2_4 := HX1.look 4
    have c2_5 := HX1.look 5
    have f2_0 := HX1.free 0
    have f2_1 := HX1.free 1
    have f2_2 := HX1.free 2
    have f2_3 := HX1.free 3
    have f2_4 := HX1.free 4
    have f2_5 := HX1.free 5
    have l2_0 := HX1.bx.lt
    go_wp2
    clear c2_0 c2_1 c2_2 c2_3 c2_4 c2_5 f2_0 f2_1 f2_2 f2_3 f2_4 f2_5 l2_0
    obtain ⟨U3, hU3⟩ : ∃ W : World, W = ((((((w2.setCell ⟨w.heap.size, 0, none⟩ (.int .i64 3)).setCell ⟨w.heap.size, 1, none⟩ (.int .i64 0)).setCell ⟨w.heap.size, 2, none⟩ (.bool false)).setCell ⟨w.heap.size, 3, none⟩ (.slice none 0 0)).setCell ⟨w.heap.size, 4, none⟩ (.bool false)).setCell ⟨w.heap.size, 5, none⟩ (.slice none 0 0)) := ⟨_, rfl⟩
    have ho : Only w.heap.size (w.heap.size + 1) w2 U3 := by rw [hU3]; exact (((((((Only.refl _ _ _).set (p := ⟨w.heap.size, 0, none⟩) (Nat.le_refl _) (Nat.lt_succ_self _) _).set (p := ⟨w.heap.size, 1, none⟩) (Nat.le_refl _) (Nat.lt_succ_self _) _).set (p := ⟨w.heap.size, 2, none⟩) (Nat.le_refl _) (Nat.lt_succ_self _) _).set (p := ⟨w.heap.size, 3, none⟩) (Nat.le_refl _) (Nat.lt_succ_self _) _).set (p := ⟨w.heap.size, 4, none⟩) (Nat.le_refl _) (Nat.lt_succ_self _) _).set (p := ⟨w.heap.size, 5, none⟩) (Nat.le_refl _) (Nat.lt_succ_self _) _)
    replace HX1 : Kept w.heap.size (w.heap.size + 1) (BoxK w.heap.size 63 #[.int .i64 3, .int .i64 0, .bool false, .slice none 0 0, .bool false, .slice none 0 0]) U3 := by rw [hU3]; exact Kept.box ((((((HX1.bx.puts 0 (.int .i64 3) (cs' := #[.int .i64 3, .int .i64 0, .bool false, .slice none 0 0, .bool false, .slice none 0 0]) rfl).puts 1 (.int .i64 0) (cs' := #[.int .i64 3, .int .i64 0, .bool false, .slice none 0 0, .bool false, .slice none 0 0]) rfl).puts 2 (.bool false) (cs' := #[.int .i64 3, .int .i64 0, .bool false, .slice none 0 0, .bool false, .slice none 0 0]) rfl).puts 3 (.slice none 0 0) (cs' := #[.int .i64 3, .int .i64 0, .bool false, .slice none 0 0, .bool false, .slice none 0 0]) rfl).puts 4 (.bool false) (cs' := #[.int .i64 3, .int .i64 0, .bool false, .slice none 0 0, .bool false, .slice none 0 0]) rfl).puts 5 (.slice none 0 0) (cs' := #[.int .i64 3, .int .i64 0, .bool false, .slice none 0 0, .bool false, .slice none 0 0]) rfl)
    replace HB := Lib.hid (Below.only HB.out ho (by have := Z1.out; omega) HB.out.size)
    have Z2 : Hid (U3.heap.size = w2.heap.size) := Lib.hid (by rw [hU3]; simp [World.setCell]); clear ho
    have q_0 := HX1.look 0
    have q_1 := HX1.look 1
    have q_2 := HX1.look 2
    have q_3 := HX1.look 3
    have q_4 := HX1.look 4
    have q_5 := HX1.look 5
    subst hU3
    exact bodyPost_ret (v := .agg #[.int .i64 3, .int .i64 0, .bool false, .slice none 0 0, .bool false, .slice none 0 0]) (by simp [results, Try.results54, go_sem, q_0, q_1, q_2, q_3, q_4, q_5]) rfl (by rw [HR.out.1, HR.out.2]; exact ⟨none, 0, 0, none, 0, 0, rfl, QK.kept (QK.nil _ _ _ _ _) (Nat.le_refl _), HB.out⟩)

set_option maxHeartbeats 1600000 in
theorem newQueue_any (a : Int) (w : World) :
    Calls Try.prog 53 #[.int .i64 a] w fun e w' => ∃ A n c E m d, e = .returned (.agg #[.int .i64 (nqC a), .int .i64 (nqV a), .bool false, .slice A n c, .bool false, .slice E m d]) ∧ Kept w.heap.size w'.heap.size (QK w.heap.size w'.heap.size A n [] E m []) w' ∧ Below w.heap.size w w' := by
  by_cases h : 1 ≤ a ∧ a ≤ 8
  · have HB := Lib.hid (Below.refl w.heap.size w)
    have HA := Lib.hid (allIn_one_yes h.1 h.2)
    have HR : Hid (nqC a = 0 ∧ nqV a = a) := Lib.hid ⟨if_pos h, if_pos h⟩
    clear h
    go_enter Try.func53, Try.ntmps53
    go_wp2_with fail
    refine Calls.name ?_
    intro U1 hU1
    have hb : Below w.heap.size w U1 := by rw [hU1]; exact (((Below.refl _ _).alloc (Nat.le_refl _) _).alloc (by simp <;> omega) _)
    have zz : Hid (w.heap.size + 2 = U1.heap.size) := Lib.hid (by rw [hU1]; simp)
    have HX1 : Kept w.heap.size (w.heap.size + 1) (BoxK w.heap.size 63 #[.int .i64 0, .int .i64 0, .bool false, .slice none 0 0, .bool false, .slice none 0 0]) U1 := by rw [hU1]; exact Kept.box ((Box.made_at _ _ _ rfl).over _)
    have HX2 : Kept (w.heap.size + 1) (w.heap.size + 1 + 1) (BoxK (w.heap.size + 1) 2 #[.int .i64 a]) U1 := by rw [hU1]; exact Kept.box (Box.made_at _ _ _ (by simp <;> omega))
    replace HB := Lib.hid (below_step HB.out hb)
    clear hb
    have Z1 := zz; clear zz
    clear hU1
    have HL := Lib.hid (HX2.look 0)
    refine (allWithin_one _ _ _ a _ HL.out).mono ?_
    rw [HA.out]
    rintro e w2 ⟨rfl, rfl⟩
    clear HL
    have c2_0 := HX1.look 0
    have c2_1 := HX1.look 1
    have c2_2 := HX1.look 2
    have c2_3 := HX1.look 3
    have c2_4 := HX1.look 4
    have c2_5 := HX1.look 5
    have f2_0 := HX1.free 0
    have f2_1 := HX1.free 1
    have f2_2 := HX1.free 2
    have f2_3 := HX1.free 3
    have f2_4 := HX1.free 4
    have f2_5 := HX1.free 5
    have l2_0 := HX1.bx.lt
    have l2_1 := HX2.bx.lt
    go_wp2
    clear c2_0 c2_1 c2_2 c2_3 c2_4 c2_5 f2_0 f2_1 f2_2 f2_3 f2_4 f2_5 l2_0 l2_1
    obtain ⟨U3, hU3⟩ : ∃ W : World, W = ((((((w2.setCell ⟨w.heap.size, 0, none⟩ (.int .i64 0)).setCell ⟨w.heap.size, 1, none⟩ (.int .i64 a)).setCell ⟨w.heap.size, 2, none⟩ (.bool false)).setCell ⟨w.heap.size, 3, none⟩ (.slice none 0 0)).setCell ⟨w.heap.size, 4, none⟩ (.bool false)).setCell ⟨w.heap.size, 5, none⟩ (.slice none 0 0)) := ⟨_, rfl⟩
    have ho : Only w.heap.size (w.heap.size + 1) w2 U3 := by rw [hU3]; exact (((((((Only.refl _ _ _).set (p := ⟨w.heap.size, 0, none⟩) (Nat.le_refl _) (Nat.lt_succ_self _) _).set (p := ⟨w.heap.size, 1, none⟩) (Nat.le_refl _) (Nat.lt_succ_self _) _).set (p := ⟨w.heap.size, 2, none⟩) (Nat.le_refl _) (Nat.lt_succ_self _) _).set (p := ⟨w.heap.size, 3, none⟩) (Nat.le_refl _) (Nat.lt_succ_self _) _).set (p := ⟨w.heap.size, 4, none⟩) (Nat.le_refl _) (Nat.lt_succ_self _) _).set (p := ⟨w.heap.size, 5, none⟩) (Nat.le_refl _) (Nat.lt_succ_self _) _)
    replace HX1 : Kept w.heap.size (w.heap.size + 1) (BoxK w.heap.size 63 #[.int .i64 0, .int .i64 a, .bool false, .slice none 0 0, .bool false, .slice none 0 0]) U3 := by rw [hU3]; exact Kept.box ((((((HX1.bx.puts 0 (.int .i64 0) (cs' := #[.int .i64 0, .int .i64 0, .bool false, .slice none 0 0, .bool false, .slice none 0 0]) rfl).puts 1 (.int .i64 a) (cs' := #[.int .i64 0, .int .i64 a, .bool false, .slice none 0 0, .bool false, .slice none 0 0]) rfl).puts 2 (.bool false) (cs' := #[.int .i64 0, .int .i64 a, .bool false, .slice none 0 0, .bool false, .slice none 0 0]) rfl).puts 3 (.slice none 0 0) (cs' := #[.int .i64 0, .int .i64 a, .bool false, .slice none 0 0, .bool false, .slice none 0 0]) rfl).puts 4 (.bool false) (cs' := #[.int .i64 0, .int .i64 a, .bool false, .slice none 0 0, .bool false, .slice none 0 0]) rfl).puts 5 (.slice none 0 0) (cs' := #[.int .i64 0, .int .i64 a, .bool false, .slice none 0 0, .bool false, .slice none 0 0]) rfl)
    replace HX2 := HX2.only ho (by have := Z1.out; omega)
    replace HB := Lib.hid (Below.only HB.out ho (by have := Z1.out; omega) HB.out.size)
    have Z2 : Hid (U3.heap.size = w2.heap.size) := Lib.hid (by rw [hU3]; simp [World.setCell]); clear ho
    have q_0 := HX1.look 0
    have q_1 := HX1.look 1
    have q_2 := HX1.look 2
    have q_3 := HX1.look 3
    have q_4 := HX1.look 4
    have q_5 := HX1.look 5
    subst hU3
    exact bodyPost_ret (v := .agg #[.int .i64 0, .int .i64 a, .bool false, .slice none 0 0, .bool false, .slice none 0 0]) (by simp [results, Try.results53, go_sem, q_0, q_1, q_2, q_3, q_4, q_5]) rfl (by rw [HR.out.1, HR.out.2]; exact ⟨none, 0, 0, none, 0, 0, rfl, QK.kept (QK.nil _ _ _ _ _) (Nat.le_refl _), HB.out⟩)
  · have HB := Lib.hid (Below.refl w.heap.size w)
    have HA := Lib.hid (allIn_one_no h)
    have HR : Hid (nqC a = 3 ∧ nqV a = 0) := Lib.hid ⟨if_neg h, if_neg h⟩
    clear h
    go_enter Try.func53, Try.ntmps53
    go_wp2_with fail
    refine Calls.name ?_
    intro U1 hU1
    have hb : Below w.heap.size w U1 := by rw [hU1]; exact (((Below.refl _ _).alloc (Nat.le_refl _) _).alloc (by simp <;> omega) _)
    have zz : Hid (w.heap.size + 2 = U1.heap.size) := Lib.hid (by rw [hU1]; simp)
    have HX1 : Kept w.heap.size (w.heap.size + 1) (BoxK w.heap.size 63 #[.int .i64 0, .int .i64 0, .bool false, .slice none 0 0, .bool false, .slice none 0 0]) U1 := by rw [hU1]; exact Kept.box ((Box.made_at _ _ _ rfl).over _)
    have HX2 : Kept (w.heap.size + 1) (w.heap.size + 1 + 1) (BoxK (w.heap.size + 1) 2 #[.int .i64 a]) U1 := by rw [hU1]; exact Kept.box (Box.made_at _ _ _ (by simp <;> omega))
    replace HB := Lib.hid (below_step HB.out hb)
    clear hb
    have Z1 := zz; clear zz
    clear hU1
    have HL := Lib.hid (HX2.look 0)
    refine (allWithin_one _ _ _ a _ HL.out).mono ?_
    rw [HA.out]
    rintro e w2 ⟨rfl, rfl⟩
    clear HL
    have c2_0 := HX1.look 0
    have c2_1 := HX1.look 1
    have c2_2 := HX1.look 2
    have c2_3 := HX1.look 3
    have c2_4 := HX1.look 4
    have c2_5 := HX1.look 5
    have f2_0 := HX1.free 0
    have f2_1 := HX1.free 1
    have f2_2 := HX1.free 2
    have f2_3 := HX1.free 3
    have f2_4 := HX1.free 4
    have f2_5 := HX1.free 5
    have l2_0 := HX1.bx.lt
    have l2_1 := HX2.bx.lt
    go_wp2
    clear c2_0 c2_1 c2_2 c2_3 c2_4 c2_5 f2_0 f2_1 f2_2 f2_3 f2_4 f2_5 l2_0 l2_1
    obtain ⟨U3, hU3⟩ : ∃ W : World, W = ((((((w2.setCell ⟨w.heap.size, 0, none⟩ (.int .i64 3)).setCell ⟨w.heap.size, 1, none⟩ (.int .i64 0)).setCell ⟨w.heap.size, 2, none⟩ (.bool false)).setCell ⟨w.heap.size, 3, none⟩ (.slice none 0 0)).setCell ⟨w.heap.size, 4, none⟩ (.bool false)).setCell ⟨w.heap.size, 5, none⟩ (.slice none 0 0)) := ⟨_, rfl⟩
    have ho : Only w.heap.size (w.heap.size + 1) w2 U3 := by rw [hU3]; exact (((((((Only.refl _ _ _).set (p := ⟨w.heap.size, 0, none⟩) (Nat.le_refl _) (Nat.lt_succ_self _) _).set (p := ⟨w.heap.size, 1, none⟩) (Nat.le_refl _) (Nat.lt_succ_self _) _).set (p := ⟨w.heap.size, 2, none⟩) (Nat.le_refl _) (Nat.lt_succ_self _) _).set (p := ⟨w.heap.size, 3, none⟩) (Nat.le_refl _) (Nat.lt_succ_self _) _).set (p := ⟨w.heap.size, 4, none⟩) (Nat.le_refl _) (Nat.lt_succ_self _) _).set (p := ⟨w.heap.size, 5, none⟩) (Nat.le_refl _) (Nat.lt_succ_self _) _)
    replace HX1 : Kept w.heap.size (w.heap.size + 1) (BoxK w.heap.size 63 #[.int .i64 3, .int .i64 0, .bool false, .slice none 0 0, .bool false, .slice none 0 0]) U3 := by rw [hU3]; exact Kept.box ((((((HX1.bx.puts 0 (.int .i64 3) (cs' := #[.int .i64 3, .int .i64 0, .bool false, .slice none 0 0, .bool false, .slice none 0 0]) rfl).puts 1 (.int .i64 0) (cs' := #[.int .i64 3, .int .i64 0, .bool false, .slice none 0 0, .bool false, .slice none 0 0]) rfl).puts 2 (.bool false) (cs' := #[.int .i64 3, .int .i64 0, .bool false, .slice none 0 0, .bool false, .slice none 0 0]) rfl).puts 3 (.slice none 0 0) (cs' := #[.int .i64 3, .int .i64 0, .bool false, .slice none 0 0, .bool false, .slice none 0 0]) rfl).puts 4 (.bool false) (cs' := #[.int .i64 3, .int .i64 0, .bool false, .slice none 0 0, .bool false, .slice none 0 0]) rfl).puts 5 (.slice none 0 0) (cs' := #[.int .i64 3, .int .i64 0, .bool false, .slice none 0 0, .bool false, .slice none 0 0]) rfl)
    replace HX2 := HX2.only ho (by have := Z1.out; omega)
    replace HB := Lib.hid (Below.only HB.out ho (by have := Z1.out; omega) HB.out.size)
    have Z2 : Hid (U3.heap.size = w2.heap.size) := Lib.hid (by rw [hU3]; simp [World.setCell]); clear ho
    have q_0 := HX1.look 0
    have q_1 := HX1.look 1
    have q_2 := HX1.look 2
    have q_3 := HX1.look 3
    have q_4 := HX1.look 4
    have q_5 := HX1.look 5
    subst hU3
    exact bodyPost_ret (v := .agg #[.int .i64 3, .int .i64 0, .bool false, .slice none 0 0, .bool false, .slice none 0 0]) (by simp [results, Try.results53, go_sem, q_0, q_1, q_2, q_3, q_4, q_5]) rfl (by rw [HR.out.1, HR.out.2]; exact ⟨none, 0, 0, none, 0, 0, rfl, QK.kept (QK.nil _ _ _ _ _) (Nat.le_refl _), HB.out⟩)


end Go.Proofs.Ytiffhjofabaflaa
