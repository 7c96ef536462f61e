/-
  Both EventFault. No statement is proved here.
-/
import Derived.Test.YtiffhjofabaflaaSpecOpFault
namespace Go.Proofs.Ytiffhjofabaflaa
open Go.RowKit
set_option linter.unusedVariables false

/-- No op at all. -/
def noOp (k : Int) (xs : List Int) (t i a N : Int) : Prop := k = 0 ∧ xs = [] ∧ (t = 0 ∧ i = 0 ∧ a = 0) ∧ N = 0
instance (k : Int) (xs : List Int) (t i a N : Int) : Decidable (noOp k xs t i a N) := by unfold noOp; exact inferInstance
/-- Has an event what its Kind needs, and nothing else. -/
def evForm (x y k : Int) (xs : List Int) (t i a N : Int) : Prop := x = 1 ∨ (x = 2 ∧ noOp k xs t i a N) ∨ (x = 3 ∧ noOp k xs t i a N ∧ y = 0)
instance (x y k : Int) (xs : List Int) (t i a N : Int) : Decidable (evForm x y k xs t i a N) := by unfold evForm; exact inferInstance
/-- The code of an event. -/
def evf (x y k : Int) (xs : List Int) (t i a N : Int) : Int := if ¬ evForm x y k xs t i a N then 1 else if ¬ (0 ≤ y ∧ y ≤ 3) then 3 else if x = 1 then opf k xs t i a N else 0
theorem evForm_kind {x y k : Int} {xs : List Int} {t i a N : Int} (h : evForm x y k xs t i a N) : 1 ≤ x ∧ x ≤ 3 := by
  unfold evForm at h; omega

set_option maxRecDepth 100000 in
set_option maxHeartbeats 1600000 in
theorem hasUnneeded_any (x y k t i a N : Int) (q : Bool) (lo hi : Nat) (A : Option Addr) (n c : Nat) (xs : List Int) (r : Bool) (w : World) (ha : Rep.u8.Sl q lo hi w A n xs) (hh : hi ≤ w.heap.size) (hn : n ≤ 1048576) (hx : 1 ≤ x ∧ x ≤ 3) (hr : r = true ↔ evForm x y k xs t i a N) :
    Calls Try.prog 152 #[.agg #[.int .i64 x, .int .i64 y, .int .i64 k, .slice A n c, .int .i64 t, .int .i64 i, .int .i64 a, .int .i64 N]] w fun e w' => e = .returned (.bool (!r)) ∧ Below w.heap.size w w' := by
  rcases (show x = 1 ∨ x = 2 ∨ x = 3 by omega) with rfl | rfl | rfl
  · have HB := Lib.hid (Below.refl w.heap.size w)
    have HA := Rep.Sl.kept ha hh
    obtain rfl : r = true := hr.2 (.inl rfl)
    clear hr hx
    clear ha
    go_enter Try.func152, Try.ntmps152
    go_wp2
    obtain ⟨U1, hU1⟩ : ∃ W : World, W = (w.alloc (.cells #[.int .i64 1, .int .i64 y, .int .i64 k, .slice A n c, .int .i64 t, .int .i64 i, .int .i64 a, .int .i64 N] 102)) := ⟨_, rfl⟩
    have hb : Below w.heap.size w U1 := by rw [hU1]; exact ((Below.refl _ _).alloc (Nat.le_refl _) _)
    have zz : Hid (w.heap.size + 1 = U1.heap.size) := Lib.hid (by rw [hU1]; simp)
    have HX1 : Kept w.heap.size (w.heap.size + 1) (BoxK w.heap.size 102 #[.int .i64 1, .int .i64 y, .int .i64 k, .slice A n c, .int .i64 t, .int .i64 i, .int .i64 a, .int .i64 N]) U1 := by rw [hU1]; exact Kept.box (Box.made_at _ _ _ rfl)
    replace HA := HA.below hb
    replace HB := Lib.hid (below_step HB.out hb)
    clear hb
    have Z1 := zz; clear zz
    subst hU1
    go_ret
    exact ⟨rfl, HB.out⟩
  · have HB := Lib.hid (Below.refl w.heap.size w)
    have HA := Rep.Sl.kept ha hh
    have HR : Hid (r = true ↔ k = 0 ∧ xs = [] ∧ (t = 0 ∧ i = 0 ∧ a = 0) ∧ N = 0) := Lib.hid (by rw [hr]; unfold evForm noOp; simp)
    clear hr hx
    clear ha
    go_enter Try.func152, Try.ntmps152
    go_wp2_with fail
    refine Calls.name ?_
    intro U1 hU1
    have hb : Below w.heap.size w U1 := by rw [hU1]; exact ((Below.refl _ _).alloc (Nat.le_refl _) _)
    have zz : Hid (w.heap.size + 1 = U1.heap.size) := Lib.hid (by rw [hU1]; simp)
    have HX1 : Kept w.heap.size (w.heap.size + 1) (BoxK w.heap.size 102 #[.int .i64 2, .int .i64 y, .int .i64 k, .slice A n c, .int .i64 t, .int .i64 i, .int .i64 a, .int .i64 N]) U1 := by rw [hU1]; exact Kept.box (Box.made_at _ _ _ rfl)
    replace HA := HA.below hb
    replace HB := Lib.hid (below_step HB.out hb)
    clear hb
    have Z1 := zz; clear zz
    clear hU1
    refine (sameOps_any k t i a N 0 0 0 0 0 q true lo hi 0 0 A none n c 0 0 xs [] r _ HA.sl HA.le (Rep.Sl_nil _ _ _ _ _ _) (Nat.zero_le _) HR.out).mono ?_
    rintro e w2 ⟨rfl, hb⟩
    have Z2 := Lib.hid hb.size
    replace HA := HA.below hb
    replace HX1 := HX1.below hb
    replace HB := Lib.hid (below_step HB.out hb)
    clear hb
    have l2_0 := HX1.bx.lt
    go_wp2
    clear l2_0
    go_ret
    exact ⟨rfl, HB.out⟩
  · by_cases h0 : ¬ y = 0
    · have HB := Lib.hid (Below.refl w.heap.size w)
      have HA := Rep.Sl.kept ha hh
      have hy : (y != 0) = true := by simpa using h0
      obtain rfl : r = false := by cases r with | false => rfl | true => exact absurd (hr.1 rfl) (by unfold evForm; rintro (h | h | h); omega; omega; exact h0 h.2.2)
      clear hr hx h0
      clear ha
      go_enter Try.func152, Try.ntmps152
      go_wp2
      obtain ⟨U1, hU1⟩ : ∃ W : World, W = (w.alloc (.cells #[.int .i64 3, .int .i64 y, .int .i64 k, .slice A n c, .int .i64 t, .int .i64 i, .int .i64 a, .int .i64 N] 102)) := ⟨_, rfl⟩
      have hb : Below w.heap.size w U1 := by rw [hU1]; exact ((Below.refl _ _).alloc (Nat.le_refl _) _)
      have zz : Hid (w.heap.size + 1 = U1.heap.size) := Lib.hid (by rw [hU1]; simp)
      have HX1 : Kept w.heap.size (w.heap.size + 1) (BoxK w.heap.size 102 #[.int .i64 3, .int .i64 y, .int .i64 k, .slice A n c, .int .i64 t, .int .i64 i, .int .i64 a, .int .i64 N]) U1 := by rw [hU1]; exact Kept.box (Box.made_at _ _ _ rfl)
      replace HA := HA.below hb
      replace HB := Lib.hid (below_step HB.out hb)
      clear hb
      have Z1 := zz; clear zz
      subst hU1
      go_ret
      exact ⟨rfl, HB.out⟩
    · obtain rfl : y = 0 := Classical.byContradiction h0
      clear h0
      have HB := Lib.hid (Below.refl w.heap.size w)
      have HA := Rep.Sl.kept ha hh
      have HR : Hid (r = true ↔ k = 0 ∧ xs = [] ∧ (t = 0 ∧ i = 0 ∧ a = 0) ∧ N = 0) := Lib.hid (by rw [hr]; unfold evForm noOp; simp)
      clear hr hx
      clear ha
      go_enter Try.func152, Try.ntmps152
      go_wp2_with fail
      refine Calls.name ?_
      intro U1 hU1
      have hb : Below w.heap.size w U1 := by rw [hU1]; exact ((Below.refl _ _).alloc (Nat.le_refl _) _)
      have zz : Hid (w.heap.size + 1 = U1.heap.size) := Lib.hid (by rw [hU1]; simp)
      have HX1 : Kept w.heap.size (w.heap.size + 1) (BoxK w.heap.size 102 #[.int .i64 3, .int .i64 0, .int .i64 k, .slice A n c, .int .i64 t, .int .i64 i, .int .i64 a, .int .i64 N]) U1 := by rw [hU1]; exact Kept.box (Box.made_at _ _ _ rfl)
      replace HA := HA.below hb
      replace HB := Lib.hid (below_step HB.out hb)
      clear hb
      have Z1 := zz; clear zz
      clear hU1
      refine (sameOps_any k t i a N 0 0 0 0 0 q true lo hi 0 0 A none n c 0 0 xs [] r _ HA.sl HA.le (Rep.Sl_nil _ _ _ _ _ _) (Nat.zero_le _) HR.out).mono ?_
      rintro e w2 ⟨rfl, hb⟩
      have Z2 := Lib.hid hb.size
      replace HA := HA.below hb
      replace HX1 := HX1.below hb
      replace HB := Lib.hid (below_step HB.out hb)
      clear hb
      have l2_0 := HX1.bx.lt
      go_wp2
      clear l2_0
      go_ret
      exact ⟨rfl, HB.out⟩

set_option maxRecDepth 100000 in
set_option maxHeartbeats 12800000 in
theorem eventFault_any (x y k t i a N : Int) (q : Bool) (lo hi : Nat) (A : Option Addr) (n c : Nat) (xs : List Int) (w : World) (ha : Rep.u8.Sl q lo hi w A n xs) (hh : hi ≤ w.heap.size) (hn : n ≤ 1048576) :
    Calls Try.prog 72 #[.agg #[.int .i64 x, .int .i64 y, .int .i64 k, .slice A n c, .int .i64 t, .int .i64 i, .int .i64 a, .int .i64 N]] w fun e w' => e = .returned (.int .i64 (evf x y k xs t i a N)) ∧ Below w.heap.size w w' := by
  have hl := ha.1
  by_cases hx : ¬ (1 ≤ x ∧ x ≤ 3)
  · have HB := Lib.hid (Below.refl w.heap.size w)
    have HA := Rep.Sl.kept ha hh
    have HIN := Lib.hid (allIn_one_no hx)
    have HQ : Hid (evf x y k xs t i a N = 1) := Lib.hid (by unfold evf; rw [if_pos (fun h => hx (evForm_kind h))])
    clear hx
    clear ha
    go_enter Try.func72, Try.ntmps72
    go_wp2_with fail
    refine Calls.name ?_
    intro U1 hU1
    have hb : Below w.heap.size w U1 := by rw [hU1]; exact (((Below.refl _ _).alloc (Nat.le_refl _) _).alloc (by simp <;> omega) _)
    have zz : Hid (w.heap.size + 2 = U1.heap.size) := Lib.hid (by rw [hU1]; simp)
    have HX1 : Kept w.heap.size (w.heap.size + 1) (BoxK w.heap.size 102 #[.int .i64 x, .int .i64 y, .int .i64 k, .slice A n c, .int .i64 t, .int .i64 i, .int .i64 a, .int .i64 N]) U1 := by rw [hU1]; exact Kept.box ((Box.made_at _ _ _ rfl).over _)
    have HX2 : Kept (w.heap.size + 1) (w.heap.size + 1 + 1) (BoxK (w.heap.size + 1) 2 #[.int .i64 x]) U1 := by rw [hU1]; exact Kept.box (Box.made_at _ _ _ (by simp <;> omega))
    replace HA := HA.below hb
    replace HB := Lib.hid (below_step HB.out hb)
    clear hb
    have Z1 := zz; clear zz
    clear hU1
    have HL := Lib.hid (HX2.look 0)
    refine (allWithin_one _ _ _ x _ HL.out).mono ?_
    rw [HIN.out]
    rintro e w2 ⟨rfl, rfl⟩
    clear HL
    have l2_0 := HX1.bx.lt
    have l2_1 := HX2.bx.lt
    go_wp2
    clear l2_0 l2_1
    go_ret
    exact ⟨by rw [HQ.out]; try rfl, HB.out⟩
  replace hx : 1 ≤ x ∧ x ≤ 3 := Classical.byContradiction hx
  have HIN := Lib.hid (allIn_one_yes hx.1 hx.2)
  by_cases hf : ¬ evForm x y k xs t i a N
  · have HB := Lib.hid (Below.refl w.heap.size w)
    have HA := Rep.Sl.kept ha hh
    have HF := Lib.hid hf
    have HQ : Hid (evf x y k xs t i a N = 1) := Lib.hid (by unfold evf; rw [if_pos hf])
    clear hf
    clear ha
    go_enter Try.func72, Try.ntmps72
    go_wp2_with fail
    refine Calls.name ?_
    intro U1 hU1
    have hb : Below w.heap.size w U1 := by rw [hU1]; exact (((Below.refl _ _).alloc (Nat.le_refl _) _).alloc (by simp <;> omega) _)
    have zz : Hid (w.heap.size + 2 = U1.heap.size) := Lib.hid (by rw [hU1]; simp)
    have HX1 : Kept w.heap.size (w.heap.size + 1) (BoxK w.heap.size 102 #[.int .i64 x, .int .i64 y, .int .i64 k, .slice A n c, .int .i64 t, .int .i64 i, .int .i64 a, .int .i64 N]) U1 := by rw [hU1]; exact Kept.box ((Box.made_at _ _ _ rfl).over _)
    have HX2 : Kept (w.heap.size + 1) (w.heap.size + 1 + 1) (BoxK (w.heap.size + 1) 2 #[.int .i64 x]) U1 := by rw [hU1]; exact Kept.box (Box.made_at _ _ _ (by simp <;> omega))
    replace HA := HA.below hb
    replace HB := Lib.hid (below_step HB.out hb)
    clear hb
    have Z1 := zz; clear zz
    clear hU1
    have HL := Lib.hid (HX2.look 0)
    refine (allWithin_one _ _ _ x _ HL.out).mono ?_
    rw [HIN.out]
    rintro e w2 ⟨rfl, rfl⟩
    clear HL
    have c2_0 := HX1.look 0
    have c2_1 := HX1.look 1
    have c2_2 := HX1.look 2
    have c2_3 := HX1.look 3
    have c2_4 := HX1.look 4
    have c2_5 := HX1.look 5
    have c2_6 := HX1.look 6
    have c2_7 := HX1.look 7
    have l2_0 := HX1.bx.lt
    have l2_1 := HX2.bx.lt
    go_wp2_with fail
    clear c2_0 c2_1 c2_2 c2_3 c2_4 c2_5 c2_6 c2_7 l2_0 l2_1
    refine (hasUnneeded_any x y k t i a N q lo hi A n c xs false _ HA.sl HA.le hn hx ⟨fun h => (by cases h), fun h => absurd h HF.out⟩).mono ?_
    rintro e w3 ⟨rfl, hb⟩
    have Z2 := Lib.hid hb.size
    replace HA := HA.below hb
    replace HX1 := HX1.below hb
    replace HX2 := HX2.below hb
    replace HB := Lib.hid (below_step HB.out hb)
    clear hb
    have l3_0 := HX1.bx.lt
    have l3_1 := HX2.bx.lt
    go_wp2
    clear l3_0 l3_1
    go_ret
    exact ⟨by rw [HQ.out]; try rfl, HB.out⟩
  have HF : Hid (evForm x y k xs t i a N) := Lib.hid (Classical.byContradiction hf)
  by_cases hy : ¬ (0 ≤ y ∧ y ≤ 3)
  · have HB := Lib.hid (Below.refl w.heap.size w)
    have HA := Rep.Sl.kept ha hh
    have HIY := Lib.hid (allIn_one_no hy)
    have HQ : Hid (evf x y k xs t i a N = 3) := Lib.hid (by unfold evf; rw [if_neg hf, if_pos hy])
    clear hf hy
    clear ha
    go_enter Try.func72, Try.ntmps72
    go_wp2_with fail
    refine Calls.name ?_
    intro U1 hU1
    have hb : Below w.heap.size w U1 := by rw [hU1]; exact (((Below.refl _ _).alloc (Nat.le_refl _) _).alloc (by simp <;> omega) _)
    have zz : Hid (w.heap.size + 2 = U1.heap.size) := Lib.hid (by rw [hU1]; simp)
    have HX1 : Kept w.heap.size (w.heap.size + 1) (BoxK w.heap.size 102 #[.int .i64 x, .int .i64 y, .int .i64 k, .slice A n c, .int .i64 t, .int .i64 i, .int .i64 a, .int .i64 N]) U1 := by rw [hU1]; exact Kept.box ((Box.made_at _ _ _ rfl).over _)
    have HX2 : Kept (w.heap.size + 1) (w.heap.size + 1 + 1) (BoxK (w.heap.size + 1) 2 #[.int .i64 x]) U1 := by rw [hU1]; exact Kept.box (Box.made_at _ _ _ (by simp <;> omega))
    replace HA := HA.below hb
    replace HB := Lib.hid (below_step HB.out hb)
    clear hb
    have Z1 := zz; clear zz
    clear hU1
    have HL := Lib.hid (HX2.look 0)
    refine (allWithin_one _ _ _ x _ HL.out).mono ?_
    rw [HIN.out]
    rintro e w2 ⟨rfl, rfl⟩
    clear HL
    have c2_0 := HX1.look 0
    have c2_1 := HX1.look 1
    have c2_2 := HX1.look 2
    have c2_3 := HX1.look 3
    have c2_4 := HX1.look 4
    have c2_5 := HX1.look 5
    have c2_6 := HX1.look 6
    have c2_7 := HX1.look 7
    have l2_0 := HX1.bx.lt
    have l2_1 := HX2.bx.lt
    go_wp2_with fail
    clear c2_0 c2_1 c2_2 c2_3 c2_4 c2_5 c2_6 c2_7 l2_0 l2_1
    refine (hasUnneeded_any x y k t i a N q lo hi A n c xs true _ HA.sl HA.le hn hx ⟨fun _ => HF.out, fun _ => rfl⟩).mono ?_
    rintro e w3 ⟨rfl, hb⟩
    have Z2 := Lib.hid hb.size
    replace HA := HA.below hb
    replace HX1 := HX1.below hb
    replace HX2 := HX2.below hb
    replace HB := Lib.hid (below_step HB.out hb)
    clear hb
    have c3_0 := HX1.look 1
    have l3_0 := HX1.bx.lt
    have l3_1 := HX2.bx.lt
    go_wp2_with fail
    clear c3_0 l3_0 l3_1
    refine Calls.name ?_
    intro U4 hU4
    have hb : Below w3.heap.size w3 U4 := by rw [hU4]; exact ((Below.refl _ _).alloc (Nat.le_refl _) _)
    have zz : Hid (w3.heap.size + 1 = U4.heap.size) := Lib.hid (by rw [hU4]; simp)
    have HX3 : Kept w3.heap.size (w3.heap.size + 1) (BoxK w3.heap.size 2 #[.int .i64 y]) U4 := by rw [hU4]; exact Kept.box (Box.made_at _ _ _ rfl)
    replace HA := HA.below hb
    replace HX1 := HX1.below hb
    replace HX2 := HX2.below hb
    replace HB := Lib.hid (below_step HB.out hb)
    clear hb
    have Z3 := zz; clear zz
    clear hU4
    have HL := Lib.hid (HX3.look 0)
    refine (allWithin_one _ _ _ y _ HL.out).mono ?_
    rw [HIY.out]
    rintro e w5 ⟨rfl, rfl⟩
    clear HL
    have l4_0 := HX1.bx.lt
    have l4_1 := HX2.bx.lt
    have l4_2 := HX3.bx.lt
    go_wp2
    clear l4_0 l4_1 l4_2
    go_ret
    exact ⟨by rw [HQ.out]; try rfl, HB.out⟩
  have HIY := Lib.hid (allIn_one_yes (Classical.byContradiction hy).1 (Classical.byContradiction hy).2)
  by_cases h1 : ¬ x = 1
  · have HB := Lib.hid (Below.refl w.heap.size w)
    have HA := Rep.Sl.kept ha hh
    have hx1 : (x == 1) = false := by simpa using h1
    have HQ : Hid (evf x y k xs t i a N = 0) := Lib.hid (by unfold evf; rw [if_neg hf, if_neg hy, if_neg h1])
    clear hf hy h1
    clear ha
    go_enter Try.func72, Try.ntmps72
    go_wp2_with fail
    refine Calls.name ?_
    intro U1 hU1
    have hb : Below w.heap.size w U1 := by rw [hU1]; exact (((Below.refl _ _).alloc (Nat.le_refl _) _).alloc (by simp <;> omega) _)
    have zz : Hid (w.heap.size + 2 = U1.heap.size) := Lib.hid (by rw [hU1]; simp)
    have HX1 : Kept w.heap.size (w.heap.size + 1) (BoxK w.heap.size 102 #[.int .i64 x, .int .i64 y, .int .i64 k, .slice A n c, .int .i64 t, .int .i64 i, .int .i64 a, .int .i64 N]) U1 := by rw [hU1]; exact Kept.box ((Box.made_at _ _ _ rfl).over _)
    have HX2 : Kept (w.heap.size + 1) (w.heap.size + 1 + 1) (BoxK (w.heap.size + 1) 2 #[.int .i64 x]) U1 := by rw [hU1]; exact Kept.box (Box.made_at _ _ _ (by simp <;> omega))
    replace HA := HA.below hb
    replace HB := Lib.hid (below_step HB.out hb)
    clear hb
    have Z1 := zz; clear zz
    clear hU1
    have HL := Lib.hid (HX2.look 0)
    refine (allWithin_one _ _ _ x _ HL.out).mono ?_
    rw [HIN.out]
    rintro e w2 ⟨rfl, rfl⟩
    clear HL
    have c2_0 := HX1.look 0
    have c2_1 := HX1.look 1
    have c2_2 := HX1.look 2
    have c2_3 := HX1.look 3
    have c2_4 := HX1.look 4
    have c2_5 := HX1.look 5
    have c2_6 := HX1.look 6
    have c2_7 := HX1.look 7
    have l2_0 := HX1.bx.lt
    have l2_1 := HX2.bx.lt
    go_wp2_with fail
    clear c2_0 c2_1 c2_2 c2_3 c2_4 c2_5 c2_6 c2_7 l2_0 l2_1
    refine (hasUnneeded_any x y k t i a N q lo hi A n c xs true _ HA.sl HA.le hn hx ⟨fun _ => HF.out, fun _ => rfl⟩).mono ?_
    rintro e w3 ⟨rfl, hb⟩
    have Z2 := Lib.hid hb.size
    replace HA := HA.below hb
    replace HX1 := HX1.below hb
    replace HX2 := HX2.below hb
    replace HB := Lib.hid (below_step HB.out hb)
    clear hb
    have c3_0 := HX1.look 1
    have l3_0 := HX1.bx.lt
    have l3_1 := HX2.bx.lt
    go_wp2_with fail
    clear c3_0 l3_0 l3_1
    refine Calls.name ?_
    intro U4 hU4
    have hb : Below w3.heap.size w3 U4 := by rw [hU4]; exact ((Below.refl _ _).alloc (Nat.le_refl _) _)
    have zz : Hid (w3.heap.size + 1 = U4.heap.size) := Lib.hid (by rw [hU4]; simp)
    have HX3 : Kept w3.heap.size (w3.heap.size + 1) (BoxK w3.heap.size 2 #[.int .i64 y]) U4 := by rw [hU4]; exact Kept.box (Box.made_at _ _ _ rfl)
    replace HA := HA.below hb
    replace HX1 := HX1.below hb
    replace HX2 := HX2.below hb
    replace HB := Lib.hid (below_step HB.out hb)
    clear hb
    have Z3 := zz; clear zz
    clear hU4
    have HL := Lib.hid (HX3.look 0)
    refine (allWithin_one _ _ _ y _ HL.out).mono ?_
    rw [HIY.out]
    rintro e w5 ⟨rfl, rfl⟩
    clear HL
    have c4_0 := HX1.look 0
    have l4_0 := HX1.bx.lt
    have l4_1 := HX2.bx.lt
    have l4_2 := HX3.bx.lt
    go_wp2
    clear c4_0 l4_0 l4_1 l4_2
    go_ret
    exact ⟨by rw [HQ.out]; try rfl, HB.out⟩
  · have HB := Lib.hid (Below.refl w.heap.size w)
    have HA := Rep.Sl.kept ha hh
    obtain rfl : x = 1 := Classical.byContradiction h1
    obtain ⟨rr, hrr⟩ : ∃ z, opf k xs t i a N = z := ⟨_, rfl⟩
    have HOP := Lib.hid hrr
    have HQ : Hid (evf 1 y k xs t i a N = rr) := Lib.hid (by unfold evf; rw [if_neg hf, if_neg hy, if_pos rfl, hrr])
    clear hf hy h1 hrr hx
    clear ha
    go_enter Try.func72, Try.ntmps72
    go_wp2_with fail
    refine Calls.name ?_
    intro U1 hU1
    have hb : Below w.heap.size w U1 := by rw [hU1]; exact (((Below.refl _ _).alloc (Nat.le_refl _) _).alloc (by simp <;> omega) _)
    have zz : Hid (w.heap.size + 2 = U1.heap.size) := Lib.hid (by rw [hU1]; simp)
    have HX1 : Kept w.heap.size (w.heap.size + 1) (BoxK w.heap.size 102 #[.int .i64 1, .int .i64 y, .int .i64 k, .slice A n c, .int .i64 t, .int .i64 i, .int .i64 a, .int .i64 N]) U1 := by rw [hU1]; exact Kept.box ((Box.made_at _ _ _ rfl).over _)
    have HX2 : Kept (w.heap.size + 1) (w.heap.size + 1 + 1) (BoxK (w.heap.size + 1) 2 #[.int .i64 1]) U1 := by rw [hU1]; exact Kept.box (Box.made_at _ _ _ (by simp <;> omega))
    replace HA := HA.below hb
    replace HB := Lib.hid (below_step HB.out hb)
    clear hb
    have Z1 := zz; clear zz
    clear hU1
    have HL := Lib.hid (HX2.look 0)
    refine (allWithin_one _ _ _ 1 _ HL.out).mono ?_
    rw [HIN.out]
    rintro e w2 ⟨rfl, rfl⟩
    clear HL
    have c2_0 := HX1.look 0
    have c2_1 := HX1.look 1
    have c2_2 := HX1.look 2
    have c2_3 := HX1.look 3
    have c2_4 := HX1.look 4
    have c2_5 := HX1.look 5
    have c2_6 := HX1.look 6
    have c2_7 := HX1.look 7
    have l2_0 := HX1.bx.lt
    have l2_1 := HX2.bx.lt
    go_wp2_with fail
    clear c2_0 c2_1 c2_2 c2_3 c2_4 c2_5 c2_6 c2_7 l2_0 l2_1
    refine (hasUnneeded_any 1 y k t i a N q lo hi A n c xs true _ HA.sl HA.le hn (by omega) ⟨fun _ => HF.out, fun _ => rfl⟩).mono ?_
    rintro e w3 ⟨rfl, hb⟩
    have Z2 := Lib.hid hb.size
    replace HA := HA.below hb
    replace HX1 := HX1.below hb
    replace HX2 := HX2.below hb
    replace HB := Lib.hid (below_step HB.out hb)
    clear hb
    have c3_0 := HX1.look 1
    have l3_0 := HX1.bx.lt
    have l3_1 := HX2.bx.lt
    go_wp2_with fail
    clear c3_0 l3_0 l3_1
    refine Calls.name ?_
    intro U4 hU4
    have hb : Below w3.heap.size w3 U4 := by rw [hU4]; exact ((Below.refl _ _).alloc (Nat.le_refl _) _)
    have zz : Hid (w3.heap.size + 1 = U4.heap.size) := Lib.hid (by rw [hU4]; simp)
    have HX3 : Kept w3.heap.size (w3.heap.size + 1) (BoxK w3.heap.size 2 #[.int .i64 y]) U4 := by rw [hU4]; exact Kept.box (Box.made_at _ _ _ rfl)
    replace HA := HA.below hb
    replace HX1 := HX1.below hb
    replace HX2 := HX2.below hb
    replace HB := Lib.hid (below_step HB.out hb)
    clear hb
    have Z3 := zz; clear zz
    clear hU4
    have HL := Lib.hid (HX3.look 0)
    refine (allWithin_one _ _ _ y _ HL.out).mono ?_
    rw [HIY.out]
    rintro e w5 ⟨rfl, rfl⟩
    clear HL
    have c4_0 := HX1.look 0
    have c4_1 := HX1.look 2
    have c4_2 := HX1.look 3
    have c4_3 := HX1.look 4
    have c4_4 := HX1.look 5
    have c4_5 := HX1.look 6
    have c4_6 := HX1.look 7
    have l4_0 := HX1.bx.lt
    have l4_1 := HX2.bx.lt
    have l4_2 := HX3.bx.lt
    go_wp2_with fail
    clear c4_0 c4_1 c4_2 c4_3 c4_4 c4_5 c4_6 l4_0 l4_1 l4_2
    refine (opFault_any k t i a N q lo hi A n c xs _ HA.sl HA.le hn).mono ?_
    rw [HOP.out]
    rintro e w6 ⟨rfl, hb⟩
    have Z4 := Lib.hid hb.size
    replace HA := HA.below hb
    replace HX1 := HX1.below hb
    replace HX2 := HX2.below hb
    replace HX3 := HX3.below hb
    replace HB := Lib.hid (below_step HB.out hb)
    clear hb
    have l5_0 := HX1.bx.lt
    have l5_1 := HX2.bx.lt
    have l5_2 := HX3.bx.lt
    go_wp2
    clear l5_0 l5_1 l5_2
    go_ret
    exact ⟨by rw [HQ.out]; try rfl, HB.out⟩

set_option maxRecDepth 100000 in
set_option maxHeartbeats 1600000 in
theorem l8NoOp2 (g : Nat) (k t i a N : Int) (A : Option Addr) (n c : Nat) (r : Bool) (w : World) (x0 : w.cell? ⟨g, 2, none⟩ = some (.int .i64 k)) (x1 : w.cell? ⟨g, 3, none⟩ = some (.slice A n c)) (x2 : w.cell? ⟨g, 4, none⟩ = some (.int .i64 t)) (x3 : w.cell? ⟨g, 5, none⟩ = some (.int .i64 i)) (x4 : w.cell? ⟨g, 6, none⟩ = some (.int .i64 a)) (x5 : w.cell? ⟨g, 7, none⟩ = some (.int .i64 N)) (hr : r = true ↔ k = 0 ∧ n = 0 ∧ (t = 0 ∧ i = 0 ∧ a = 0) ∧ N = 0) :
    Calls Try.prog 151 #[.pointer (some ⟨g, 2, none⟩)] w fun e w' => e = .returned (.bool r) ∧ w' = w := by
  have X1 := Lib.hid x1
  have X2 := Lib.hid x2
  have X3 := Lib.hid x3
  have X4 := Lib.hid x4
  have X5 := Lib.hid x5
  clear x1 x2 x3 x4 x5
  by_cases h0 : ¬ k = 0
  · have hk : (k == 0) = false := by simpa using h0
    obtain rfl : r = false := by cases r with | false => rfl | true => exact absurd (hr.1 rfl).1 h0
    clear hr h0
    go_enter Try.func151, Try.ntmps151
    go_wp2
    go_ret
    exact ⟨rfl, rfl⟩
  · obtain rfl : k = 0 := Classical.byContradiction h0
    have HR : Hid (r = true ↔ n = 0 ∧ (t = 0 ∧ i = 0 ∧ a = 0) ∧ N = 0) := Lib.hid (by rw [hr]; simp)
    clear hr h0
    go_enter Try.func151, Try.ntmps151
    go_wp2_with fail
    refine (l8Needs2_000 g t i a N A n c r _ X1.out X2.out X3.out X4.out X5.out HR.out).mono ?_
    rintro e w2 ⟨rfl, rfl⟩
    go_wp2
    go_ret
    exact ⟨rfl, rfl⟩

set_option maxRecDepth 100000 in
set_option maxHeartbeats 12800000 in
theorem specEventFault_any (x y k t i a N : Int) (q : Bool) (lo hi : Nat) (A : Option Addr) (n c : Nat) (xs : List Int) (w : World) (ha : Rep.u8.Sl q lo hi w A n xs) (hh : hi ≤ w.heap.size) (hn : n ≤ 1048576) :
    Calls Try.prog 70 #[.agg #[.int .i64 x, .int .i64 y, .int .i64 k, .slice A n c, .int .i64 t, .int .i64 i, .int .i64 a, .int .i64 N]] w fun e w' => e = .returned (.int .i64 (evf x y k xs t i a N)) ∧ Below w.heap.size w w' := by
  have hl := ha.1
  have hnl := len_nil hl
  by_cases hx : ¬ (1 ≤ x ∧ x ≤ 3)
  · have HB := Lib.hid (Below.refl w.heap.size w)
    have HA := Rep.Sl.kept ha hh
    have HQ : Hid (evf x y k xs t i a N = 1) := Lib.hid (by unfold evf; rw [if_pos (fun h => hx (evForm_kind h))])
    have hx1 : (x == 1) = false := by simp; omega
    have hx2 : (x == 2) = false := by simp; omega
    have hx3 : (x == 3) = false := by simp; omega
    clear hx
    clear ha hnl hl
    go_enter Try.func70, Try.ntmps70
    go_wp2
    obtain ⟨U1, hU1⟩ : ∃ W : World, W = (w.alloc (.cells #[.int .i64 x, .int .i64 y, .int .i64 k, .slice A n c, .int .i64 t, .int .i64 i, .int .i64 a, .int .i64 N] 102)) := ⟨_, rfl⟩
    have hb : Below w.heap.size w U1 := by rw [hU1]; exact ((Below.refl _ _).alloc (Nat.le_refl _) _)
    have zz : Hid (w.heap.size + 1 = U1.heap.size) := Lib.hid (by rw [hU1]; simp)
    have HX1 : Kept w.heap.size (w.heap.size + 1) (BoxK w.heap.size 102 #[.int .i64 x, .int .i64 y, .int .i64 k, .slice A n c, .int .i64 t, .int .i64 i, .int .i64 a, .int .i64 N]) U1 := by rw [hU1]; exact Kept.box (Box.made_at _ _ _ rfl)
    replace HA := HA.below hb
    replace HB := Lib.hid (below_step HB.out hb)
    clear hb
    have Z1 := zz; clear zz
    subst hU1
    go_ret
    exact ⟨by rw [HQ.out]; try rfl, HB.out⟩
  rcases (show x = 1 ∨ x = 2 ∨ x = 3 by omega) with rfl | rfl | rfl
  · have hf : ¬ ¬ evForm 1 y k xs t i a N := fun h => h (.inl rfl)
    by_cases hy : ¬ (0 ≤ y ∧ y ≤ 3)
    · have HB := Lib.hid (Below.refl w.heap.size w)
      have HA := Rep.Sl.kept ha hh
      have HIY := Lib.hid (allIn_one_no hy)
      have HQ : Hid (evf 1 y k xs t i a N = 3) := Lib.hid (by unfold evf; rw [if_neg hf, if_pos hy])
      clear hf hy hx
      clear ha hnl hl
      go_enter Try.func70, Try.ntmps70
      go_wp2_with fail
      refine Calls.name ?_
      intro U1 hU1
      have hb : Below w.heap.size w U1 := by rw [hU1]; exact ((Below.refl _ _).alloc (Nat.le_refl _) _)
      have zz : Hid (w.heap.size + 1 = U1.heap.size) := Lib.hid (by rw [hU1]; simp)
      have HX1 : Kept w.heap.size (w.heap.size + 1) (BoxK w.heap.size 102 #[.int .i64 1, .int .i64 y, .int .i64 k, .slice A n c, .int .i64 t, .int .i64 i, .int .i64 a, .int .i64 N]) U1 := by rw [hU1]; exact Kept.box (Box.made_at _ _ _ rfl)
      replace HA := HA.below hb
      replace HB := Lib.hid (below_step HB.out hb)
      clear hb
      have Z1 := zz; clear zz
      clear hU1
      refine (l1In_any y 0 3 _).mono ?_
      rw [HIY.out]
      rintro e w2 ⟨rfl, rfl⟩
      have l2_0 := HX1.bx.lt
      go_wp2
      clear l2_0
      go_ret
      exact ⟨by rw [HQ.out]; try rfl, HB.out⟩
    · have HB := Lib.hid (Below.refl w.heap.size w)
      have HA := Rep.Sl.kept ha hh
      have HIY := Lib.hid (allIn_one_yes (Classical.byContradiction hy).1 (Classical.byContradiction hy).2)
      obtain ⟨rr, hrr⟩ : ∃ z, opf k xs t i a N = z := ⟨_, rfl⟩
      have HOP := Lib.hid hrr
      have HQ : Hid (evf 1 y k xs t i a N = rr) := Lib.hid (by unfold evf; rw [if_neg hf, if_neg hy, if_pos rfl, hrr])
      clear hf hy hx hrr
      clear ha hnl hl
      go_enter Try.func70, Try.ntmps70
      go_wp2_with fail
      refine Calls.name ?_
      intro U1 hU1
      have hb : Below w.heap.size w U1 := by rw [hU1]; exact ((Below.refl _ _).alloc (Nat.le_refl _) _)
      have zz : Hid (w.heap.size + 1 = U1.heap.size) := Lib.hid (by rw [hU1]; simp)
      have HX1 : Kept w.heap.size (w.heap.size + 1) (BoxK w.heap.size 102 #[.int .i64 1, .int .i64 y, .int .i64 k, .slice A n c, .int .i64 t, .int .i64 i, .int .i64 a, .int .i64 N]) U1 := by rw [hU1]; exact Kept.box (Box.made_at _ _ _ rfl)
      replace HA := HA.below hb
      replace HB := Lib.hid (below_step HB.out hb)
      clear hb
      have Z1 := zz; clear zz
      clear hU1
      refine (l1In_any y 0 3 _).mono ?_
      rw [HIY.out]
      rintro e w2 ⟨rfl, rfl⟩
      have c2_0 := HX1.look 0
      have c2_1 := HX1.look 2
      have c2_2 := HX1.look 3
      have c2_3 := HX1.look 4
      have c2_4 := HX1.look 5
      have c2_5 := HX1.look 6
      have c2_6 := HX1.look 7
      have l2_0 := HX1.bx.lt
      go_wp2_with fail
      clear c2_0 c2_1 c2_2 c2_3 c2_4 c2_5 c2_6 l2_0
      refine (specOpFault_any k t i a N q lo hi A n c xs _ HA.sl HA.le hn).mono ?_
      rw [HOP.out]
      rintro e w3 ⟨rfl, hb⟩
      have Z2 := Lib.hid hb.size
      replace HA := HA.below hb
      replace HX1 := HX1.below hb
      replace HB := Lib.hid (below_step HB.out hb)
      clear hb
      have l3_0 := HX1.bx.lt
      go_wp2
      clear l3_0
      go_ret
      exact ⟨by rw [HQ.out]; try rfl, HB.out⟩
  · have hfi : evForm 2 y k xs t i a N ↔ k = 0 ∧ n = 0 ∧ (t = 0 ∧ i = 0 ∧ a = 0) ∧ N = 0 := by unfold evForm noOp; rw [hnl]; simp
    by_cases hf : ¬ (k = 0 ∧ n = 0 ∧ (t = 0 ∧ i = 0 ∧ a = 0) ∧ N = 0)
    · have HB := Lib.hid (Below.refl w.heap.size w)
      have HA := Rep.Sl.kept ha hh
      have HF := Lib.hid hf
      have HQ : Hid (evf 2 y k xs t i a N = 1) := Lib.hid (by unfold evf; rw [if_pos (fun h => hf (hfi.1 h))])
      clear hf hx hfi
      clear ha hnl hl
      go_enter Try.func70, Try.ntmps70
      go_wp2_with fail
      refine Calls.name ?_
      intro U1 hU1
      have hb : Below w.heap.size w U1 := by rw [hU1]; exact ((Below.refl _ _).alloc (Nat.le_refl _) _)
      have zz : Hid (w.heap.size + 1 = U1.heap.size) := Lib.hid (by rw [hU1]; simp)
      have HX1 : Kept w.heap.size (w.heap.size + 1) (BoxK w.heap.size 102 #[.int .i64 2, .int .i64 y, .int .i64 k, .slice A n c, .int .i64 t, .int .i64 i, .int .i64 a, .int .i64 N]) U1 := by rw [hU1]; exact Kept.box (Box.made_at _ _ _ rfl)
      replace HA := HA.below hb
      replace HB := Lib.hid (below_step HB.out hb)
      clear hb
      have Z1 := zz; clear zz
      clear hU1
      have HLK := Lib.hid HX1.bx
      refine (l8NoOp2 _ k t i a N A n c false _ (HLK.out.look 2) (HLK.out.look 3) (HLK.out.look 4) (HLK.out.look 5) (HLK.out.look 6) (HLK.out.look 7) ⟨fun h => (by cases h), fun h => absurd h HF.out⟩).mono ?_
      rintro e w2 ⟨rfl, rfl⟩
      clear HLK
      have l2_0 := HX1.bx.lt
      go_wp2
      clear l2_0
      go_ret
      exact ⟨by rw [HQ.out]; try rfl, HB.out⟩
    have HF : Hid (k = 0 ∧ n = 0 ∧ (t = 0 ∧ i = 0 ∧ a = 0) ∧ N = 0) := Lib.hid (Classical.byContradiction hf)
    have hf1 : ¬ ¬ evForm 2 y k xs t i a N := fun h => h (hfi.2 HF.out)
    by_cases hy : ¬ (0 ≤ y ∧ y ≤ 3)
    · have HB := Lib.hid (Below.refl w.heap.size w)
      have HA := Rep.Sl.kept ha hh
      have HIY := Lib.hid (allIn_one_no hy)
      have HQ : Hid (evf 2 y k xs t i a N = 3) := Lib.hid (by unfold evf; rw [if_neg hf1, if_pos hy])
      clear hf hf1 hfi hy hx
      clear ha hnl hl
      go_enter Try.func70, Try.ntmps70
      go_wp2_with fail
      refine Calls.name ?_
      intro U1 hU1
      have hb : Below w.heap.size w U1 := by rw [hU1]; exact ((Below.refl _ _).alloc (Nat.le_refl _) _)
      have zz : Hid (w.heap.size + 1 = U1.heap.size) := Lib.hid (by rw [hU1]; simp)
      have HX1 : Kept w.heap.size (w.heap.size + 1) (BoxK w.heap.size 102 #[.int .i64 2, .int .i64 y, .int .i64 k, .slice A n c, .int .i64 t, .int .i64 i, .int .i64 a, .int .i64 N]) U1 := by rw [hU1]; exact Kept.box (Box.made_at _ _ _ rfl)
      replace HA := HA.below hb
      replace HB := Lib.hid (below_step HB.out hb)
      clear hb
      have Z1 := zz; clear zz
      clear hU1
      have HLK := Lib.hid HX1.bx
      refine (l8NoOp2 _ k t i a N A n c true _ (HLK.out.look 2) (HLK.out.look 3) (HLK.out.look 4) (HLK.out.look 5) (HLK.out.look 6) (HLK.out.look 7) ⟨fun _ => HF.out, fun _ => rfl⟩).mono ?_
      rintro e w2 ⟨rfl, rfl⟩
      clear HLK
      have c2_0 := HX1.look 1
      have l2_0 := HX1.bx.lt
      go_wp2_with fail
      clear c2_0 l2_0
      refine (l1In_any y 0 3 _).mono ?_
      rw [HIY.out]
      rintro e w3 ⟨rfl, rfl⟩
      have l3_0 := HX1.bx.lt
      go_wp2
      clear l3_0
      go_ret
      exact ⟨by rw [HQ.out]; try rfl, HB.out⟩
    · have HB := Lib.hid (Below.refl w.heap.size w)
      have HA := Rep.Sl.kept ha hh
      have HIY := Lib.hid (allIn_one_yes (Classical.byContradiction hy).1 (Classical.byContradiction hy).2)
      have HQ : Hid (evf 2 y k xs t i a N = 0) := Lib.hid (by unfold evf; rw [if_neg hf1, if_neg hy, if_neg (by omega)])
      clear hf hf1 hfi hy hx
      clear ha hnl hl
      go_enter Try.func70, Try.ntmps70
      go_wp2_with fail
      refine Calls.name ?_
      intro U1 hU1
      have hb : Below w.heap.size w U1 := by rw [hU1]; exact ((Below.refl _ _).alloc (Nat.le_refl _) _)
      have zz : Hid (w.heap.size + 1 = U1.heap.size) := Lib.hid (by rw [hU1]; simp)
      have HX1 : Kept w.heap.size (w.heap.size + 1) (BoxK w.heap.size 102 #[.int .i64 2, .int .i64 y, .int .i64 k, .slice A n c, .int .i64 t, .int .i64 i, .int .i64 a, .int .i64 N]) U1 := by rw [hU1]; exact Kept.box (Box.made_at _ _ _ rfl)
      replace HA := HA.below hb
      replace HB := Lib.hid (below_step HB.out hb)
      clear hb
      have Z1 := zz; clear zz
      clear hU1
      have HLK := Lib.hid HX1.bx
      refine (l8NoOp2 _ k t i a N A n c true _ (HLK.out.look 2) (HLK.out.look 3) (HLK.out.look 4) (HLK.out.look 5) (HLK.out.look 6) (HLK.out.look 7) ⟨fun _ => HF.out, fun _ => rfl⟩).mono ?_
      rintro e w2 ⟨rfl, rfl⟩
      clear HLK
      have c2_0 := HX1.look 1
      have l2_0 := HX1.bx.lt
      go_wp2_with fail
      clear c2_0 l2_0
      refine (l1In_any y 0 3 _).mono ?_
      rw [HIY.out]
      rintro e w3 ⟨rfl, rfl⟩
      have c3_0 := HX1.look 0
      have l3_0 := HX1.bx.lt
      go_wp2
      clear c3_0 l3_0
      go_ret
      exact ⟨by rw [HQ.out]; try rfl, HB.out⟩
  · by_cases h0 : ¬ y = 0
    · by_cases hf : ¬ (k = 0 ∧ n = 0 ∧ (t = 0 ∧ i = 0 ∧ a = 0) ∧ N = 0)
      · have HB := Lib.hid (Below.refl w.heap.size w)
        have HA := Rep.Sl.kept ha hh
        have hy0 : (y == 0) = false := by simpa using h0
        have HQ : Hid (evf 3 y k xs t i a N = 1) := Lib.hid (by unfold evf; rw [if_pos (by unfold evForm; rintro (h | h | h); omega; omega; exact h0 h.2.2)])
        have HF := Lib.hid hf
        clear h0 hx hf
        clear ha hnl hl
        go_enter Try.func70, Try.ntmps70
        go_wp2_with fail
        refine Calls.name ?_
        intro U1 hU1
        have hb : Below w.heap.size w U1 := by rw [hU1]; exact ((Below.refl _ _).alloc (Nat.le_refl _) _)
        have zz : Hid (w.heap.size + 1 = U1.heap.size) := Lib.hid (by rw [hU1]; simp)
        have HX1 : Kept w.heap.size (w.heap.size + 1) (BoxK w.heap.size 102 #[.int .i64 3, .int .i64 y, .int .i64 k, .slice A n c, .int .i64 t, .int .i64 i, .int .i64 a, .int .i64 N]) U1 := by rw [hU1]; exact Kept.box (Box.made_at _ _ _ rfl)
        replace HA := HA.below hb
        replace HB := Lib.hid (below_step HB.out hb)
        clear hb
        have Z1 := zz; clear zz
        clear hU1
        have HLK := Lib.hid HX1.bx
        refine (l8NoOp2 _ k t i a N A n c false _ (HLK.out.look 2) (HLK.out.look 3) (HLK.out.look 4) (HLK.out.look 5) (HLK.out.look 6) (HLK.out.look 7) ⟨fun h => (by cases h), fun h => absurd h HF.out⟩).mono ?_
        rintro e w2 ⟨rfl, rfl⟩
        clear HLK
        have l2_0 := HX1.bx.lt
        go_wp2
        clear l2_0
        go_ret
        exact ⟨by rw [HQ.out]; try rfl, HB.out⟩
      · have HB := Lib.hid (Below.refl w.heap.size w)
        have HA := Rep.Sl.kept ha hh
        have hy0 : (y == 0) = false := by simpa using h0
        have HQ : Hid (evf 3 y k xs t i a N = 1) := Lib.hid (by unfold evf; rw [if_pos (by unfold evForm; rintro (h | h | h); omega; omega; exact h0 h.2.2)])
        have HF : Hid (k = 0 ∧ n = 0 ∧ (t = 0 ∧ i = 0 ∧ a = 0) ∧ N = 0) := Lib.hid (Classical.byContradiction hf)
        clear h0 hx hf
        clear ha hnl hl
        go_enter Try.func70, Try.ntmps70
        go_wp2_with fail
        refine Calls.name ?_
        intro U1 hU1
        have hb : Below w.heap.size w U1 := by rw [hU1]; exact ((Below.refl _ _).alloc (Nat.le_refl _) _)
        have zz : Hid (w.heap.size + 1 = U1.heap.size) := Lib.hid (by rw [hU1]; simp)
        have HX1 : Kept w.heap.size (w.heap.size + 1) (BoxK w.heap.size 102 #[.int .i64 3, .int .i64 y, .int .i64 k, .slice A n c, .int .i64 t, .int .i64 i, .int .i64 a, .int .i64 N]) U1 := by rw [hU1]; exact Kept.box (Box.made_at _ _ _ rfl)
        replace HA := HA.below hb
        replace HB := Lib.hid (below_step HB.out hb)
        clear hb
        have Z1 := zz; clear zz
        clear hU1
        have HLK := Lib.hid HX1.bx
        refine (l8NoOp2 _ k t i a N A n c true _ (HLK.out.look 2) (HLK.out.look 3) (HLK.out.look 4) (HLK.out.look 5) (HLK.out.look 6) (HLK.out.look 7) ⟨fun _ => HF.out, fun _ => rfl⟩).mono ?_
        rintro e w2 ⟨rfl, rfl⟩
        clear HLK
        have c2_0 := HX1.look 1
        have l2_0 := HX1.bx.lt
        go_wp2
        clear c2_0 l2_0
        go_ret
        exact ⟨by rw [HQ.out]; try rfl, HB.out⟩
    obtain rfl : y = 0 := Classical.byContradiction h0
    have hfi : evForm 3 0 k xs t i a N ↔ k = 0 ∧ n = 0 ∧ (t = 0 ∧ i = 0 ∧ a = 0) ∧ N = 0 := by unfold evForm noOp; rw [hnl]; simp
    have HIY : Hid (allIn 0 3 [0] = true) := Lib.hid rfl
    by_cases hf : ¬ (k = 0 ∧ n = 0 ∧ (t = 0 ∧ i = 0 ∧ a = 0) ∧ N = 0)
    · have HB := Lib.hid (Below.refl w.heap.size w)
      have HA := Rep.Sl.kept ha hh
      have HF := Lib.hid hf
      have HQ : Hid (evf 3 0 k xs t i a N = 1) := Lib.hid (by unfold evf; rw [if_pos (fun h => hf (hfi.1 h))])
      clear hf hx hfi h0
      clear ha hnl hl
      go_enter Try.func70, Try.ntmps70
      go_wp2_with fail
      refine Calls.name ?_
      intro U1 hU1
      have hb : Below w.heap.size w U1 := by rw [hU1]; exact ((Below.refl _ _).alloc (Nat.le_refl _) _)
      have zz : Hid (w.heap.size + 1 = U1.heap.size) := Lib.hid (by rw [hU1]; simp)
      have HX1 : Kept w.heap.size (w.heap.size + 1) (BoxK w.heap.size 102 #[.int .i64 3, .int .i64 0, .int .i64 k, .slice A n c, .int .i64 t, .int .i64 i, .int .i64 a, .int .i64 N]) U1 := by rw [hU1]; exact Kept.box (Box.made_at _ _ _ rfl)
      replace HA := HA.below hb
      replace HB := Lib.hid (below_step HB.out hb)
      clear hb
      have Z1 := zz; clear zz
      clear hU1
      have HLK := Lib.hid HX1.bx
      refine (l8NoOp2 _ k t i a N A n c false _ (HLK.out.look 2) (HLK.out.look 3) (HLK.out.look 4) (HLK.out.look 5) (HLK.out.look 6) (HLK.out.look 7) ⟨fun h => (by cases h), fun h => absurd h HF.out⟩).mono ?_
      rintro e w2 ⟨rfl, rfl⟩
      clear HLK
      have l2_0 := HX1.bx.lt
      go_wp2
      clear l2_0
      go_ret
      exact ⟨by rw [HQ.out]; try rfl, HB.out⟩
    · have HB := Lib.hid (Below.refl w.heap.size w)
      have HA := Rep.Sl.kept ha hh
      have HF : Hid (k = 0 ∧ n = 0 ∧ (t = 0 ∧ i = 0 ∧ a = 0) ∧ N = 0) := Lib.hid (Classical.byContradiction hf)
      have HQ : Hid (evf 3 0 k xs t i a N = 0) := Lib.hid (by unfold evf; rw [if_neg (fun h => h (hfi.2 HF.out)), if_neg (by omega), if_neg (by omega)])
      clear hf hx hfi h0
      clear ha hnl hl
      go_enter Try.func70, Try.ntmps70
      go_wp2_with fail
      refine Calls.name ?_
      intro U1 hU1
      have hb : Below w.heap.size w U1 := by rw [hU1]; exact ((Below.refl _ _).alloc (Nat.le_refl _) _)
      have zz : Hid (w.heap.size + 1 = U1.heap.size) := Lib.hid (by rw [hU1]; simp)
      have HX1 : Kept w.heap.size (w.heap.size + 1) (BoxK w.heap.size 102 #[.int .i64 3, .int .i64 0, .int .i64 k, .slice A n c, .int .i64 t, .int .i64 i, .int .i64 a, .int .i64 N]) U1 := by rw [hU1]; exact Kept.box (Box.made_at _ _ _ rfl)
      replace HA := HA.below hb
      replace HB := Lib.hid (below_step HB.out hb)
      clear hb
      have Z1 := zz; clear zz
      clear hU1
      have HLK := Lib.hid HX1.bx
      refine (l8NoOp2 _ k t i a N A n c true _ (HLK.out.look 2) (HLK.out.look 3) (HLK.out.look 4) (HLK.out.look 5) (HLK.out.look 6) (HLK.out.look 7) ⟨fun _ => HF.out, fun _ => rfl⟩).mono ?_
      rintro e w2 ⟨rfl, rfl⟩
      clear HLK
      have c2_0 := HX1.look 1
      have l2_0 := HX1.bx.lt
      go_wp2_with fail
      clear c2_0 l2_0
      refine (l1In_any 0 0 3 _).mono ?_
      rw [HIY.out]
      rintro e w3 ⟨rfl, rfl⟩
      have c3_0 := HX1.look 0
      have l3_0 := HX1.bx.lt
      go_wp2
      clear c3_0 l3_0
      go_ret
      exact ⟨by rw [HQ.out]; try rfl, HB.out⟩


end Go.Proofs.Ytiffhjofabaflaa
