/-
  The program's OpFault. No statement is proved here.
-/
import Derived.Test.YtiffhjofabaflaaShardKey
import Derived.Test.YtiffhjofabaflaaOpLaws
import Derived.Test.YtiffhjofabaflaaSame
import Derived.Deep.Cut
namespace Go.Proofs.Ytiffhjofabaflaa
open Go.RowKit
set_option linter.unusedVariables false

/-- Has an op what its Kind needs, and nothing else. -/
def opForm (k : Int) (xs : List Int) (t i a N : Int) : Prop :=
  (k = 1 ∧ (t = 0 ∧ i = 0 ∧ a = 0) ∧ N = 0) ∨ ((k = 2 ∨ k = 3) ∧ xs = [] ∧ N = 0) ∨ ((k = 4 ∨ k = 6) ∧ xs = [] ∧ (t = 0 ∧ i = 0 ∧ a = 0)) ∨ (k = 5 ∧ xs = [] ∧ (t = 0 ∧ i = 0 ∧ a = 0) ∧ N = 0)
instance (k : Int) (xs : List Int) (t i a N : Int) : Decidable (opForm k xs t i a N) := by unfold opForm; exact inferInstance
/-- Are an op's Key and N within their bounds. -/
def opRange (k t i a N : Int) : Bool := if k = 2 ∨ k = 3 then sk t i a else if k = 4 then allIn 1 1000 [N] else if k = 6 then allIn 0 1 [N] else true
/-- The code of an op. -/
def opf (k : Int) (xs : List Int) (t i a N : Int) : Int := if ¬ opForm k xs t i a N then 1 else if opRange k t i a N = false then 3 else if 400 < xs.length then 2 else 0
theorem opForm_kind {k : Int} {xs : List Int} {t i a N : Int} (h : opForm k xs t i a N) : 1 ≤ k ∧ k ≤ 6 := by
  unfold opForm at h; omega
theorem eqlKey_yes (t i a t2 i2 a2 : Int) (b : Bool) (h : b = true ↔ t = t2 ∧ i = i2 ∧ a = a2) (W : World) : (binOp .eql 34 (.agg #[.int .i64 t, .int .i64 i, .int .i64 a]) (.agg #[.int .i64 t2, .int .i64 i2, .int .i64 a2])).run Try.prog W = .ok (.bool b) W := by
  have e : b = (decide (t = t2) && (decide (i = i2) && decide (a = a2))) := by
    rw [Bool.eq_iff_iff, h]; simp
  rw [e]
  by_cases h1 : t = t2 <;> by_cases h2 : i = i2 <;> by_cases h3 : a = a2 <;> simp [go_sem, h1, h2, h3]
theorem allWithin_oneB (lo hi : Int) (b : Nat) (v : Int) (w : World) (hc : w.cell? ⟨b, 0, none⟩ = some (.int .i64 v)) :
    Calls Try.prog 91 #[.int .i64 lo, .int .i64 hi, .slice (some ⟨b, 0, none⟩) 1 1] w fun e w' => e = .returned (.bool (allIn lo hi [v])) ∧ Below w.heap.size w w' :=
  (allWithin_one lo hi b v w hc).mono fun e w' ⟨h1, h2⟩ => ⟨h1, h2 ▸ Below.refl _ _⟩
theorem len_nil {xs : List Int} {n : Nat} (h : xs.length = n) : xs = [] ↔ n = 0 := by
  rw [← h]; exact List.length_eq_zero_iff.symm

set_option maxRecDepth 100000 in
set_option maxHeartbeats 1600000 in
theorem sameOps_any (k t i a N k2 t2 i2 a2 N2 : Int) (q q2 : Bool) (lo hi lo2 hi2 : Nat) (A B : Option Addr) (n c m d : Nat) (xs ys : List Int) (r : Bool) (w : World) (ha : Rep.u8.Sl q lo hi w A n xs) (hh : hi ≤ w.heap.size) (hb : Rep.u8.Sl q2 lo2 hi2 w B m ys) (hh2 : hi2 ≤ w.heap.size) (hr : r = true ↔ k = k2 ∧ xs = ys ∧ (t = t2 ∧ i = i2 ∧ a = a2) ∧ N = N2) :
    Calls Try.prog 146 #[.agg #[.int .i64 k, .slice A n c, .int .i64 t, .int .i64 i, .int .i64 a, .int .i64 N], .agg #[.int .i64 k2, .slice B m d, .int .i64 t2, .int .i64 i2, .int .i64 a2, .int .i64 N2]] w fun e w' => e = .returned (.bool r) ∧ Below w.heap.size w w' := by
  by_cases h0 : ¬ k = k2
  · have HB := Lib.hid (Below.refl w.heap.size w)
    have HA := Rep.Sl.kept ha hh
    have HC := Rep.Sl.kept hb hh2
    have hk : (k == k2) = false := by simpa using h0
    obtain rfl : r = false := by cases r with | false => rfl | true => exact absurd (hr.1 rfl).1 h0
    clear hr h0
    clear ha hb
    go_enter Try.func146, Try.ntmps146
    go_wp2
    obtain ⟨U1, hU1⟩ : ∃ W : World, W = ((w.alloc (.cells #[.int .i64 k, .slice A n c, .int .i64 t, .int .i64 i, .int .i64 a, .int .i64 N] 93)).alloc (.cells #[.int .i64 k2, .slice B m d, .int .i64 t2, .int .i64 i2, .int .i64 a2, .int .i64 N2] 93)) := ⟨_, rfl⟩
    have hb : Below w.heap.size w U1 := by rw [hU1]; exact (((Below.refl _ _).alloc (Nat.le_refl _) _).alloc (by simp <;> omega) _)
    have zz : Hid (w.heap.size + 2 = U1.heap.size) := Lib.hid (by rw [hU1]; simp)
    have HX1 : Kept w.heap.size (w.heap.size + 1) (BoxK w.heap.size 93 #[.int .i64 k, .slice A n c, .int .i64 t, .int .i64 i, .int .i64 a, .int .i64 N]) U1 := by rw [hU1]; exact Kept.box ((Box.made_at _ _ _ rfl).over _)
    have HX2 : Kept (w.heap.size + 1) (w.heap.size + 1 + 1) (BoxK (w.heap.size + 1) 93 #[.int .i64 k2, .slice B m d, .int .i64 t2, .int .i64 i2, .int .i64 a2, .int .i64 N2]) U1 := by rw [hU1]; exact Kept.box (Box.made_at _ _ _ (by simp <;> omega))
    replace HA := HA.below hb
    replace HC := HC.below hb
    replace HB := Lib.hid (below_step HB.out hb)
    clear hb
    have Z1 := zz; clear zz
    subst hU1
    go_ret
    exact ⟨rfl, HB.out⟩
  by_cases h1 : ¬ xs = ys
  · have HB := Lib.hid (Below.refl w.heap.size w)
    have HA := Rep.Sl.kept ha hh
    have HC := Rep.Sl.kept hb hh2
    have hk : (k == k2) = true := by simpa using h0
    have HD := Lib.hid (decide_eq_false h1)
    obtain rfl : r = false := by cases r with | false => rfl | true => exact absurd (hr.1 rfl).2.1 h1
    clear hr h0 h1
    clear ha hb
    go_enter Try.func146, Try.ntmps146
    go_wp2_with fail
    refine Calls.name ?_
    intro U1 hU1
    have hb : Below w.heap.size w U1 := by rw [hU1]; exact (((Below.refl _ _).alloc (Nat.le_refl _) _).alloc (by simp <;> omega) _)
    have zz : Hid (w.heap.size + 2 = U1.heap.size) := Lib.hid (by rw [hU1]; simp)
    have HX1 : Kept w.heap.size (w.heap.size + 1) (BoxK w.heap.size 93 #[.int .i64 k, .slice A n c, .int .i64 t, .int .i64 i, .int .i64 a, .int .i64 N]) U1 := by rw [hU1]; exact Kept.box ((Box.made_at _ _ _ rfl).over _)
    have HX2 : Kept (w.heap.size + 1) (w.heap.size + 1 + 1) (BoxK (w.heap.size + 1) 93 #[.int .i64 k2, .slice B m d, .int .i64 t2, .int .i64 i2, .int .i64 a2, .int .i64 N2]) U1 := by rw [hU1]; exact Kept.box (Box.made_at _ _ _ (by simp <;> omega))
    replace HA := HA.below hb
    replace HC := HC.below hb
    replace HB := Lib.hid (below_step HB.out hb)
    clear hb
    have Z1 := zz; clear zz
    clear hU1
    refine (same_any A B n m c d xs ys _ HA.sl.bin HC.sl.bin HA.sl.bytes HC.sl.bytes).mono ?_
    rw [HD.out]
    rintro e w2 ⟨rfl, rfl⟩
    have l2_0 := HX1.bx.lt
    have l2_1 := HX2.bx.lt
    go_wp2
    clear l2_0 l2_1
    go_ret
    exact ⟨rfl, HB.out⟩
  by_cases h2 : ¬ (t = t2 ∧ i = i2 ∧ a = a2)
  · have HB := Lib.hid (Below.refl w.heap.size w)
    have HA := Rep.Sl.kept ha hh
    have HC := Rep.Sl.kept hb hh2
    have hk : (k == k2) = true := by simpa using h0
    have HD := Lib.hid (decide_eq_true (Classical.byContradiction h1))
    have HKY := eqlKey_yes t i a t2 i2 a2 false (by simp; intro x y; exact fun z => h2 ⟨x, y, z⟩)
    obtain rfl : r = false := by cases r with | false => rfl | true => exact absurd (hr.1 rfl).2.2.1 h2
    clear hr h0 h1 h2
    clear ha hb
    go_enter Try.func146, Try.ntmps146
    go_wp2_with fail
    refine Calls.name ?_
    intro U1 hU1
    have hb : Below w.heap.size w U1 := by rw [hU1]; exact (((Below.refl _ _).alloc (Nat.le_refl _) _).alloc (by simp <;> omega) _)
    have zz : Hid (w.heap.size + 2 = U1.heap.size) := Lib.hid (by rw [hU1]; simp)
    have HX1 : Kept w.heap.size (w.heap.size + 1) (BoxK w.heap.size 93 #[.int .i64 k, .slice A n c, .int .i64 t, .int .i64 i, .int .i64 a, .int .i64 N]) U1 := by rw [hU1]; exact Kept.box ((Box.made_at _ _ _ rfl).over _)
    have HX2 : Kept (w.heap.size + 1) (w.heap.size + 1 + 1) (BoxK (w.heap.size + 1) 93 #[.int .i64 k2, .slice B m d, .int .i64 t2, .int .i64 i2, .int .i64 a2, .int .i64 N2]) U1 := by rw [hU1]; exact Kept.box (Box.made_at _ _ _ (by simp <;> omega))
    replace HA := HA.below hb
    replace HC := HC.below hb
    replace HB := Lib.hid (below_step HB.out hb)
    clear hb
    have Z1 := zz; clear zz
    clear hU1
    refine (same_any A B n m c d xs ys _ HA.sl.bin HC.sl.bin HA.sl.bytes HC.sl.bytes).mono ?_
    rw [HD.out]
    rintro e w2 ⟨rfl, rfl⟩
    have c2_0 := HX1.look 2
    have c2_1 := HX1.look 3
    have c2_2 := HX1.look 4
    have c2_3 := HX1.look 5
    have c2_4 := HX2.look 2
    have c2_5 := HX2.look 3
    have c2_6 := HX2.look 4
    have c2_7 := HX2.look 5
    have l2_0 := HX1.bx.lt
    have l2_1 := HX2.bx.lt
    go_wp2
    clear c2_0 c2_1 c2_2 c2_3 c2_4 c2_5 c2_6 c2_7 l2_0 l2_1
    go_ret
    exact ⟨rfl, HB.out⟩
  by_cases h3 : ¬ N = N2
  · have HB := Lib.hid (Below.refl w.heap.size w)
    have HA := Rep.Sl.kept ha hh
    have HC := Rep.Sl.kept hb hh2
    have hk : (k == k2) = true := by simpa using h0
    have HD := Lib.hid (decide_eq_true (Classical.byContradiction h1))
    have HKY := eqlKey_yes t i a t2 i2 a2 true (by simpa using h2)
    have hN : (N == N2) = false := by simpa using h3
    obtain rfl : r = false := by cases r with | false => rfl | true => exact absurd (hr.1 rfl).2.2.2 h3
    clear hr h0 h1 h2 h3
    clear ha hb
    go_enter Try.func146, Try.ntmps146
    go_wp2_with fail
    refine Calls.name ?_
    intro U1 hU1
    have hb : Below w.heap.size w U1 := by rw [hU1]; exact (((Below.refl _ _).alloc (Nat.le_refl _) _).alloc (by simp <;> omega) _)
    have zz : Hid (w.heap.size + 2 = U1.heap.size) := Lib.hid (by rw [hU1]; simp)
    have HX1 : Kept w.heap.size (w.heap.size + 1) (BoxK w.heap.size 93 #[.int .i64 k, .slice A n c, .int .i64 t, .int .i64 i, .int .i64 a, .int .i64 N]) U1 := by rw [hU1]; exact Kept.box ((Box.made_at _ _ _ rfl).over _)
    have HX2 : Kept (w.heap.size + 1) (w.heap.size + 1 + 1) (BoxK (w.heap.size + 1) 93 #[.int .i64 k2, .slice B m d, .int .i64 t2, .int .i64 i2, .int .i64 a2, .int .i64 N2]) U1 := by rw [hU1]; exact Kept.box (Box.made_at _ _ _ (by simp <;> omega))
    replace HA := HA.below hb
    replace HC := HC.below hb
    replace HB := Lib.hid (below_step HB.out hb)
    clear hb
    have Z1 := zz; clear zz
    clear hU1
    refine (same_any A B n m c d xs ys _ HA.sl.bin HC.sl.bin HA.sl.bytes HC.sl.bytes).mono ?_
    rw [HD.out]
    rintro e w2 ⟨rfl, rfl⟩
    have c2_0 := HX1.look 2
    have c2_1 := HX1.look 3
    have c2_2 := HX1.look 4
    have c2_3 := HX1.look 5
    have c2_4 := HX2.look 2
    have c2_5 := HX2.look 3
    have c2_6 := HX2.look 4
    have c2_7 := HX2.look 5
    have l2_0 := HX1.bx.lt
    have l2_1 := HX2.bx.lt
    go_wp2
    clear c2_0 c2_1 c2_2 c2_3 c2_4 c2_5 c2_6 c2_7 l2_0 l2_1
    go_ret
    exact ⟨rfl, HB.out⟩
  · have HB := Lib.hid (Below.refl w.heap.size w)
    have HA := Rep.Sl.kept ha hh
    have HC := Rep.Sl.kept hb hh2
    have hk : (k == k2) = true := by simpa using h0
    have HD := Lib.hid (decide_eq_true (Classical.byContradiction h1))
    have HKY := eqlKey_yes t i a t2 i2 a2 true (by simpa using h2)
    have hN : (N == N2) = true := by simpa using h3
    obtain rfl : r = true := hr.2 ⟨Classical.byContradiction h0, Classical.byContradiction h1, Classical.byContradiction h2, Classical.byContradiction h3⟩
    clear hr h0 h1 h2 h3
    clear ha hb
    go_enter Try.func146, Try.ntmps146
    go_wp2_with fail
    refine Calls.name ?_
    intro U1 hU1
    have hb : Below w.heap.size w U1 := by rw [hU1]; exact (((Below.refl _ _).alloc (Nat.le_refl _) _).alloc (by simp <;> omega) _)
    have zz : Hid (w.heap.size + 2 = U1.heap.size) := Lib.hid (by rw [hU1]; simp)
    have HX1 : Kept w.heap.size (w.heap.size + 1) (BoxK w.heap.size 93 #[.int .i64 k, .slice A n c, .int .i64 t, .int .i64 i, .int .i64 a, .int .i64 N]) U1 := by rw [hU1]; exact Kept.box ((Box.made_at _ _ _ rfl).over _)
    have HX2 : Kept (w.heap.size + 1) (w.heap.size + 1 + 1) (BoxK (w.heap.size + 1) 93 #[.int .i64 k2, .slice B m d, .int .i64 t2, .int .i64 i2, .int .i64 a2, .int .i64 N2]) U1 := by rw [hU1]; exact Kept.box (Box.made_at _ _ _ (by simp <;> omega))
    replace HA := HA.below hb
    replace HC := HC.below hb
    replace HB := Lib.hid (below_step HB.out hb)
    clear hb
    have Z1 := zz; clear zz
    clear hU1
    refine (same_any A B n m c d xs ys _ HA.sl.bin HC.sl.bin HA.sl.bytes HC.sl.bytes).mono ?_
    rw [HD.out]
    rintro e w2 ⟨rfl, rfl⟩
    have c2_0 := HX1.look 2
    have c2_1 := HX1.look 3
    have c2_2 := HX1.look 4
    have c2_3 := HX1.look 5
    have c2_4 := HX2.look 2
    have c2_5 := HX2.look 3
    have c2_6 := HX2.look 4
    have c2_7 := HX2.look 5
    have l2_0 := HX1.bx.lt
    have l2_1 := HX2.bx.lt
    go_wp2
    clear c2_0 c2_1 c2_2 c2_3 c2_4 c2_5 c2_6 c2_7 l2_0 l2_1
    go_ret
    exact ⟨rfl, HB.out⟩

/-- What neededOf answers, and when an op is that. -/
def NeedOut (w : World) (k : Int) (A : Option Addr) (n c : Nat) (xs : List Int) (t i a N : Int) (e : Ending) (w' : World) : Prop :=
  ∃ (B : Option Addr) (m d : Nat) (ys : List Int) (t2 i2 a2 N2 : Int), e = .returned (.agg #[.int .i64 k, .slice B m d, .int .i64 t2, .int .i64 i2, .int .i64 a2, .int .i64 N2]) ∧ Hid (∀ (W : World) (q : Bool) (lo hi : Nat), Rep.u8.Sl q lo hi W A n xs → Rep.u8.Sl q lo hi W B m ys) ∧ Hid (opForm k xs t i a N ↔ k = k ∧ xs = ys ∧ (t = t2 ∧ i = i2 ∧ a = a2) ∧ N = N2) ∧ Below w.heap.size w w'
set_option maxRecDepth 100000 in
set_option maxHeartbeats 1600000 in
theorem neededOf_any (k t i a N : Int) (A : Option Addr) (n c : Nat) (xs : List Int) (w : World) (hk : 1 ≤ k ∧ k ≤ 6) :
    Calls Try.prog 147 #[.agg #[.int .i64 k, .slice A n c, .int .i64 t, .int .i64 i, .int .i64 a, .int .i64 N]] w fun e w' => NeedOut w k A n c xs t i a N e w' := by
  rcases (show k = 1 ∨ k = 2 ∨ k = 3 ∨ k = 4 ∨ k = 5 ∨ k = 6 by omega) with rfl | rfl | rfl | rfl | rfl | rfl
  · have HB := Lib.hid (Below.refl w.heap.size w)
    clear hk
    go_enter Try.func147, Try.ntmps147
    go_wp2
    obtain ⟨U1, hU1⟩ : ∃ W : World, W = ((w.alloc (.cells #[.int .i64 1, .slice A n c, .int .i64 t, .int .i64 i, .int .i64 a, .int .i64 N] 93)).alloc (.cells #[.int .i64 1, .slice A n c, .int .i64 0, .int .i64 0, .int .i64 0, .int .i64 0] 93)) := ⟨_, rfl⟩
    have hb : Below w.heap.size w U1 := by rw [hU1]; exact (((Below.refl _ _).alloc (Nat.le_refl _) _).alloc (by simp <;> omega) _)
    have zz : Hid (w.heap.size + 2 = U1.heap.size) := Lib.hid (by rw [hU1]; simp)
    have HX1 : Kept w.heap.size (w.heap.size + 1) (BoxK w.heap.size 93 #[.int .i64 1, .slice A n c, .int .i64 t, .int .i64 i, .int .i64 a, .int .i64 N]) U1 := by rw [hU1]; exact Kept.box ((Box.made_at _ _ _ rfl).over _)
    have HX2 : Kept (w.heap.size + 1) (w.heap.size + 1 + 1) (BoxK (w.heap.size + 1) 93 #[.int .i64 1, .slice A n c, .int .i64 0, .int .i64 0, .int .i64 0, .int .i64 0]) U1 := by rw [hU1]; exact Kept.box (Box.made_at _ _ _ (by simp <;> omega))
    replace HB := Lib.hid (below_step HB.out hb)
    clear hb
    have Z1 := zz; clear zz
    have q_0 := HX2.look 0
    have q_1 := HX2.look 1
    have q_2 := HX2.look 2
    have q_3 := HX2.look 3
    have q_4 := HX2.look 4
    have q_5 := HX2.look 5
    subst hU1
    exact bodyPost_ret (v := .agg #[.int .i64 1, .slice A n c, .int .i64 0, .int .i64 0, .int .i64 0, .int .i64 0]) (by simp [results, Try.results147, go_sem, q_0, q_1, q_2, q_3, q_4, q_5]) rfl ⟨A, n, c, xs, 0, 0, 0, 0, rfl, Lib.hid (fun W q lo hi h => h), Lib.hid (by unfold opForm; simp), HB.out⟩
  · have HB := Lib.hid (Below.refl w.heap.size w)
    clear hk
    go_enter Try.func147, Try.ntmps147
    go_wp2
    obtain ⟨U1, hU1⟩ : ∃ W : World, W = ((w.alloc (.cells #[.int .i64 2, .slice A n c, .int .i64 t, .int .i64 i, .int .i64 a, .int .i64 N] 93)).alloc (.cells #[.int .i64 2, .slice none 0 0, .int .i64 t, .int .i64 i, .int .i64 a, .int .i64 0] 93)) := ⟨_, rfl⟩
    have hb : Below w.heap.size w U1 := by rw [hU1]; exact (((Below.refl _ _).alloc (Nat.le_refl _) _).alloc (by simp <;> omega) _)
    have zz : Hid (w.heap.size + 2 = U1.heap.size) := Lib.hid (by rw [hU1]; simp)
    have HX1 : Kept w.heap.size (w.heap.size + 1) (BoxK w.heap.size 93 #[.int .i64 2, .slice A n c, .int .i64 t, .int .i64 i, .int .i64 a, .int .i64 N]) U1 := by rw [hU1]; exact Kept.box ((Box.made_at _ _ _ rfl).over _)
    have HX2 : Kept (w.heap.size + 1) (w.heap.size + 1 + 1) (BoxK (w.heap.size + 1) 93 #[.int .i64 2, .slice none 0 0, .int .i64 t, .int .i64 i, .int .i64 a, .int .i64 0]) U1 := by rw [hU1]; exact Kept.box (Box.made_at _ _ _ (by simp <;> omega))
    replace HB := Lib.hid (below_step HB.out hb)
    clear hb
    have Z1 := zz; clear zz
    have q_0 := HX2.look 0
    have q_1 := HX2.look 1
    have q_2 := HX2.look 2
    have q_3 := HX2.look 3
    have q_4 := HX2.look 4
    have q_5 := HX2.look 5
    subst hU1
    exact bodyPost_ret (v := .agg #[.int .i64 2, .slice none 0 0, .int .i64 t, .int .i64 i, .int .i64 a, .int .i64 0]) (by simp [results, Try.results147, go_sem, q_0, q_1, q_2, q_3, q_4, q_5]) rfl ⟨none, 0, 0, [], t, i, a, 0, rfl, Lib.hid (fun W q lo hi h => Rep.Sl_nil _ _ _ _ _ _), Lib.hid (by unfold opForm; simp), HB.out⟩
  · have HB := Lib.hid (Below.refl w.heap.size w)
    clear hk
    go_enter Try.func147, Try.ntmps147
    go_wp2
    obtain ⟨U1, hU1⟩ : ∃ W : World, W = ((w.alloc (.cells #[.int .i64 3, .slice A n c, .int .i64 t, .int .i64 i, .int .i64 a, .int .i64 N] 93)).alloc (.cells #[.int .i64 3, .slice none 0 0, .int .i64 t, .int .i64 i, .int .i64 a, .int .i64 0] 93)) := ⟨_, rfl⟩
    have hb : Below w.heap.size w U1 := by rw [hU1]; exact (((Below.refl _ _).alloc (Nat.le_refl _) _).alloc (by simp <;> omega) _)
    have zz : Hid (w.heap.size + 2 = U1.heap.size) := Lib.hid (by rw [hU1]; simp)
    have HX1 : Kept w.heap.size (w.heap.size + 1) (BoxK w.heap.size 93 #[.int .i64 3, .slice A n c, .int .i64 t, .int .i64 i, .int .i64 a, .int .i64 N]) U1 := by rw [hU1]; exact Kept.box ((Box.made_at _ _ _ rfl).over _)
    have HX2 : Kept (w.heap.size + 1) (w.heap.size + 1 + 1) (BoxK (w.heap.size + 1) 93 #[.int .i64 3, .slice none 0 0, .int .i64 t, .int .i64 i, .int .i64 a, .int .i64 0]) U1 := by rw [hU1]; exact Kept.box (Box.made_at _ _ _ (by simp <;> omega))
    replace HB := Lib.hid (below_step HB.out hb)
    clear hb
    have Z1 := zz; clear zz
    have q_0 := HX2.look 0
    have q_1 := HX2.look 1
    have q_2 := HX2.look 2
    have q_3 := HX2.look 3
    have q_4 := HX2.look 4
    have q_5 := HX2.look 5
    subst hU1
    exact bodyPost_ret (v := .agg #[.int .i64 3, .slice none 0 0, .int .i64 t, .int .i64 i, .int .i64 a, .int .i64 0]) (by simp [results, Try.results147, go_sem, q_0, q_1, q_2, q_3, q_4, q_5]) rfl ⟨none, 0, 0, [], t, i, a, 0, rfl, Lib.hid (fun W q lo hi h => Rep.Sl_nil _ _ _ _ _ _), Lib.hid (by unfold opForm; simp), HB.out⟩
  · have HB := Lib.hid (Below.refl w.heap.size w)
    clear hk
    go_enter Try.func147, Try.ntmps147
    go_wp2
    obtain ⟨U1, hU1⟩ : ∃ W : World, W = ((w.alloc (.cells #[.int .i64 4, .slice A n c, .int .i64 t, .int .i64 i, .int .i64 a, .int .i64 N] 93)).alloc (.cells #[.int .i64 4, .slice none 0 0, .int .i64 0, .int .i64 0, .int .i64 0, .int .i64 N] 93)) := ⟨_, rfl⟩
    have hb : Below w.heap.size w U1 := by rw [hU1]; exact (((Below.refl _ _).alloc (Nat.le_refl _) _).alloc (by simp <;> omega) _)
    have zz : Hid (w.heap.size + 2 = U1.heap.size) := Lib.hid (by rw [hU1]; simp)
    have HX1 : Kept w.heap.size (w.heap.size + 1) (BoxK w.heap.size 93 #[.int .i64 4, .slice A n c, .int .i64 t, .int .i64 i, .int .i64 a, .int .i64 N]) U1 := by rw [hU1]; exact Kept.box ((Box.made_at _ _ _ rfl).over _)
    have HX2 : Kept (w.heap.size + 1) (w.heap.size + 1 + 1) (BoxK (w.heap.size + 1) 93 #[.int .i64 4, .slice none 0 0, .int .i64 0, .int .i64 0, .int .i64 0, .int .i64 N]) U1 := by rw [hU1]; exact Kept.box (Box.made_at _ _ _ (by simp <;> omega))
    replace HB := Lib.hid (below_step HB.out hb)
    clear hb
    have Z1 := zz; clear zz
    have q_0 := HX2.look 0
    have q_1 := HX2.look 1
    have q_2 := HX2.look 2
    have q_3 := HX2.look 3
    have q_4 := HX2.look 4
    have q_5 := HX2.look 5
    subst hU1
    exact bodyPost_ret (v := .agg #[.int .i64 4, .slice none 0 0, .int .i64 0, .int .i64 0, .int .i64 0, .int .i64 N]) (by simp [results, Try.results147, go_sem, q_0, q_1, q_2, q_3, q_4, q_5]) rfl ⟨none, 0, 0, [], 0, 0, 0, N, rfl, Lib.hid (fun W q lo hi h => Rep.Sl_nil _ _ _ _ _ _), Lib.hid (by unfold opForm; simp), HB.out⟩
  · have HB := Lib.hid (Below.refl w.heap.size w)
    clear hk
    go_enter Try.func147, Try.ntmps147
    go_wp2
    obtain ⟨U1, hU1⟩ : ∃ W : World, W = ((w.alloc (.cells #[.int .i64 5, .slice A n c, .int .i64 t, .int .i64 i, .int .i64 a, .int .i64 N] 93)).alloc (.cells #[.int .i64 5, .slice none 0 0, .int .i64 0, .int .i64 0, .int .i64 0, .int .i64 0] 93)) := ⟨_, rfl⟩
    have hb : Below w.heap.size w U1 := by rw [hU1]; exact (((Below.refl _ _).alloc (Nat.le_refl _) _).alloc (by simp <;> omega) _)
    have zz : Hid (w.heap.size + 2 = U1.heap.size) := Lib.hid (by rw [hU1]; simp)
    have HX1 : Kept w.heap.size (w.heap.size + 1) (BoxK w.heap.size 93 #[.int .i64 5, .slice A n c, .int .i64 t, .int .i64 i, .int .i64 a, .int .i64 N]) U1 := by rw [hU1]; exact Kept.box ((Box.made_at _ _ _ rfl).over _)
    have HX2 : Kept (w.heap.size + 1) (w.heap.size + 1 + 1) (BoxK (w.heap.size + 1) 93 #[.int .i64 5, .slice none 0 0, .int .i64 0, .int .i64 0, .int .i64 0, .int .i64 0]) U1 := by rw [hU1]; exact Kept.box (Box.made_at _ _ _ (by simp <;> omega))
    replace HB := Lib.hid (below_step HB.out hb)
    clear hb
    have Z1 := zz; clear zz
    have q_0 := HX2.look 0
    have q_1 := HX2.look 1
    have q_2 := HX2.look 2
    have q_3 := HX2.look 3
    have q_4 := HX2.look 4
    have q_5 := HX2.look 5
    subst hU1
    exact bodyPost_ret (v := .agg #[.int .i64 5, .slice none 0 0, .int .i64 0, .int .i64 0, .int .i64 0, .int .i64 0]) (by simp [results, Try.results147, go_sem, q_0, q_1, q_2, q_3, q_4, q_5]) rfl ⟨none, 0, 0, [], 0, 0, 0, 0, rfl, Lib.hid (fun W q lo hi h => Rep.Sl_nil _ _ _ _ _ _), Lib.hid (by unfold opForm; simp), HB.out⟩
  · have HB := Lib.hid (Below.refl w.heap.size w)
    clear hk
    go_enter Try.func147, Try.ntmps147
    go_wp2
    obtain ⟨U1, hU1⟩ : ∃ W : World, W = ((w.alloc (.cells #[.int .i64 6, .slice A n c, .int .i64 t, .int .i64 i, .int .i64 a, .int .i64 N] 93)).alloc (.cells #[.int .i64 6, .slice none 0 0, .int .i64 0, .int .i64 0, .int .i64 0, .int .i64 N] 93)) := ⟨_, rfl⟩
    have hb : Below w.heap.size w U1 := by rw [hU1]; exact (((Below.refl _ _).alloc (Nat.le_refl _) _).alloc (by simp <;> omega) _)
    have zz : Hid (w.heap.size + 2 = U1.heap.size) := Lib.hid (by rw [hU1]; simp)
    have HX1 : Kept w.heap.size (w.heap.size + 1) (BoxK w.heap.size 93 #[.int .i64 6, .slice A n c, .int .i64 t, .int .i64 i, .int .i64 a, .int .i64 N]) U1 := by rw [hU1]; exact Kept.box ((Box.made_at _ _ _ rfl).over _)
    have HX2 : Kept (w.heap.size + 1) (w.heap.size + 1 + 1) (BoxK (w.heap.size + 1) 93 #[.int .i64 6, .slice none 0 0, .int .i64 0, .int .i64 0, .int .i64 0, .int .i64 N]) U1 := by rw [hU1]; exact Kept.box (Box.made_at _ _ _ (by simp <;> omega))
    replace HB := Lib.hid (below_step HB.out hb)
    clear hb
    have Z1 := zz; clear zz
    have q_0 := HX2.look 0
    have q_1 := HX2.look 1
    have q_2 := HX2.look 2
    have q_3 := HX2.look 3
    have q_4 := HX2.look 4
    have q_5 := HX2.look 5
    subst hU1
    exact bodyPost_ret (v := .agg #[.int .i64 6, .slice none 0 0, .int .i64 0, .int .i64 0, .int .i64 0, .int .i64 N]) (by simp [results, Try.results147, go_sem, q_0, q_1, q_2, q_3, q_4, q_5]) rfl ⟨none, 0, 0, [], 0, 0, 0, N, rfl, Lib.hid (fun W q lo hi h => Rep.Sl_nil _ _ _ _ _ _), Lib.hid (by unfold opForm; simp), HB.out⟩

set_option maxRecDepth 100000 in
set_option maxHeartbeats 1600000 in
theorem opNumbersFit_any (k t i a N : Int) (A : Option Addr) (n c : Nat) (w : World) (hk : 1 ≤ k ∧ k ≤ 6) :
    Calls Try.prog 148 #[.agg #[.int .i64 k, .slice A n c, .int .i64 t, .int .i64 i, .int .i64 a, .int .i64 N]] w fun e w' => e = .returned (.bool (opRange k t i a N)) ∧ Below w.heap.size w w' := by
  rcases (show k = 1 ∨ k = 2 ∨ k = 3 ∨ k = 4 ∨ k = 5 ∨ k = 6 by omega) with rfl | rfl | rfl | rfl | rfl | rfl
  · have HB := Lib.hid (Below.refl w.heap.size w)
    clear hk
    have HO : Hid (opRange 1 t i a N = true) := Lib.hid (by simp [opRange])
    go_enter Try.func148, Try.ntmps148
    go_wp2
    obtain ⟨U1, hU1⟩ : ∃ W : World, W = (w.alloc (.cells #[.int .i64 1, .slice A n c, .int .i64 t, .int .i64 i, .int .i64 a, .int .i64 N] 93)) := ⟨_, rfl⟩
    have hb : Below w.heap.size w U1 := by rw [hU1]; exact ((Below.refl _ _).alloc (Nat.le_refl _) _)
    have zz : Hid (w.heap.size + 1 = U1.heap.size) := Lib.hid (by rw [hU1]; simp)
    have HX1 : Kept w.heap.size (w.heap.size + 1) (BoxK w.heap.size 93 #[.int .i64 1, .slice A n c, .int .i64 t, .int .i64 i, .int .i64 a, .int .i64 N]) U1 := by rw [hU1]; exact Kept.box (Box.made_at _ _ _ rfl)
    replace HB := Lib.hid (below_step HB.out hb)
    clear hb
    have Z1 := zz; clear zz
    subst hU1
    go_ret
    exact ⟨by rw [HO.out]; try rfl, HB.out⟩
  · have HB := Lib.hid (Below.refl w.heap.size w)
    clear hk
    have HO : Hid (opRange 2 t i a N = sk t i a) := Lib.hid (by simp [opRange])
    obtain ⟨r, hr⟩ : ∃ r, sk t i a = r := ⟨_, rfl⟩
    rw [hr] at HO
    have HR := Lib.hid hr
    clear hr
    go_enter Try.func148, Try.ntmps148
    go_wp2_with fail
    refine Calls.name ?_
    intro U1 hU1
    have hb : Below w.heap.size w U1 := by rw [hU1]; exact ((Below.refl _ _).alloc (Nat.le_refl _) _)
    have zz : Hid (w.heap.size + 1 = U1.heap.size) := Lib.hid (by rw [hU1]; simp)
    have HX1 : Kept w.heap.size (w.heap.size + 1) (BoxK w.heap.size 93 #[.int .i64 2, .slice A n c, .int .i64 t, .int .i64 i, .int .i64 a, .int .i64 N]) U1 := by rw [hU1]; exact Kept.box (Box.made_at _ _ _ rfl)
    replace HB := Lib.hid (below_step HB.out hb)
    clear hb
    have Z1 := zz; clear zz
    clear hU1
    refine (isShardKey_any t i a _).mono ?_
    rw [HR.out]
    rintro e w2 ⟨rfl, hb⟩
    have Z2 := Lib.hid hb.size
    replace HX1 := HX1.below hb
    replace HB := Lib.hid (below_step HB.out hb)
    clear hb
    have l2_0 := HX1.bx.lt
    go_wp2
    clear l2_0
    go_ret
    exact ⟨by rw [HO.out]; try rfl, HB.out⟩
  · have HB := Lib.hid (Below.refl w.heap.size w)
    clear hk
    have HO : Hid (opRange 3 t i a N = sk t i a) := Lib.hid (by simp [opRange])
    obtain ⟨r, hr⟩ : ∃ r, sk t i a = r := ⟨_, rfl⟩
    rw [hr] at HO
    have HR := Lib.hid hr
    clear hr
    go_enter Try.func148, Try.ntmps148
    go_wp2_with fail
    refine Calls.name ?_
    intro U1 hU1
    have hb : Below w.heap.size w U1 := by rw [hU1]; exact ((Below.refl _ _).alloc (Nat.le_refl _) _)
    have zz : Hid (w.heap.size + 1 = U1.heap.size) := Lib.hid (by rw [hU1]; simp)
    have HX1 : Kept w.heap.size (w.heap.size + 1) (BoxK w.heap.size 93 #[.int .i64 3, .slice A n c, .int .i64 t, .int .i64 i, .int .i64 a, .int .i64 N]) U1 := by rw [hU1]; exact Kept.box (Box.made_at _ _ _ rfl)
    replace HB := Lib.hid (below_step HB.out hb)
    clear hb
    have Z1 := zz; clear zz
    clear hU1
    refine (isShardKey_any t i a _).mono ?_
    rw [HR.out]
    rintro e w2 ⟨rfl, hb⟩
    have Z2 := Lib.hid hb.size
    replace HX1 := HX1.below hb
    replace HB := Lib.hid (below_step HB.out hb)
    clear hb
    have l2_0 := HX1.bx.lt
    go_wp2
    clear l2_0
    go_ret
    exact ⟨by rw [HO.out]; try rfl, HB.out⟩
  · have HB := Lib.hid (Below.refl w.heap.size w)
    clear hk
    have HO : Hid (opRange 4 t i a N = allIn 1 1000 [N]) := Lib.hid (by simp [opRange])
    obtain ⟨r, hr⟩ : ∃ r, allIn 1 1000 [N] = r := ⟨_, rfl⟩
    rw [hr] at HO
    have HR := Lib.hid hr
    clear hr
    go_enter Try.func148, Try.ntmps148
    go_wp2_with fail
    refine Calls.name ?_
    intro U1 hU1
    have hb : Below w.heap.size w U1 := by rw [hU1]; exact (((Below.refl _ _).alloc (Nat.le_refl _) _).alloc (by simp <;> omega) _)
    have zz : Hid (w.heap.size + 2 = U1.heap.size) := Lib.hid (by rw [hU1]; simp)
    have HX1 : Kept w.heap.size (w.heap.size + 1) (BoxK w.heap.size 93 #[.int .i64 4, .slice A n c, .int .i64 t, .int .i64 i, .int .i64 a, .int .i64 N]) U1 := by rw [hU1]; exact Kept.box ((Box.made_at _ _ _ rfl).over _)
    have HX2 : Kept (w.heap.size + 1) (w.heap.size + 1 + 1) (BoxK (w.heap.size + 1) 2 #[.int .i64 N]) U1 := by rw [hU1]; exact Kept.box (Box.made_at _ _ _ (by simp <;> omega))
    replace HB := Lib.hid (below_step HB.out hb)
    clear hb
    have Z1 := zz; clear zz
    clear hU1
    have HL := Lib.hid (HX2.look 0)
    refine (allWithin_one _ _ _ N _ HL.out).mono ?_
    rw [HR.out]
    rintro e w2 ⟨rfl, rfl⟩
    clear HL
    have l2_0 := HX1.bx.lt
    have l2_1 := HX2.bx.lt
    go_wp2
    clear l2_0 l2_1
    go_ret
    exact ⟨by rw [HO.out]; try rfl, HB.out⟩
  · have HB := Lib.hid (Below.refl w.heap.size w)
    clear hk
    have HO : Hid (opRange 5 t i a N = true) := Lib.hid (by simp [opRange])
    go_enter Try.func148, Try.ntmps148
    go_wp2
    obtain ⟨U1, hU1⟩ : ∃ W : World, W = (w.alloc (.cells #[.int .i64 5, .slice A n c, .int .i64 t, .int .i64 i, .int .i64 a, .int .i64 N] 93)) := ⟨_, rfl⟩
    have hb : Below w.heap.size w U1 := by rw [hU1]; exact ((Below.refl _ _).alloc (Nat.le_refl _) _)
    have zz : Hid (w.heap.size + 1 = U1.heap.size) := Lib.hid (by rw [hU1]; simp)
    have HX1 : Kept w.heap.size (w.heap.size + 1) (BoxK w.heap.size 93 #[.int .i64 5, .slice A n c, .int .i64 t, .int .i64 i, .int .i64 a, .int .i64 N]) U1 := by rw [hU1]; exact Kept.box (Box.made_at _ _ _ rfl)
    replace HB := Lib.hid (below_step HB.out hb)
    clear hb
    have Z1 := zz; clear zz
    subst hU1
    go_ret
    exact ⟨by rw [HO.out]; try rfl, HB.out⟩
  · have HB := Lib.hid (Below.refl w.heap.size w)
    clear hk
    have HO : Hid (opRange 6 t i a N = allIn 0 1 [N]) := Lib.hid (by simp [opRange])
    obtain ⟨r, hr⟩ : ∃ r, allIn 0 1 [N] = r := ⟨_, rfl⟩
    rw [hr] at HO
    have HR := Lib.hid hr
    clear hr
    go_enter Try.func148, Try.ntmps148
    go_wp2_with fail
    refine Calls.name ?_
    intro U1 hU1
    have hb : Below w.heap.size w U1 := by rw [hU1]; exact (((Below.refl _ _).alloc (Nat.le_refl _) _).alloc (by simp <;> omega) _)
    have zz : Hid (w.heap.size + 2 = U1.heap.size) := Lib.hid (by rw [hU1]; simp)
    have HX1 : Kept w.heap.size (w.heap.size + 1) (BoxK w.heap.size 93 #[.int .i64 6, .slice A n c, .int .i64 t, .int .i64 i, .int .i64 a, .int .i64 N]) U1 := by rw [hU1]; exact Kept.box ((Box.made_at _ _ _ rfl).over _)
    have HX2 : Kept (w.heap.size + 1) (w.heap.size + 1 + 1) (BoxK (w.heap.size + 1) 2 #[.int .i64 N]) U1 := by rw [hU1]; exact Kept.box (Box.made_at _ _ _ (by simp <;> omega))
    replace HB := Lib.hid (below_step HB.out hb)
    clear hb
    have Z1 := zz; clear zz
    clear hU1
    have HL := Lib.hid (HX2.look 0)
    refine (allWithin_one _ _ _ N _ HL.out).mono ?_
    rw [HR.out]
    rintro e w2 ⟨rfl, rfl⟩
    clear HL
    have l2_0 := HX1.bx.lt
    have l2_1 := HX2.bx.lt
    go_wp2
    clear l2_0 l2_1
    go_ret
    exact ⟨by rw [HO.out]; try rfl, HB.out⟩

set_option maxRecDepth 100000 in
set_option maxHeartbeats 25600000 in
theorem opFault_any (k t i a N : Int) (q : Bool) (lo hi : Nat) (A : Option Addr) (n c : Nat) (xs : List Int) (w : World) (ha : Rep.u8.Sl q lo hi w A n xs) (hh : hi ≤ w.heap.size) (hn : n ≤ 1048576) :
    Calls Try.prog 67 #[.agg #[.int .i64 k, .slice A n c, .int .i64 t, .int .i64 i, .int .i64 a, .int .i64 N]] w fun e w' => e = .returned (.int .i64 (opf k xs t i a N)) ∧ Below w.heap.size w w' := by
  have hl := ha.1
  have HNN := Lib.hid (len_nil hl)
  by_cases hk : ¬ (1 ≤ k ∧ k ≤ 6)
  · have HB := Lib.hid (Below.refl w.heap.size w)
    have HA := Rep.Sl.kept ha hh
    have HIN := Lib.hid (allIn_one_no hk)
    have HQ : Hid (opf k xs t i a N = 1) := Lib.hid (by unfold opf; rw [if_pos (fun h => hk (opForm_kind h))])
    clear hk
    clear ha
    go_enter Try.func67, Try.ntmps67
    go_wp2_with fail
    refine Code.wp_name ?_
    intro U1 hU1
    have hb : Below w.heap.size w U1 := by rw [hU1]; exact ((Below.refl _ _).alloc (Nat.le_refl _) _)
    have zz : Hid (w.heap.size + 1 = U1.heap.size) := Lib.hid (by rw [hU1]; simp)
    have HX1 : Kept w.heap.size (w.heap.size + 1) (BoxK w.heap.size 93 #[.int .i64 k, .slice A n c, .int .i64 t, .int .i64 i, .int .i64 a, .int .i64 N]) U1 := by rw [hU1]; exact Kept.box (Box.made_at _ _ _ rfl)
    replace HA := HA.below hb
    replace HB := Lib.hid (below_step HB.out hb)
    clear hb
    have Z1 := zz; clear zz
    clear hU1
    have SB : Hid (∀ W, Hid (Below U1.heap.size U1 W) → (fun W => W.cell? ⟨w.heap.size, 0, none⟩ = some (.int .i64 k) ∧ W.cell? ⟨w.heap.size, 1, none⟩ = some (.slice A n c) ∧ W.cell? ⟨w.heap.size, 2, none⟩ = some (.int .i64 t) ∧ W.cell? ⟨w.heap.size, 3, none⟩ = some (.int .i64 i) ∧ W.cell? ⟨w.heap.size, 4, none⟩ = some (.int .i64 a) ∧ W.cell? ⟨w.heap.size, 5, none⟩ = some (.int .i64 N)) W) := fun W h => ⟨(HX1.below h.out).look 0, (HX1.below h.out).look 1, (HX1.below h.out).look 2, (HX1.below h.out).look 3, (HX1.below h.out).look 4, (HX1.below h.out).look 5⟩
    have V0 : Hid (Below U1.heap.size U1 U1.drew) := (Below.refl _ _).drew
    have VA : Hid (Below U1.heap.size U1 (U1.alloc (.cells #[.int .i64 k] 2)).drew) := ((Below.refl _ _).alloc (Nat.le_refl _) _).drew
    have HL : Hid ((U1.alloc (.cells #[.int .i64 k] 2)).drew.cell? ⟨U1.heap.size, 0, none⟩ = some (.int .i64 k)) := Lib.hid ((Box.made U1 2 #[.int .i64 k]).look 0)
    clear SB V0
    have SB : Hid (∀ W, Hid (Below U1.heap.size U1 W) → (fun W => W.cell? ⟨w.heap.size, 0, none⟩ = some (.int .i64 k) ∧ W.cell? ⟨w.heap.size, 1, none⟩ = some (.slice A n c) ∧ W.cell? ⟨w.heap.size, 2, none⟩ = some (.int .i64 t) ∧ W.cell? ⟨w.heap.size, 3, none⟩ = some (.int .i64 i) ∧ W.cell? ⟨w.heap.size, 4, none⟩ = some (.int .i64 a) ∧ W.cell? ⟨w.heap.size, 5, none⟩ = some (.int .i64 N)) W) := fun W h => ⟨(HX1.below h.out).look 0, (HX1.below h.out).look 1, (HX1.below h.out).look 2, (HX1.below h.out).look 3, (HX1.below h.out).look 4, (HX1.below h.out).look 5⟩
    have V0 : Hid (Below U1.heap.size U1 U1.drew) := (Below.refl _ _).drew
    refine wp_region_held_drew (S := (fun W => W.cell? ⟨w.heap.size, 0, none⟩ = some (.int .i64 k) ∧ W.cell? ⟨w.heap.size, 1, none⟩ = some (.slice A n c) ∧ W.cell? ⟨w.heap.size, 2, none⟩ = some (.int .i64 t) ∧ W.cell? ⟨w.heap.size, 3, none⟩ = some (.int .i64 i) ∧ W.cell? ⟨w.heap.size, 4, none⟩ = some (.int .i64 a) ∧ W.cell? ⟨w.heap.size, 5, none⟩ = some (.int .i64 N))) (by kernel_rfl) ?_ (fun hHeld => ?_)
    · (try dsimp only); exact SB.out _ (by assumption)
    refine wpAnyH_take (i := 0) (v := ?v1_0) rfl (by kernel_rfl) (by kernel_rfl) (by kernel_rfl) (fun _ _ _ h => h) (Or.inl ⟨by rfl, ?hy1_0⟩) (by assumption) ?rest1_0
    case hy1_0 => (intro W hSw; (try dsimp only at hSw); (go_simp <;> with_reducible rfl))
    (try simp only [List.getElem_toArray, List.getElem_cons_zero, Act.put, List.setIfInBounds_toArray, List.set_cons_zero, List.set_cons_succ])
    refine wpAnyH_take (i := 1) (v := ?v1_1) rfl (by kernel_rfl) (by kernel_rfl) (by kernel_rfl) (fun _ _ _ h => h) (Or.inl ⟨by rfl, ?hy1_1⟩) (by assumption) ?rest1_1
    case hy1_1 => (intro W hSw; (try dsimp only at hSw); (go_simp <;> with_reducible rfl))
    (try simp only [List.getElem_toArray, List.getElem_cons_succ, List.getElem_cons_zero, Act.put, List.setIfInBounds_toArray, List.set_cons_zero, List.set_cons_succ])
    refine wpAnyH_ready (rs := [2]) (by kernel_rfl) (by simp) ?_
    refine AllReadyH.cons rfl (fun K hK => ?_) AllReadyH.nil
    go_simp
    (try go_wp2_with fail)
    refine hK.out _ _ ?_ (fun hHeld => ?_)
    · (try dsimp only); exact SB.out _ VA
    clear hK K
    (try simp only [List.getElem_toArray, List.getElem_cons_succ, List.getElem_cons_zero, Act.put, List.setIfInBounds_toArray, List.set_cons_zero, List.set_cons_succ])
    refine wpAnyH_ready (rs := [3]) (by kernel_rfl) (by simp) ?_
    refine AllReadyH.cons rfl (fun K hK => ?_) AllReadyH.nil
    go_simp
    with_reducible refine (allWithin_oneB _ _ _ k _ HL.out).mono ?_
    rw [HIN.out]
    rintro e u1_0 ⟨rfl, hb⟩
    have V1 := Lib.hid (below_step VA.out hb)
    clear hb
    (try go_wp2_with fail)
    refine hK.out _ _ ?_ (fun hHeld => ?_)
    · (try dsimp only); exact SB.out _ V1
    clear hK K
    (try simp only [List.getElem_toArray, List.getElem_cons_succ, List.getElem_cons_zero, Act.put, List.setIfInBounds_toArray, List.set_cons_zero, List.set_cons_succ])
    refine wpAnyH_take (i := 4) (v := ?v1_4) rfl (by kernel_rfl) (by kernel_rfl) (by kernel_rfl) (fun _ _ _ h => h) (Or.inl ⟨by rfl, ?hy1_4⟩) (by assumption) ?rest1_4
    case hy1_4 => (intro W hSw; (try dsimp only at hSw); (go_simp <;> with_reducible rfl))
    (try simp only [List.getElem_toArray, List.getElem_cons_succ, List.getElem_cons_zero, Act.put, List.setIfInBounds_toArray, List.set_cons_zero, List.set_cons_succ])
    refine wpAnyH_take (i := 5) (v := ?v1_5) rfl (by kernel_rfl) (by kernel_rfl) (by kernel_rfl) (fun _ _ _ h => h) (Or.inl ⟨by rfl, ?hy1_5⟩) (by assumption) ?rest1_5
    case hy1_5 => (intro W hSw; (try dsimp only at hSw); (go_simp <;> with_reducible rfl))
    (try simp only [List.getElem_toArray, List.getElem_cons_succ, List.getElem_cons_zero, Act.put, List.setIfInBounds_toArray, List.set_cons_zero, List.set_cons_succ])
    refine wpAnyH_take (i := 6) (v := undef) rfl (by kernel_rfl) (by kernel_rfl) (by kernel_rfl) (fun _ _ _ h => h) (Or.inr ⟨by rfl, rfl⟩) (by assumption) ?_
    (try simp only [List.getElem_toArray, List.getElem_cons_succ, List.getElem_cons_zero, Act.put, List.setIfInBounds_toArray, List.set_cons_zero, List.set_cons_succ])
    refine wpAnyH_take (i := 7) (v := undef) rfl (by kernel_rfl) (by kernel_rfl) (by kernel_rfl) (fun _ _ _ h => h) (Or.inr ⟨by rfl, rfl⟩) (by assumption) ?_
    (try simp only [List.getElem_toArray, List.getElem_cons_succ, List.getElem_cons_zero, Act.put, List.setIfInBounds_toArray, List.set_cons_zero, List.set_cons_succ])
    refine wpAnyH_take (i := 8) (v := undef) rfl (by kernel_rfl) (by kernel_rfl) (by kernel_rfl) (fun _ _ _ h => h) (Or.inr ⟨by rfl, rfl⟩) (by assumption) ?_
    (try simp only [List.getElem_toArray, List.getElem_cons_succ, List.getElem_cons_zero, Act.put, List.setIfInBounds_toArray, List.set_cons_zero, List.set_cons_succ])
    refine wpAnyH_take (i := 9) (v := undef) rfl (by kernel_rfl) (by kernel_rfl) (by kernel_rfl) (fun _ _ _ h => h) (Or.inr ⟨by rfl, rfl⟩) (by assumption) ?_
    (try simp only [List.getElem_toArray, List.getElem_cons_succ, List.getElem_cons_zero, Act.put, List.setIfInBounds_toArray, List.set_cons_zero, List.set_cons_succ])
    refine wpAnyH_take (i := 10) (v := undef) rfl (by kernel_rfl) (by kernel_rfl) (by kernel_rfl) (fun _ _ _ h => h) (Or.inr ⟨by rfl, rfl⟩) (by assumption) ?_
    (try simp only [List.getElem_toArray, List.getElem_cons_succ, List.getElem_cons_zero, Act.put, List.setIfInBounds_toArray, List.set_cons_zero, List.set_cons_succ])
    refine wpAnyH_take (i := 11) (v := ?v1_11) rfl (by kernel_rfl) (by kernel_rfl) (by kernel_rfl) (fun _ _ _ h => h) (Or.inl ⟨by rfl, ?hy1_11⟩) (by assumption) ?rest1_11
    case hy1_11 => (intro W hSw; (try dsimp only at hSw); (go_simp <;> with_reducible rfl))
    (try simp only [List.getElem_toArray, List.getElem_cons_succ, List.getElem_cons_zero, Act.put, List.setIfInBounds_toArray, List.set_cons_zero, List.set_cons_succ])
    refine wpAnyH_done (by kernel_rfl) ?_ _
    have hb := V1.out
    clear SB V0 VA V1
    have Z2 := Lib.hid hb.size
    replace HA := HA.below hb
    replace HX1 := HX1.below hb
    replace HB := Lib.hid (below_step HB.out hb)
    clear hb
    clear HL
    have l2_0 := HX1.bx.lt
    go_wp2
    clear l2_0
    go_ret
    exact ⟨by rw [HQ.out]; try rfl, HB.out⟩
  replace hk : 1 ≤ k ∧ k ≤ 6 := Classical.byContradiction hk
  have HIN := Lib.hid (allIn_one_yes hk.1 hk.2)
  by_cases hf : ¬ opForm k xs t i a N
  · have HB := Lib.hid (Below.refl w.heap.size w)
    have HA := Rep.Sl.kept ha hh
    have HF := Lib.hid hf
    have HQ : Hid (opf k xs t i a N = 1) := Lib.hid (by unfold opf; rw [if_pos hf])
    clear hf
    clear ha
    go_enter Try.func67, Try.ntmps67
    go_wp2_with fail
    refine Code.wp_name ?_
    intro U1 hU1
    have hb : Below w.heap.size w U1 := by rw [hU1]; exact ((Below.refl _ _).alloc (Nat.le_refl _) _)
    have zz : Hid (w.heap.size + 1 = U1.heap.size) := Lib.hid (by rw [hU1]; simp)
    have HX1 : Kept w.heap.size (w.heap.size + 1) (BoxK w.heap.size 93 #[.int .i64 k, .slice A n c, .int .i64 t, .int .i64 i, .int .i64 a, .int .i64 N]) U1 := by rw [hU1]; exact Kept.box (Box.made_at _ _ _ rfl)
    replace HA := HA.below hb
    replace HB := Lib.hid (below_step HB.out hb)
    clear hb
    have Z1 := zz; clear zz
    clear hU1
    have SB : Hid (∀ W, Hid (Below U1.heap.size U1 W) → (fun W => W.cell? ⟨w.heap.size, 0, none⟩ = some (.int .i64 k) ∧ W.cell? ⟨w.heap.size, 1, none⟩ = some (.slice A n c) ∧ W.cell? ⟨w.heap.size, 2, none⟩ = some (.int .i64 t) ∧ W.cell? ⟨w.heap.size, 3, none⟩ = some (.int .i64 i) ∧ W.cell? ⟨w.heap.size, 4, none⟩ = some (.int .i64 a) ∧ W.cell? ⟨w.heap.size, 5, none⟩ = some (.int .i64 N)) W) := fun W h => ⟨(HX1.below h.out).look 0, (HX1.below h.out).look 1, (HX1.below h.out).look 2, (HX1.below h.out).look 3, (HX1.below h.out).look 4, (HX1.below h.out).look 5⟩
    have V0 : Hid (Below U1.heap.size U1 U1.drew) := (Below.refl _ _).drew
    have VA : Hid (Below U1.heap.size U1 (U1.alloc (.cells #[.int .i64 k] 2)).drew) := ((Below.refl _ _).alloc (Nat.le_refl _) _).drew
    have HL : Hid ((U1.alloc (.cells #[.int .i64 k] 2)).drew.cell? ⟨U1.heap.size, 0, none⟩ = some (.int .i64 k)) := Lib.hid ((Box.made U1 2 #[.int .i64 k]).look 0)
    go_region_held3 (fun W => W.cell? ⟨w.heap.size, 0, none⟩ = some (.int .i64 k) ∧ W.cell? ⟨w.heap.size, 1, none⟩ = some (.slice A n c) ∧ W.cell? ⟨w.heap.size, 2, none⟩ = some (.int .i64 t) ∧ W.cell? ⟨w.heap.size, 3, none⟩ = some (.int .i64 i) ∧ W.cell? ⟨w.heap.size, 4, none⟩ = some (.int .i64 a) ∧ W.cell? ⟨w.heap.size, 5, none⟩ = some (.int .i64 N)) (first | (with_reducible exact SB.out _ V0) | (with_reducible exact SB.out _ VA) | (with_reducible exact SB.out _ V1) | (with_reducible exact SB.out _ V2))
      (first | (go_at_call 91; ((with_reducible refine (allWithin_one _ _ _ k _ HL.out).mono ?_); rw [HIN.out]; rintro e u0 ⟨rfl, rfl⟩)) | (go_at_call 147; ((with_reducible refine (neededOf_any k t i a N A n c xs _ hk).mono ?_); rintro e u1 ⟨B, m, d, ys, t2, i2, a2, N2, rfl, HSL, HIF, hb⟩; have V1 := Lib.hid (below_step VA.out hb); clear hb; have HS1 := (HA.below V1.out).sl; have HS2 := HSL.out _ _ _ _ HS1; have HLE := (HA.below V1.out).le; have HIQ : false = true ↔ k = k ∧ xs = ys ∧ (t = t2 ∧ i = i2 ∧ a = a2) ∧ N = N2 := (by rw [← HIF.out]; exact ⟨fun h => (by cases h), fun h => absurd h HF.out⟩); have CC := Lib.hid (sameOps_any k t i a N k t2 i2 a2 N2 q q lo hi lo hi A B n c m d xs ys false _ HS1 HLE HS2 HLE HIQ); clear HIQ HS1 HS2 HLE HSL HIF)) | (go_at_call 146; ((with_reducible refine (CC.out).mono ?_); rintro e u2 ⟨rfl, hb⟩; have V2 := Lib.hid (below_step V1.out hb); clear hb)))
    have hb := V2.out
    clear SB V0 VA HL V1 V2
    have Z2 := Lib.hid hb.size
    replace HA := HA.below hb
    replace HX1 := HX1.below hb
    replace HB := Lib.hid (below_step HB.out hb)
    clear hb
    clear CC
    have l2_0 := HX1.bx.lt
    go_wp2
    clear l2_0
    go_ret
    exact ⟨by rw [HQ.out]; try rfl, HB.out⟩
  have HF : Hid (opForm k xs t i a N) := Lib.hid (Classical.byContradiction hf)
  by_cases hg : opRange k t i a N = false
  · have HB := Lib.hid (Below.refl w.heap.size w)
    have HA := Rep.Sl.kept ha hh
    have HRG := Lib.hid hg
    have HQ : Hid (opf k xs t i a N = 3) := Lib.hid (by unfold opf; rw [if_neg hf, if_pos hg])
    clear hf hg
    clear ha
    go_enter Try.func67, Try.ntmps67
    go_wp2_with fail
    refine Code.wp_name ?_
    intro U1 hU1
    have hb : Below w.heap.size w U1 := by rw [hU1]; exact ((Below.refl _ _).alloc (Nat.le_refl _) _)
    have zz : Hid (w.heap.size + 1 = U1.heap.size) := Lib.hid (by rw [hU1]; simp)
    have HX1 : Kept w.heap.size (w.heap.size + 1) (BoxK w.heap.size 93 #[.int .i64 k, .slice A n c, .int .i64 t, .int .i64 i, .int .i64 a, .int .i64 N]) U1 := by rw [hU1]; exact Kept.box (Box.made_at _ _ _ rfl)
    replace HA := HA.below hb
    replace HB := Lib.hid (below_step HB.out hb)
    clear hb
    have Z1 := zz; clear zz
    clear hU1
    have SB : Hid (∀ W, Hid (Below U1.heap.size U1 W) → (fun W => W.cell? ⟨w.heap.size, 0, none⟩ = some (.int .i64 k) ∧ W.cell? ⟨w.heap.size, 1, none⟩ = some (.slice A n c) ∧ W.cell? ⟨w.heap.size, 2, none⟩ = some (.int .i64 t) ∧ W.cell? ⟨w.heap.size, 3, none⟩ = some (.int .i64 i) ∧ W.cell? ⟨w.heap.size, 4, none⟩ = some (.int .i64 a) ∧ W.cell? ⟨w.heap.size, 5, none⟩ = some (.int .i64 N)) W) := fun W h => ⟨(HX1.below h.out).look 0, (HX1.below h.out).look 1, (HX1.below h.out).look 2, (HX1.below h.out).look 3, (HX1.below h.out).look 4, (HX1.below h.out).look 5⟩
    have V0 : Hid (Below U1.heap.size U1 U1.drew) := (Below.refl _ _).drew
    have VA : Hid (Below U1.heap.size U1 (U1.alloc (.cells #[.int .i64 k] 2)).drew) := ((Below.refl _ _).alloc (Nat.le_refl _) _).drew
    have HL : Hid ((U1.alloc (.cells #[.int .i64 k] 2)).drew.cell? ⟨U1.heap.size, 0, none⟩ = some (.int .i64 k)) := Lib.hid ((Box.made U1 2 #[.int .i64 k]).look 0)
    go_region_held3 (fun W => W.cell? ⟨w.heap.size, 0, none⟩ = some (.int .i64 k) ∧ W.cell? ⟨w.heap.size, 1, none⟩ = some (.slice A n c) ∧ W.cell? ⟨w.heap.size, 2, none⟩ = some (.int .i64 t) ∧ W.cell? ⟨w.heap.size, 3, none⟩ = some (.int .i64 i) ∧ W.cell? ⟨w.heap.size, 4, none⟩ = some (.int .i64 a) ∧ W.cell? ⟨w.heap.size, 5, none⟩ = some (.int .i64 N)) (first | (with_reducible exact SB.out _ V0) | (with_reducible exact SB.out _ VA) | (with_reducible exact SB.out _ V1) | (with_reducible exact SB.out _ V2))
      (first | (go_at_call 91; ((with_reducible refine (allWithin_one _ _ _ k _ HL.out).mono ?_); rw [HIN.out]; rintro e u0 ⟨rfl, rfl⟩)) | (go_at_call 147; ((with_reducible refine (neededOf_any k t i a N A n c xs _ hk).mono ?_); rintro e u1 ⟨B, m, d, ys, t2, i2, a2, N2, rfl, HSL, HIF, hb⟩; have V1 := Lib.hid (below_step VA.out hb); clear hb; have HS1 := (HA.below V1.out).sl; have HS2 := HSL.out _ _ _ _ HS1; have HLE := (HA.below V1.out).le; have HIQ : true = true ↔ k = k ∧ xs = ys ∧ (t = t2 ∧ i = i2 ∧ a = a2) ∧ N = N2 := (by rw [← HIF.out]; exact ⟨fun _ => HF.out, fun _ => rfl⟩); have CC := Lib.hid (sameOps_any k t i a N k t2 i2 a2 N2 q q lo hi lo hi A B n c m d xs ys true _ HS1 HLE HS2 HLE HIQ); clear HIQ HS1 HS2 HLE HSL HIF)) | (go_at_call 146; ((with_reducible refine (CC.out).mono ?_); rintro e u2 ⟨rfl, hb⟩; have V2 := Lib.hid (below_step V1.out hb); clear hb)))
    have hb := V2.out
    clear SB V0 VA HL V1 V2
    have Z2 := Lib.hid hb.size
    replace HA := HA.below hb
    replace HX1 := HX1.below hb
    replace HB := Lib.hid (below_step HB.out hb)
    clear hb
    clear CC
    have c2_0 := HX1.look 0
    have c2_1 := HX1.look 1
    have c2_2 := HX1.look 2
    have c2_3 := HX1.look 3
    have c2_4 := HX1.look 4
    have c2_5 := HX1.look 5
    have l2_0 := HX1.bx.lt
    go_wp2_with fail
    clear c2_0 c2_1 c2_2 c2_3 c2_4 c2_5 l2_0
    refine (opNumbersFit_any k t i a N A n c _ hk).mono ?_
    rw [HRG.out]
    rintro e w2 ⟨rfl, hb⟩
    have Z3 := Lib.hid hb.size
    replace HA := HA.below hb
    replace HX1 := HX1.below hb
    replace HB := Lib.hid (below_step HB.out hb)
    clear hb
    have l3_0 := HX1.bx.lt
    go_wp2
    clear l3_0
    go_ret
    exact ⟨by rw [HQ.out]; try rfl, HB.out⟩
  have HRG : Hid (opRange k t i a N = true) := Lib.hid (by simpa using hg)
  by_cases hx : 400 < xs.length
  · have HB := Lib.hid (Below.refl w.heap.size w)
    have HA := Rep.Sl.kept ha hh
    have HQ : Hid (opf k xs t i a N = 2) := Lib.hid (by unfold opf; rw [if_neg hf, if_neg hg, if_pos hx])
    have hlt : (400 : Int) < n := by omega
    clear hf hg hx
    clear ha
    go_enter Try.func67, Try.ntmps67
    go_wp2_with fail
    refine Code.wp_name ?_
    intro U1 hU1
    have hb : Below w.heap.size w U1 := by rw [hU1]; exact ((Below.refl _ _).alloc (Nat.le_refl _) _)
    have zz : Hid (w.heap.size + 1 = U1.heap.size) := Lib.hid (by rw [hU1]; simp)
    have HX1 : Kept w.heap.size (w.heap.size + 1) (BoxK w.heap.size 93 #[.int .i64 k, .slice A n c, .int .i64 t, .int .i64 i, .int .i64 a, .int .i64 N]) U1 := by rw [hU1]; exact Kept.box (Box.made_at _ _ _ rfl)
    replace HA := HA.below hb
    replace HB := Lib.hid (below_step HB.out hb)
    clear hb
    have Z1 := zz; clear zz
    clear hU1
    have SB : Hid (∀ W, Hid (Below U1.heap.size U1 W) → (fun W => W.cell? ⟨w.heap.size, 0, none⟩ = some (.int .i64 k) ∧ W.cell? ⟨w.heap.size, 1, none⟩ = some (.slice A n c) ∧ W.cell? ⟨w.heap.size, 2, none⟩ = some (.int .i64 t) ∧ W.cell? ⟨w.heap.size, 3, none⟩ = some (.int .i64 i) ∧ W.cell? ⟨w.heap.size, 4, none⟩ = some (.int .i64 a) ∧ W.cell? ⟨w.heap.size, 5, none⟩ = some (.int .i64 N)) W) := fun W h => ⟨(HX1.below h.out).look 0, (HX1.below h.out).look 1, (HX1.below h.out).look 2, (HX1.below h.out).look 3, (HX1.below h.out).look 4, (HX1.below h.out).look 5⟩
    have V0 : Hid (Below U1.heap.size U1 U1.drew) := (Below.refl _ _).drew
    have VA : Hid (Below U1.heap.size U1 (U1.alloc (.cells #[.int .i64 k] 2)).drew) := ((Below.refl _ _).alloc (Nat.le_refl _) _).drew
    have HL : Hid ((U1.alloc (.cells #[.int .i64 k] 2)).drew.cell? ⟨U1.heap.size, 0, none⟩ = some (.int .i64 k)) := Lib.hid ((Box.made U1 2 #[.int .i64 k]).look 0)
    go_region_held3 (fun W => W.cell? ⟨w.heap.size, 0, none⟩ = some (.int .i64 k) ∧ W.cell? ⟨w.heap.size, 1, none⟩ = some (.slice A n c) ∧ W.cell? ⟨w.heap.size, 2, none⟩ = some (.int .i64 t) ∧ W.cell? ⟨w.heap.size, 3, none⟩ = some (.int .i64 i) ∧ W.cell? ⟨w.heap.size, 4, none⟩ = some (.int .i64 a) ∧ W.cell? ⟨w.heap.size, 5, none⟩ = some (.int .i64 N)) (first | (with_reducible exact SB.out _ V0) | (with_reducible exact SB.out _ VA) | (with_reducible exact SB.out _ V1) | (with_reducible exact SB.out _ V2))
      (first | (go_at_call 91; ((with_reducible refine (allWithin_one _ _ _ k _ HL.out).mono ?_); rw [HIN.out]; rintro e u0 ⟨rfl, rfl⟩)) | (go_at_call 147; ((with_reducible refine (neededOf_any k t i a N A n c xs _ hk).mono ?_); rintro e u1 ⟨B, m, d, ys, t2, i2, a2, N2, rfl, HSL, HIF, hb⟩; have V1 := Lib.hid (below_step VA.out hb); clear hb; have HS1 := (HA.below V1.out).sl; have HS2 := HSL.out _ _ _ _ HS1; have HLE := (HA.below V1.out).le; have HIQ : true = true ↔ k = k ∧ xs = ys ∧ (t = t2 ∧ i = i2 ∧ a = a2) ∧ N = N2 := (by rw [← HIF.out]; exact ⟨fun _ => HF.out, fun _ => rfl⟩); have CC := Lib.hid (sameOps_any k t i a N k t2 i2 a2 N2 q q lo hi lo hi A B n c m d xs ys true _ HS1 HLE HS2 HLE HIQ); clear HIQ HS1 HS2 HLE HSL HIF)) | (go_at_call 146; ((with_reducible refine (CC.out).mono ?_); rintro e u2 ⟨rfl, hb⟩; have V2 := Lib.hid (below_step V1.out hb); clear hb)))
    have hb := V2.out
    clear SB V0 VA HL V1 V2
    have Z2 := Lib.hid hb.size
    replace HA := HA.below hb
    replace HX1 := HX1.below hb
    replace HB := Lib.hid (below_step HB.out hb)
    clear hb
    clear CC
    have c2_0 := HX1.look 0
    have c2_1 := HX1.look 1
    have c2_2 := HX1.look 2
    have c2_3 := HX1.look 3
    have c2_4 := HX1.look 4
    have c2_5 := HX1.look 5
    have l2_0 := HX1.bx.lt
    go_wp2_with fail
    clear c2_0 c2_1 c2_2 c2_3 c2_4 c2_5 l2_0
    refine (opNumbersFit_any k t i a N A n c _ hk).mono ?_
    rw [HRG.out]
    rintro e w2 ⟨rfl, hb⟩
    have Z3 := Lib.hid hb.size
    replace HA := HA.below hb
    replace HX1 := HX1.below hb
    replace HB := Lib.hid (below_step HB.out hb)
    clear hb
    have c3_0 := HX1.look 1
    have l3_0 := HX1.bx.lt
    go_wp2
    clear c3_0 l3_0
    go_ret
    exact ⟨by rw [HQ.out]; try rfl, HB.out⟩
  · have HB := Lib.hid (Below.refl w.heap.size w)
    have HA := Rep.Sl.kept ha hh
    have HQ : Hid (opf k xs t i a N = 0) := Lib.hid (by unfold opf; rw [if_neg hf, if_neg hg, if_neg hx])
    have HLT : Hid (¬ (400 : Int) < n) := Lib.hid (by omega)
    clear hf hg hx
    clear ha
    go_enter Try.func67, Try.ntmps67
    go_wp2_with fail
    refine Code.wp_name ?_
    intro U1 hU1
    have hb : Below w.heap.size w U1 := by rw [hU1]; exact ((Below.refl _ _).alloc (Nat.le_refl _) _)
    have zz : Hid (w.heap.size + 1 = U1.heap.size) := Lib.hid (by rw [hU1]; simp)
    have HX1 : Kept w.heap.size (w.heap.size + 1) (BoxK w.heap.size 93 #[.int .i64 k, .slice A n c, .int .i64 t, .int .i64 i, .int .i64 a, .int .i64 N]) U1 := by rw [hU1]; exact Kept.box (Box.made_at _ _ _ rfl)
    replace HA := HA.below hb
    replace HB := Lib.hid (below_step HB.out hb)
    clear hb
    have Z1 := zz; clear zz
    clear hU1
    have SB : Hid (∀ W, Hid (Below U1.heap.size U1 W) → (fun W => W.cell? ⟨w.heap.size, 0, none⟩ = some (.int .i64 k) ∧ W.cell? ⟨w.heap.size, 1, none⟩ = some (.slice A n c) ∧ W.cell? ⟨w.heap.size, 2, none⟩ = some (.int .i64 t) ∧ W.cell? ⟨w.heap.size, 3, none⟩ = some (.int .i64 i) ∧ W.cell? ⟨w.heap.size, 4, none⟩ = some (.int .i64 a) ∧ W.cell? ⟨w.heap.size, 5, none⟩ = some (.int .i64 N)) W) := fun W h => ⟨(HX1.below h.out).look 0, (HX1.below h.out).look 1, (HX1.below h.out).look 2, (HX1.below h.out).look 3, (HX1.below h.out).look 4, (HX1.below h.out).look 5⟩
    have V0 : Hid (Below U1.heap.size U1 U1.drew) := (Below.refl _ _).drew
    have VA : Hid (Below U1.heap.size U1 (U1.alloc (.cells #[.int .i64 k] 2)).drew) := ((Below.refl _ _).alloc (Nat.le_refl _) _).drew
    have HL : Hid ((U1.alloc (.cells #[.int .i64 k] 2)).drew.cell? ⟨U1.heap.size, 0, none⟩ = some (.int .i64 k)) := Lib.hid ((Box.made U1 2 #[.int .i64 k]).look 0)
    go_region_held3 (fun W => W.cell? ⟨w.heap.size, 0, none⟩ = some (.int .i64 k) ∧ W.cell? ⟨w.heap.size, 1, none⟩ = some (.slice A n c) ∧ W.cell? ⟨w.heap.size, 2, none⟩ = some (.int .i64 t) ∧ W.cell? ⟨w.heap.size, 3, none⟩ = some (.int .i64 i) ∧ W.cell? ⟨w.heap.size, 4, none⟩ = some (.int .i64 a) ∧ W.cell? ⟨w.heap.size, 5, none⟩ = some (.int .i64 N)) (first | (with_reducible exact SB.out _ V0) | (with_reducible exact SB.out _ VA) | (with_reducible exact SB.out _ V1) | (with_reducible exact SB.out _ V2))
      (first | (go_at_call 91; ((with_reducible refine (allWithin_one _ _ _ k _ HL.out).mono ?_); rw [HIN.out]; rintro e u0 ⟨rfl, rfl⟩)) | (go_at_call 147; ((with_reducible refine (neededOf_any k t i a N A n c xs _ hk).mono ?_); rintro e u1 ⟨B, m, d, ys, t2, i2, a2, N2, rfl, HSL, HIF, hb⟩; have V1 := Lib.hid (below_step VA.out hb); clear hb; have HS1 := (HA.below V1.out).sl; have HS2 := HSL.out _ _ _ _ HS1; have HLE := (HA.below V1.out).le; have HIQ : true = true ↔ k = k ∧ xs = ys ∧ (t = t2 ∧ i = i2 ∧ a = a2) ∧ N = N2 := (by rw [← HIF.out]; exact ⟨fun _ => HF.out, fun _ => rfl⟩); have CC := Lib.hid (sameOps_any k t i a N k t2 i2 a2 N2 q q lo hi lo hi A B n c m d xs ys true _ HS1 HLE HS2 HLE HIQ); clear HIQ HS1 HS2 HLE HSL HIF)) | (go_at_call 146; ((with_reducible refine (CC.out).mono ?_); rintro e u2 ⟨rfl, hb⟩; have V2 := Lib.hid (below_step V1.out hb); clear hb)))
    have hb := V2.out
    clear SB V0 VA HL V1 V2
    have Z2 := Lib.hid hb.size
    replace HA := HA.below hb
    replace HX1 := HX1.below hb
    replace HB := Lib.hid (below_step HB.out hb)
    clear hb
    clear CC
    have c2_0 := HX1.look 0
    have c2_1 := HX1.look 1
    have c2_2 := HX1.look 2
    have c2_3 := HX1.look 3
    have c2_4 := HX1.look 4
    have c2_5 := HX1.look 5
    have l2_0 := HX1.bx.lt
    go_wp2_with fail
    clear c2_0 c2_1 c2_2 c2_3 c2_4 c2_5 l2_0
    refine (opNumbersFit_any k t i a N A n c _ hk).mono ?_
    rw [HRG.out]
    rintro e w2 ⟨rfl, hb⟩
    have Z3 := Lib.hid hb.size
    replace HA := HA.below hb
    replace HX1 := HX1.below hb
    replace HB := Lib.hid (below_step HB.out hb)
    clear hb
    have hlt := HLT.out
    have c3_0 := HX1.look 1
    have l3_0 := HX1.bx.lt
    go_wp2
    clear c3_0 l3_0
    go_ret
    exact ⟨by rw [HQ.out]; try rfl, HB.out⟩


end Go.Proofs.Ytiffhjofabaflaa
