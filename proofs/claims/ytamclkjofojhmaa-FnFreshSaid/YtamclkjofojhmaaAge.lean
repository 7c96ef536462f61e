/-
  What AgeLsa and FlushLsa answer. No statement is proved here.
-/
import Derived.Test.YtamclkjofojhmaaClone
import Derived.Test.YtamclkjofojhmaaEncBoth
import Derived.IntWalk
namespace Go.Proofs.Ytamclkjofojhmaa
open Go.RowKit
set_option linter.unusedVariables false

theorem l1Min_le (a b : Int) (w : World) (h : a < b) :
    Calls Try.prog 129 #[.int .i64 a, .int .i64 b] w fun e w' => e = .returned (.int .i64 a) ∧ w' = w := by
  go_enter Try.func129, Try.ntmps129
  go_wp2
  go_ret
  exact ⟨rfl, rfl⟩
theorem l1Min_ge (a b : Int) (w : World) (h : ¬ a < b) :
    Calls Try.prog 129 #[.int .i64 a, .int .i64 b] w fun e w' => e = .returned (.int .i64 b) ∧ w' = w := by
  go_enter Try.func129, Try.ntmps129
  go_wp2
  go_ret
  exact ⟨rfl, rfl⟩
theorem l1Min_any (a b : Int) (w : World) : Calls Try.prog 129 #[.int .i64 a, .int .i64 b] w fun e w' => e = .returned (.int .i64 (min a b)) ∧ w' = w := by
  by_cases h : a < b
  · rw [Int.min_eq_left (by omega)]; exact l1Min_le a b w h
  · rw [Int.min_eq_right (by omega)]; exact l1Min_ge a b w h

theorem l1Min_c (a b c : Int) (w : World) (h : min a b = c) : Calls Try.prog 129 #[.int .i64 a, .int .i64 b] w fun e w' => e = .returned (.int .i64 c) ∧ w' = w := by rw [← h]; exact l1Min_any a b w

set_option maxRecDepth 100000 in
set_option maxHeartbeats 3200000 in
theorem withAge_any (l : LsaM) (q : Bool) (lo hi : Nat) (A B : Option Addr) (n c m d : Nat) (t : Int) (w : World) (hl : LsaAt q lo hi w A n B m l) (hn : n ≤ 1048576) (hm : m ≤ 1048576) :
    Calls Try.prog 93 #[.agg (lsaCells l A B n c m d), .int .i64 t] w fun e w' => ∃ A' B' c' d', e = .returned (.agg (lsaCells { l with age := t } A' B' n c' m d')) ∧ LsaTwo w.heap.size w'.heap.size w' A' n B' m { l with age := t } ∧ Below w.heap.size w w' := by
  have HB := Lib.hid (Below.refl w.heap.size w)
  have HL := hl.kept
  have Z0 := Lib.hid hl.le
  clear hl
  go_enter Try.func93, Try.ntmps93
  go_wp2_with fail
  refine Calls.name ?_
  intro U1 hU1
  have hb : Below w.heap.size w U1 := by rw [hU1]; exact (((Below.refl _ _).alloc (Nat.le_refl _) _).alloc (by simp <;> omega) _)
  have zz : Hid (w.heap.size + 2 = U1.heap.size) := Lib.hid (by rw [hU1]; simp)
  have HX1 : Kept w.heap.size (w.heap.size + 1) (BoxK w.heap.size 29 #[.int .i64 t, .int .i64 l.options, .int .i64 l.typ, .int .i64 l.id, .int .i64 l.adv, .int .i64 l.seq, .slice A n c, .slice B m d, .int .i64 l.mask, .int .i64 l.cost]) U1 := by rw [hU1]; exact Kept.box ((Box.made_at _ _ _ rfl).over _)
  have HX2 : Kept (w.heap.size + 1) (w.heap.size + 1 + 1) (BoxK (w.heap.size + 1) 29 #[.int .i64 0, .int .i64 0, .int .i64 0, .int .i64 0, .int .i64 0, .int .i64 0, .slice none 0 0, .slice none 0 0, .int .i64 0, .int .i64 0]) U1 := by rw [hU1]; exact Kept.box (Box.made_at _ _ _ (by simp <;> omega))
  replace HL := HL.below hb
  replace HB := Lib.hid (below_step HB.out hb)
  clear hb
  have Z1 := zz; clear zz
  clear hU1
  refine (cloneLinks_any q lo hi A n c l.links _ HL.lsa.in_.links HL.le hn).mono ?_
  rintro e w2 ⟨A', c', rfl, hs, hb⟩
  have Z2 := Lib.hid hb.size
  replace HL := HL.below hb
  replace HX1 := HX1.below hb
  replace HX2 := HX2.below hb
  replace HB := Lib.hid (below_step HB.out hb)
  clear hb
  have HS1 := Rep.Sl.kept hs (Nat.le_refl _)
  clear hs
  have c2_0 := HX1.look 6
  have c2_1 := HX1.look 7
  have f2_0 := HX1.free 6
  have l2_0 := HX1.le
  have l2_1 := HX2.le
  go_wp2_with fail
  clear c2_0 c2_1 f2_0 l2_0 l2_1
  refine Calls.name ?_
  intro U3 hU3
  have ho : Only w.heap.size (w.heap.size + 1) w2 U3 := by rw [hU3]; exact ((Only.refl _ _ _).set (p := ⟨w.heap.size, 6, none⟩) (Nat.le_refl _) (Nat.lt_succ_self _) _)
  replace HX1 : Kept w.heap.size (w.heap.size + 1) (BoxK w.heap.size 29 #[.int .i64 t, .int .i64 l.options, .int .i64 l.typ, .int .i64 l.id, .int .i64 l.adv, .int .i64 l.seq, .slice A' n c', .slice B m d, .int .i64 l.mask, .int .i64 l.cost]) U3 := by rw [hU3]; exact Kept.box (HX1.bx.puts 6 (.slice A' n c') (cs' := #[.int .i64 t, .int .i64 l.options, .int .i64 l.typ, .int .i64 l.id, .int .i64 l.adv, .int .i64 l.seq, .slice A' n c', .slice B m d, .int .i64 l.mask, .int .i64 l.cost]) rfl)
  replace HL := HL.only ho (by have := Z0.out; have := Z1.out; have := Z2.out; omega)
  replace HX2 := HX2.only ho (by have := Z0.out; have := Z1.out; have := Z2.out; omega)
  replace HS1 := HS1.only ho (by have := Z0.out; have := Z1.out; have := Z2.out; omega)
  replace HB := Lib.hid (Below.only HB.out ho (by have := Z0.out; have := Z1.out; have := Z2.out; omega) HB.out.size)
  have Z3 := Lib.hid ho.size; clear ho
  clear hU3
  refine (cloneInts_any q lo hi B m d l.routers _ HL.lsa.in_.routers HL.le hm).mono ?_
  rintro e w4 ⟨B', d', rfl, hs, hb⟩
  have Z4 := Lib.hid hb.size
  replace HL := HL.below hb
  replace HX1 := HX1.below hb
  replace HX2 := HX2.below hb
  replace HS1 := HS1.below hb
  replace HB := Lib.hid (below_step HB.out hb)
  clear hb
  have HS2 := Rep.Sl.kept hs (Nat.le_refl _)
  clear hs
  have c3_0 := HX1.look 0
  have c3_1 := HX1.look 1
  have c3_2 := HX1.look 2
  have c3_3 := HX1.look 3
  have c3_4 := HX1.look 4
  have c3_5 := HX1.look 5
  have c3_6 := HX1.look 6
  have c3_7 := HX1.look 7
  have c3_8 := HX1.look 8
  have c3_9 := HX1.look 9
  have c3_10 := HX2.look 0
  have c3_11 := HX2.look 1
  have c3_12 := HX2.look 2
  have c3_13 := HX2.look 3
  have c3_14 := HX2.look 4
  have c3_15 := HX2.look 5
  have c3_16 := HX2.look 6
  have c3_17 := HX2.look 7
  have c3_18 := HX2.look 8
  have c3_19 := HX2.look 9
  have f3_0 := HX1.free 7
  have f3_1 := HX2.free 0
  have f3_2 := HX2.free 1
  have f3_3 := HX2.free 2
  have f3_4 := HX2.free 3
  have f3_5 := HX2.free 4
  have f3_6 := HX2.free 5
  have f3_7 := HX2.free 6
  have f3_8 := HX2.free 7
  have f3_9 := HX2.free 8
  have f3_10 := HX2.free 9
  have l3_0 := HX1.le
  have l3_1 := HX2.le
  have n3_0_1 : ¬ w.heap.size = (w.heap.size + 1) := (by have := Z0.out; have := Z1.out; have := Z2.out; have := Z3.out; have := Z4.out; omega)
  have m3_0_1 : ¬ (w.heap.size + 1) = w.heap.size := (by have := Z0.out; have := Z1.out; have := Z2.out; have := Z3.out; have := Z4.out; omega)
  go_wp2
  clear c3_0 c3_1 c3_2 c3_3 c3_4 c3_5 c3_6 c3_7 c3_8 c3_9 c3_10 c3_11 c3_12 c3_13 c3_14 c3_15 c3_16 c3_17 c3_18 c3_19 f3_0 f3_1 f3_2 f3_3 f3_4 f3_5 f3_6 f3_7 f3_8 f3_9 f3_10 l3_0 l3_1 n3_0_1 m3_0_1
  obtain ⟨U5, hU5⟩ : ∃ W : World, W = (w4.setCell ⟨w.heap.size, 7, none⟩ (.slice B' m d')) := ⟨_, rfl⟩
  have ho : Only w.heap.size (w.heap.size + 1) w4 U5 := by rw [hU5]; exact ((Only.refl _ _ _).set (p := ⟨w.heap.size, 7, none⟩) (Nat.le_refl _) (Nat.lt_succ_self _) _)
  replace HX1 : Kept w.heap.size (w.heap.size + 1) (BoxK w.heap.size 29 #[.int .i64 t, .int .i64 l.options, .int .i64 l.typ, .int .i64 l.id, .int .i64 l.adv, .int .i64 l.seq, .slice A' n c', .slice B' m d', .int .i64 l.mask, .int .i64 l.cost]) U5 := by rw [hU5]; exact Kept.box (HX1.bx.puts 7 (.slice B' m d') (cs' := #[.int .i64 t, .int .i64 l.options, .int .i64 l.typ, .int .i64 l.id, .int .i64 l.adv, .int .i64 l.seq, .slice A' n c', .slice B' m d', .int .i64 l.mask, .int .i64 l.cost]) rfl)
  replace HL := HL.only ho (by have := Z0.out; have := Z1.out; have := Z2.out; have := Z3.out; have := Z4.out; omega)
  replace HX2 := HX2.only ho (by have := Z0.out; have := Z1.out; have := Z2.out; have := Z3.out; have := Z4.out; omega)
  replace HS1 := HS1.only ho (by have := Z0.out; have := Z1.out; have := Z2.out; have := Z3.out; have := Z4.out; omega)
  replace HS2 := HS2.only ho (by have := Z0.out; have := Z1.out; have := Z2.out; have := Z3.out; have := Z4.out; omega)
  replace HB := Lib.hid (Below.only HB.out ho (by have := Z0.out; have := Z1.out; have := Z2.out; have := Z3.out; have := Z4.out; omega) HB.out.size)
  have Z5 := Lib.hid ho.size; clear ho
  obtain ⟨U6, hU6⟩ : ∃ W : World, W = ((((((((((U5.setCell ⟨w.heap.size + 1, 0, none⟩ (.int .i64 t)).setCell ⟨w.heap.size + 1, 1, none⟩ (.int .i64 l.options)).setCell ⟨w.heap.size + 1, 2, none⟩ (.int .i64 l.typ)).setCell ⟨w.heap.size + 1, 3, none⟩ (.int .i64 l.id)).setCell ⟨w.heap.size + 1, 4, none⟩ (.int .i64 l.adv)).setCell ⟨w.heap.size + 1, 5, none⟩ (.int .i64 l.seq)).setCell ⟨w.heap.size + 1, 6, none⟩ (.slice A' n c')).setCell ⟨w.heap.size + 1, 7, none⟩ (.slice B' m d')).setCell ⟨w.heap.size + 1, 8, none⟩ (.int .i64 l.mask)).setCell ⟨w.heap.size + 1, 9, none⟩ (.int .i64 l.cost)) := ⟨_, rfl⟩
  have ho : Only (w.heap.size + 1) (w.heap.size + 1 + 1) U5 U6 := by rw [hU6]; exact (((((((((((Only.refl _ _ _).set (p := ⟨w.heap.size + 1, 0, none⟩) (Nat.le_refl _) (Nat.lt_succ_self _) _).set (p := ⟨w.heap.size + 1, 1, none⟩) (Nat.le_refl _) (Nat.lt_succ_self _) _).set (p := ⟨w.heap.size + 1, 2, none⟩) (Nat.le_refl _) (Nat.lt_succ_self _) _).set (p := ⟨w.heap.size + 1, 3, none⟩) (Nat.le_refl _) (Nat.lt_succ_self _) _).set (p := ⟨w.heap.size + 1, 4, none⟩) (Nat.le_refl _) (Nat.lt_succ_self _) _).set (p := ⟨w.heap.size + 1, 5, none⟩) (Nat.le_refl _) (Nat.lt_succ_self _) _).set (p := ⟨w.heap.size + 1, 6, none⟩) (Nat.le_refl _) (Nat.lt_succ_self _) _).set (p := ⟨w.heap.size + 1, 7, none⟩) (Nat.le_refl _) (Nat.lt_succ_self _) _).set (p := ⟨w.heap.size + 1, 8, none⟩) (Nat.le_refl _) (Nat.lt_succ_self _) _).set (p := ⟨w.heap.size + 1, 9, none⟩) (Nat.le_refl _) (Nat.lt_succ_self _) _)
  replace HX2 : Kept (w.heap.size + 1) (w.heap.size + 1 + 1) (BoxK (w.heap.size + 1) 29 #[.int .i64 t, .int .i64 l.options, .int .i64 l.typ, .int .i64 l.id, .int .i64 l.adv, .int .i64 l.seq, .slice A' n c', .slice B' m d', .int .i64 l.mask, .int .i64 l.cost]) U6 := by rw [hU6]; exact Kept.box ((((((((((HX2.bx.puts 0 (.int .i64 t) (cs' := #[.int .i64 t, .int .i64 0, .int .i64 0, .int .i64 0, .int .i64 0, .int .i64 0, .slice none 0 0, .slice none 0 0, .int .i64 0, .int .i64 0]) rfl).puts 1 (.int .i64 l.options) (cs' := #[.int .i64 t, .int .i64 l.options, .int .i64 0, .int .i64 0, .int .i64 0, .int .i64 0, .slice none 0 0, .slice none 0 0, .int .i64 0, .int .i64 0]) rfl).puts 2 (.int .i64 l.typ) (cs' := #[.int .i64 t, .int .i64 l.options, .int .i64 l.typ, .int .i64 0, .int .i64 0, .int .i64 0, .slice none 0 0, .slice none 0 0, .int .i64 0, .int .i64 0]) rfl).puts 3 (.int .i64 l.id) (cs' := #[.int .i64 t, .int .i64 l.options, .int .i64 l.typ, .int .i64 l.id, .int .i64 0, .int .i64 0, .slice none 0 0, .slice none 0 0, .int .i64 0, .int .i64 0]) rfl).puts 4 (.int .i64 l.adv) (cs' := #[.int .i64 t, .int .i64 l.options, .int .i64 l.typ, .int .i64 l.id, .int .i64 l.adv, .int .i64 0, .slice none 0 0, .slice none 0 0, .int .i64 0, .int .i64 0]) rfl).puts 5 (.int .i64 l.seq) (cs' := #[.int .i64 t, .int .i64 l.options, .int .i64 l.typ, .int .i64 l.id, .int .i64 l.adv, .int .i64 l.seq, .slice none 0 0, .slice none 0 0, .int .i64 0, .int .i64 0]) rfl).puts 6 (.slice A' n c') (cs' := #[.int .i64 t, .int .i64 l.options, .int .i64 l.typ, .int .i64 l.id, .int .i64 l.adv, .int .i64 l.seq, .slice A' n c', .slice none 0 0, .int .i64 0, .int .i64 0]) rfl).puts 7 (.slice B' m d') (cs' := #[.int .i64 t, .int .i64 l.options, .int .i64 l.typ, .int .i64 l.id, .int .i64 l.adv, .int .i64 l.seq, .slice A' n c', .slice B' m d', .int .i64 0, .int .i64 0]) rfl).puts 8 (.int .i64 l.mask) (cs' := #[.int .i64 t, .int .i64 l.options, .int .i64 l.typ, .int .i64 l.id, .int .i64 l.adv, .int .i64 l.seq, .slice A' n c', .slice B' m d', .int .i64 l.mask, .int .i64 0]) rfl).puts 9 (.int .i64 l.cost) (cs' := #[.int .i64 t, .int .i64 l.options, .int .i64 l.typ, .int .i64 l.id, .int .i64 l.adv, .int .i64 l.seq, .slice A' n c', .slice B' m d', .int .i64 l.mask, .int .i64 l.cost]) rfl)
  replace HL := HL.only ho (by have := Z0.out; have := Z1.out; have := Z2.out; have := Z3.out; have := Z4.out; have := Z5.out; omega)
  replace HX1 := HX1.only ho (by have := Z0.out; have := Z1.out; have := Z2.out; have := Z3.out; have := Z4.out; have := Z5.out; omega)
  replace HS1 := HS1.only ho (by have := Z0.out; have := Z1.out; have := Z2.out; have := Z3.out; have := Z4.out; have := Z5.out; omega)
  replace HS2 := HS2.only ho (by have := Z0.out; have := Z1.out; have := Z2.out; have := Z3.out; have := Z4.out; have := Z5.out; omega)
  replace HB := Lib.hid (Below.only HB.out ho (by have := Z0.out; have := Z1.out; have := Z2.out; have := Z3.out; have := Z4.out; have := Z5.out; omega) HB.out.size)
  have Z6 := Lib.hid ho.size; clear ho
  have q_0 := HX2.look 0
  have q_1 := HX2.look 1
  have q_2 := HX2.look 2
  have q_3 := HX2.look 3
  have q_4 := HX2.look 4
  have q_5 := HX2.look 5
  have q_6 := HX2.look 6
  have q_7 := HX2.look 7
  have q_8 := HX2.look 8
  have q_9 := HX2.look 9
  have fin : ∀ e, e = Ending.returned (.agg (lsaCells { l with age := t } A' B' n c' m d')) → (∃ A' B' c' d', e = .returned (.agg (lsaCells { l with age := t } A' B' n c' m d')) ∧ LsaTwo w.heap.size U6.heap.size U6 A' n B' m { l with age := t } ∧ Below w.heap.size w U6) := by rintro _ rfl; exact ⟨A', B', c', d', rfl, ⟨⟨U1.heap.size, w2.heap.size, U3.heap.size, w4.heap.size, (by have := Z0.out; have := Z1.out; have := Z2.out; have := Z3.out; have := Z4.out; have := Z5.out; have := Z6.out; omega), (by have := Z0.out; have := Z1.out; have := Z2.out; have := Z3.out; have := Z4.out; have := Z5.out; have := Z6.out; omega), (by have := Z0.out; have := Z1.out; have := Z2.out; have := Z3.out; have := Z4.out; have := Z5.out; have := Z6.out; omega), (by have := Z0.out; have := Z1.out; have := Z2.out; have := Z3.out; have := Z4.out; have := Z5.out; have := Z6.out; omega), (by have := Z0.out; have := Z1.out; have := Z2.out; have := Z3.out; have := Z4.out; have := Z5.out; have := Z6.out; omega), HS1.sl, HS2.sl⟩, Nat.le_refl _⟩, HB.out⟩
  subst hU6 hU5
  exact bodyPost_ret (v := .agg (lsaCells { l with age := t } A' B' n c' m d')) (by simp [results, Try.results93, go_sem, q_0, q_1, q_2, q_3, q_4, q_5, q_6, q_7, q_8, q_9]) rfl (fin _ rfl)

set_option maxRecDepth 100000 in
set_option maxHeartbeats 3200000 in
theorem l2Copy_any (l : LsaM) (q : Bool) (lo hi : Nat) (A B : Option Addr) (n c m d : Nat) (w : World) (hl : LsaAt q lo hi w A n B m l) (hn : n ≤ 1048576) (hm : m ≤ 1048576) :
    Calls Try.prog 73 #[.agg (lsaCells l A B n c m d)] w fun e w' => ∃ A' B' c' d', e = .returned (.agg (lsaCells l A' B' n c' m d')) ∧ LsaTwo w.heap.size w'.heap.size w' A' n B' m l ∧ Below w.heap.size w w' := by
  have HB := Lib.hid (Below.refl w.heap.size w)
  have HL := hl.kept
  have Z0 := Lib.hid hl.le
  clear hl
  go_enter Try.func73, Try.ntmps73
  go_wp2_with (first | (at_builtin; refine wpList_name ?_; intro U1 hU1; have hb : Below w.heap.size w U1 := (by rw [hU1]; exact ((((Below.refl _ _).alloc (Nat.le_refl _) _).alloc (by simp <;> omega) _).alloc (by simp <;> omega) _)); have zz : Hid (w.heap.size + 3 = U1.heap.size) := Lib.hid (by rw [hU1]; simp); have HX1 : Kept w.heap.size (w.heap.size + 1) (BoxK w.heap.size 29 #[.int .i64 l.age, .int .i64 l.options, .int .i64 l.typ, .int .i64 l.id, .int .i64 l.adv, .int .i64 l.seq, .slice A n c, .slice B m d, .int .i64 l.mask, .int .i64 l.cost]) U1 := (by rw [hU1]; exact Kept.box (((Box.made_at _ _ _ rfl).over _).over _)); have HX2 : Kept (w.heap.size + 1) (w.heap.size + 1 + 1) (BoxK (w.heap.size + 1) 29 #[.int .i64 0, .int .i64 0, .int .i64 0, .int .i64 0, .int .i64 0, .int .i64 0, .slice none 0 0, .slice none 0 0, .int .i64 0, .int .i64 0]) U1 := (by rw [hU1]; exact Kept.box ((Box.made_at _ _ _ (by simp <;> omega)).over _)); have HX3 : Kept (w.heap.size + 1 + 1) (w.heap.size + 1 + 1 + 1) (BoxK (w.heap.size + 1 + 1) 101 #[]) U1 := (by rw [hU1]; exact Kept.box (Box.made_at _ _ _ (by simp <;> omega))); replace HL := HL.below hb; replace HB := Lib.hid (below_step HB.out hb); clear hb; have Z1 := zz; clear zz; clear hU1; refine wpList_appF0 lcell_len lcell_one Try.underlying26 linkInfo rfl (by decide) (by decide) rfl (.tmp 3) (.tmp 5) rfl (B := w.heap.size + 1 + 1) rfl (OwnF.of_box0 HX3.bx) rfl (Rep.link_inF HL.lsa.in_.links) (by omega) (by have := Z0.out; have := Z1.out; omega) ?_; intro A' c' w2 ho hg; have hq : Only (w.heap.size + 1 + 1) (w.heap.size + 1 + 1 + 1) U1 w2 := Only.of_grown hg (fun r hr => by simp only [Option.map_some, Option.some.injEq] at hr; omega); have Z2 := Lib.hid hq.size; clear HX3; replace HL := HL.only hq (by have := Z0.out; have := Z1.out; have := Z2.out; omega); replace HX1 := HX1.only hq (by have := Z0.out; have := Z1.out; have := Z2.out; omega); replace HX2 := HX2.only hq (by have := Z0.out; have := Z1.out; have := Z2.out; omega); replace HB := Lib.hid (Below.only HB.out hq (by have := Z0.out; have := Z1.out; have := Z2.out; omega) HB.out.size); clear hq hg; simp only [Nat.zero_add, List.nil_append] at ho; have HO1 := ho.kept rfl; clear ho; have HS1 := HO1.links; clear HO1; have c2_0 := HX1.look 6; have c2_1 := HX1.look 7; have f2_0 := HX1.free 6; have l2_0 := HX1.le; have l2_1 := HX2.le))
  clear c2_0 c2_1 f2_0 l2_0 l2_1
  refine Calls.name ?_
  intro U3 hU3
  have ho : Only w.heap.size (w.heap.size + 1) w2 U3 := by rw [hU3]; exact ((Only.refl _ _ _).set (p := ⟨w.heap.size, 6, none⟩) (Nat.le_refl _) (Nat.lt_succ_self _) _)
  replace HX1 : Kept w.heap.size (w.heap.size + 1) (BoxK w.heap.size 29 #[.int .i64 l.age, .int .i64 l.options, .int .i64 l.typ, .int .i64 l.id, .int .i64 l.adv, .int .i64 l.seq, .slice A' n c', .slice B m d, .int .i64 l.mask, .int .i64 l.cost]) U3 := by rw [hU3]; exact Kept.box (HX1.bx.puts 6 (.slice A' n c') (cs' := #[.int .i64 l.age, .int .i64 l.options, .int .i64 l.typ, .int .i64 l.id, .int .i64 l.adv, .int .i64 l.seq, .slice A' n c', .slice B m d, .int .i64 l.mask, .int .i64 l.cost]) rfl)
  replace HL := HL.only ho (by have := Z0.out; have := Z1.out; have := Z2.out; omega)
  replace HX2 := HX2.only ho (by have := Z0.out; have := Z1.out; have := Z2.out; omega)
  replace HS1 := HS1.only ho (by have := Z0.out; have := Z1.out; have := Z2.out; omega)
  replace HB := Lib.hid (Below.only HB.out ho (by have := Z0.out; have := Z1.out; have := Z2.out; omega) HB.out.size)
  have Z3 := Lib.hid ho.size; clear ho
  clear hU3
  refine (l1Ints_any q lo hi B m d l.routers _ HL.lsa.in_.routers HL.le hm).mono ?_
  rintro e w4 ⟨B', d', rfl, hs, hb⟩
  have Z4 := Lib.hid hb.size
  replace HL := HL.below hb
  replace HX1 := HX1.below hb
  replace HX2 := HX2.below hb
  replace HS1 := HS1.below hb
  replace HB := Lib.hid (below_step HB.out hb)
  clear hb
  have HS2 := Rep.Sl.kept hs (Nat.le_refl _)
  clear hs
  have c3_0 := HX1.look 0
  have c3_1 := HX1.look 1
  have c3_2 := HX1.look 2
  have c3_3 := HX1.look 3
  have c3_4 := HX1.look 4
  have c3_5 := HX1.look 5
  have c3_6 := HX1.look 6
  have c3_7 := HX1.look 7
  have c3_8 := HX1.look 8
  have c3_9 := HX1.look 9
  have c3_10 := HX2.look 0
  have c3_11 := HX2.look 1
  have c3_12 := HX2.look 2
  have c3_13 := HX2.look 3
  have c3_14 := HX2.look 4
  have c3_15 := HX2.look 5
  have c3_16 := HX2.look 6
  have c3_17 := HX2.look 7
  have c3_18 := HX2.look 8
  have c3_19 := HX2.look 9
  have f3_0 := HX1.free 7
  have f3_1 := HX2.free 0
  have f3_2 := HX2.free 1
  have f3_3 := HX2.free 2
  have f3_4 := HX2.free 3
  have f3_5 := HX2.free 4
  have f3_6 := HX2.free 5
  have f3_7 := HX2.free 6
  have f3_8 := HX2.free 7
  have f3_9 := HX2.free 8
  have f3_10 := HX2.free 9
  have l3_0 := HX1.le
  have l3_1 := HX2.le
  have n3_0_1 : ¬ w.heap.size = (w.heap.size + 1) := (by have := Z0.out; have := Z1.out; have := Z2.out; have := Z3.out; have := Z4.out; omega)
  have m3_0_1 : ¬ (w.heap.size + 1) = w.heap.size := (by have := Z0.out; have := Z1.out; have := Z2.out; have := Z3.out; have := Z4.out; omega)
  go_wp2
  clear c3_0 c3_1 c3_2 c3_3 c3_4 c3_5 c3_6 c3_7 c3_8 c3_9 c3_10 c3_11 c3_12 c3_13 c3_14 c3_15 c3_16 c3_17 c3_18 c3_19 f3_0 f3_1 f3_2 f3_3 f3_4 f3_5 f3_6 f3_7 f3_8 f3_9 f3_10 l3_0 l3_1 n3_0_1 m3_0_1
  obtain ⟨U5, hU5⟩ : ∃ W : World, W = (w4.setCell ⟨w.heap.size, 7, none⟩ (.slice B' m d')) := ⟨_, rfl⟩
  have ho : Only w.heap.size (w.heap.size + 1) w4 U5 := by rw [hU5]; exact ((Only.refl _ _ _).set (p := ⟨w.heap.size, 7, none⟩) (Nat.le_refl _) (Nat.lt_succ_self _) _)
  replace HX1 : Kept w.heap.size (w.heap.size + 1) (BoxK w.heap.size 29 #[.int .i64 l.age, .int .i64 l.options, .int .i64 l.typ, .int .i64 l.id, .int .i64 l.adv, .int .i64 l.seq, .slice A' n c', .slice B' m d', .int .i64 l.mask, .int .i64 l.cost]) U5 := by rw [hU5]; exact Kept.box (HX1.bx.puts 7 (.slice B' m d') (cs' := #[.int .i64 l.age, .int .i64 l.options, .int .i64 l.typ, .int .i64 l.id, .int .i64 l.adv, .int .i64 l.seq, .slice A' n c', .slice B' m d', .int .i64 l.mask, .int .i64 l.cost]) rfl)
  replace HL := HL.only ho (by have := Z0.out; have := Z1.out; have := Z2.out; have := Z3.out; have := Z4.out; omega)
  replace HX2 := HX2.only ho (by have := Z0.out; have := Z1.out; have := Z2.out; have := Z3.out; have := Z4.out; omega)
  replace HS1 := HS1.only ho (by have := Z0.out; have := Z1.out; have := Z2.out; have := Z3.out; have := Z4.out; omega)
  replace HS2 := HS2.only ho (by have := Z0.out; have := Z1.out; have := Z2.out; have := Z3.out; have := Z4.out; omega)
  replace HB := Lib.hid (Below.only HB.out ho (by have := Z0.out; have := Z1.out; have := Z2.out; have := Z3.out; have := Z4.out; omega) HB.out.size)
  have Z5 := Lib.hid ho.size; clear ho
  obtain ⟨U6, hU6⟩ : ∃ W : World, W = ((((((((((U5.setCell ⟨w.heap.size + 1, 0, none⟩ (.int .i64 l.age)).setCell ⟨w.heap.size + 1, 1, none⟩ (.int .i64 l.options)).setCell ⟨w.heap.size + 1, 2, none⟩ (.int .i64 l.typ)).setCell ⟨w.heap.size + 1, 3, none⟩ (.int .i64 l.id)).setCell ⟨w.heap.size + 1, 4, none⟩ (.int .i64 l.adv)).setCell ⟨w.heap.size + 1, 5, none⟩ (.int .i64 l.seq)).setCell ⟨w.heap.size + 1, 6, none⟩ (.slice A' n c')).setCell ⟨w.heap.size + 1, 7, none⟩ (.slice B' m d')).setCell ⟨w.heap.size + 1, 8, none⟩ (.int .i64 l.mask)).setCell ⟨w.heap.size + 1, 9, none⟩ (.int .i64 l.cost)) := ⟨_, rfl⟩
  have ho : Only (w.heap.size + 1) (w.heap.size + 1 + 1) U5 U6 := by rw [hU6]; exact (((((((((((Only.refl _ _ _).set (p := ⟨w.heap.size + 1, 0, none⟩) (Nat.le_refl _) (Nat.lt_succ_self _) _).set (p := ⟨w.heap.size + 1, 1, none⟩) (Nat.le_refl _) (Nat.lt_succ_self _) _).set (p := ⟨w.heap.size + 1, 2, none⟩) (Nat.le_refl _) (Nat.lt_succ_self _) _).set (p := ⟨w.heap.size + 1, 3, none⟩) (Nat.le_refl _) (Nat.lt_succ_self _) _).set (p := ⟨w.heap.size + 1, 4, none⟩) (Nat.le_refl _) (Nat.lt_succ_self _) _).set (p := ⟨w.heap.size + 1, 5, none⟩) (Nat.le_refl _) (Nat.lt_succ_self _) _).set (p := ⟨w.heap.size + 1, 6, none⟩) (Nat.le_refl _) (Nat.lt_succ_self _) _).set (p := ⟨w.heap.size + 1, 7, none⟩) (Nat.le_refl _) (Nat.lt_succ_self _) _).set (p := ⟨w.heap.size + 1, 8, none⟩) (Nat.le_refl _) (Nat.lt_succ_self _) _).set (p := ⟨w.heap.size + 1, 9, none⟩) (Nat.le_refl _) (Nat.lt_succ_self _) _)
  replace HX2 : Kept (w.heap.size + 1) (w.heap.size + 1 + 1) (BoxK (w.heap.size + 1) 29 #[.int .i64 l.age, .int .i64 l.options, .int .i64 l.typ, .int .i64 l.id, .int .i64 l.adv, .int .i64 l.seq, .slice A' n c', .slice B' m d', .int .i64 l.mask, .int .i64 l.cost]) U6 := by rw [hU6]; exact Kept.box ((((((((((HX2.bx.puts 0 (.int .i64 l.age) (cs' := #[.int .i64 l.age, .int .i64 0, .int .i64 0, .int .i64 0, .int .i64 0, .int .i64 0, .slice none 0 0, .slice none 0 0, .int .i64 0, .int .i64 0]) rfl).puts 1 (.int .i64 l.options) (cs' := #[.int .i64 l.age, .int .i64 l.options, .int .i64 0, .int .i64 0, .int .i64 0, .int .i64 0, .slice none 0 0, .slice none 0 0, .int .i64 0, .int .i64 0]) rfl).puts 2 (.int .i64 l.typ) (cs' := #[.int .i64 l.age, .int .i64 l.options, .int .i64 l.typ, .int .i64 0, .int .i64 0, .int .i64 0, .slice none 0 0, .slice none 0 0, .int .i64 0, .int .i64 0]) rfl).puts 3 (.int .i64 l.id) (cs' := #[.int .i64 l.age, .int .i64 l.options, .int .i64 l.typ, .int .i64 l.id, .int .i64 0, .int .i64 0, .slice none 0 0, .slice none 0 0, .int .i64 0, .int .i64 0]) rfl).puts 4 (.int .i64 l.adv) (cs' := #[.int .i64 l.age, .int .i64 l.options, .int .i64 l.typ, .int .i64 l.id, .int .i64 l.adv, .int .i64 0, .slice none 0 0, .slice none 0 0, .int .i64 0, .int .i64 0]) rfl).puts 5 (.int .i64 l.seq) (cs' := #[.int .i64 l.age, .int .i64 l.options, .int .i64 l.typ, .int .i64 l.id, .int .i64 l.adv, .int .i64 l.seq, .slice none 0 0, .slice none 0 0, .int .i64 0, .int .i64 0]) rfl).puts 6 (.slice A' n c') (cs' := #[.int .i64 l.age, .int .i64 l.options, .int .i64 l.typ, .int .i64 l.id, .int .i64 l.adv, .int .i64 l.seq, .slice A' n c', .slice none 0 0, .int .i64 0, .int .i64 0]) rfl).puts 7 (.slice B' m d') (cs' := #[.int .i64 l.age, .int .i64 l.options, .int .i64 l.typ, .int .i64 l.id, .int .i64 l.adv, .int .i64 l.seq, .slice A' n c', .slice B' m d', .int .i64 0, .int .i64 0]) rfl).puts 8 (.int .i64 l.mask) (cs' := #[.int .i64 l.age, .int .i64 l.options, .int .i64 l.typ, .int .i64 l.id, .int .i64 l.adv, .int .i64 l.seq, .slice A' n c', .slice B' m d', .int .i64 l.mask, .int .i64 0]) rfl).puts 9 (.int .i64 l.cost) (cs' := #[.int .i64 l.age, .int .i64 l.options, .int .i64 l.typ, .int .i64 l.id, .int .i64 l.adv, .int .i64 l.seq, .slice A' n c', .slice B' m d', .int .i64 l.mask, .int .i64 l.cost]) rfl)
  replace HL := HL.only ho (by have := Z0.out; have := Z1.out; have := Z2.out; have := Z3.out; have := Z4.out; have := Z5.out; omega)
  replace HX1 := HX1.only ho (by have := Z0.out; have := Z1.out; have := Z2.out; have := Z3.out; have := Z4.out; have := Z5.out; omega)
  replace HS1 := HS1.only ho (by have := Z0.out; have := Z1.out; have := Z2.out; have := Z3.out; have := Z4.out; have := Z5.out; omega)
  replace HS2 := HS2.only ho (by have := Z0.out; have := Z1.out; have := Z2.out; have := Z3.out; have := Z4.out; have := Z5.out; omega)
  replace HB := Lib.hid (Below.only HB.out ho (by have := Z0.out; have := Z1.out; have := Z2.out; have := Z3.out; have := Z4.out; have := Z5.out; omega) HB.out.size)
  have Z6 := Lib.hid ho.size; clear ho
  have q_0 := HX2.look 0
  have q_1 := HX2.look 1
  have q_2 := HX2.look 2
  have q_3 := HX2.look 3
  have q_4 := HX2.look 4
  have q_5 := HX2.look 5
  have q_6 := HX2.look 6
  have q_7 := HX2.look 7
  have q_8 := HX2.look 8
  have q_9 := HX2.look 9
  have fin : ∀ e, e = Ending.returned (.agg (lsaCells l A' B' n c' m d')) → (∃ A' B' c' d', e = .returned (.agg (lsaCells l A' B' n c' m d')) ∧ LsaTwo w.heap.size U6.heap.size U6 A' n B' m l ∧ Below w.heap.size w U6) := by rintro _ rfl; exact ⟨A', B', c', d', rfl, ⟨⟨w.heap.size + 1 + 1, w2.heap.size, U3.heap.size, w4.heap.size, (by have := Z0.out; have := Z1.out; have := Z2.out; have := Z3.out; have := Z4.out; have := Z5.out; have := Z6.out; omega), (by have := Z0.out; have := Z1.out; have := Z2.out; have := Z3.out; have := Z4.out; have := Z5.out; have := Z6.out; omega), (by have := Z0.out; have := Z1.out; have := Z2.out; have := Z3.out; have := Z4.out; have := Z5.out; have := Z6.out; omega), (by have := Z0.out; have := Z1.out; have := Z2.out; have := Z3.out; have := Z4.out; have := Z5.out; have := Z6.out; omega), (by have := Z0.out; have := Z1.out; have := Z2.out; have := Z3.out; have := Z4.out; have := Z5.out; have := Z6.out; omega), HS1.sl, HS2.sl⟩, Nat.le_refl _⟩, HB.out⟩
  subst hU6 hU5
  exact bodyPost_ret (v := .agg (lsaCells l A' B' n c' m d')) (by simp [results, Try.results73, go_sem, q_0, q_1, q_2, q_3, q_4, q_5, q_6, q_7, q_8, q_9]) rfl (fin _ rfl)

set_option maxRecDepth 100000 in
set_option maxHeartbeats 3200000 in
theorem l3Age_any (l : LsaM) (q : Bool) (lo hi : Nat) (A B : Option Addr) (n c m d : Nat) (t : Int) (w : World) (hl : LsaAt q lo hi w A n B m l) (hn : n ≤ 1048576) (hm : m ≤ 1048576) (h0 : 0 ≤ l.age) (h1 : l.age ≤ 3600) (h2 : 0 ≤ t) :
    Calls Try.prog 94 #[.agg (lsaCells l A B n c m d), .int .i64 t] w fun e w' => ∃ A' B' c' d', e = .returned (.agg (lsaCells { l with age := min (l.age + min t 3600) 3600 } A' B' n c' m d')) ∧ LsaTwo w.heap.size w'.heap.size w' A' n B' m { l with age := min (l.age + min t 3600) 3600 } ∧ Below w.heap.size w w' := by
  have HB := Lib.hid (Below.refl w.heap.size w)
  have HL := hl.kept
  have Z0 := Lib.hid hl.le
  clear hl
  obtain ⟨z, hz⟩ : ∃ z, min t 3600 = z := ⟨_, rfl⟩
  have hz1 : 0 ≤ z ∧ z ≤ 3600 := by omega
  obtain ⟨hz1, hz2⟩ := hz1
  rw [hz]
  have HZ := Lib.hid hz; clear hz
  go_enter Try.func94, Try.ntmps94
  go_wp2_with fail
  refine Calls.name ?_
  intro U1 hU1
  have hb : Below w.heap.size w U1 := by rw [hU1]; exact (((Below.refl _ _).alloc (Nat.le_refl _) _).alloc (by simp <;> omega) _)
  have zz : Hid (w.heap.size + 2 = U1.heap.size) := Lib.hid (by rw [hU1]; simp)
  have HX1 : Kept w.heap.size (w.heap.size + 1) (BoxK w.heap.size 29 #[.int .i64 l.age, .int .i64 l.options, .int .i64 l.typ, .int .i64 l.id, .int .i64 l.adv, .int .i64 l.seq, .slice A n c, .slice B m d, .int .i64 l.mask, .int .i64 l.cost]) U1 := by rw [hU1]; exact Kept.box ((Box.made_at _ _ _ rfl).over _)
  have HX2 : Kept (w.heap.size + 1) (w.heap.size + 1 + 1) (BoxK (w.heap.size + 1) 29 #[.int .i64 0, .int .i64 0, .int .i64 0, .int .i64 0, .int .i64 0, .int .i64 0, .slice none 0 0, .slice none 0 0, .int .i64 0, .int .i64 0]) U1 := by rw [hU1]; exact Kept.box (Box.made_at _ _ _ (by simp <;> omega))
  replace HL := HL.below hb
  replace HB := Lib.hid (below_step HB.out hb)
  clear hb
  have Z1 := zz; clear zz
  clear hU1
  refine (l2Copy_any l q lo hi A B n c m d _ HL.lsa hn hm).mono ?_
  rintro e w2 ⟨A', B', c', d', rfl, ht, hb⟩
  have Z2 := Lib.hid hb.size
  replace HL := HL.below hb
  replace HX1 := HX1.below hb
  replace HX2 := HX2.below hb
  replace HB := Lib.hid (below_step HB.out hb)
  clear hb
  have HT := ht.kept; clear ht
  have HW1 : IntKind.i64.wrap (l.age + z) = l.age + z := IntWalk.i64_in _ (by omega)
  have l2_0 := HX1.le
  have l2_1 := HX2.le
  go_wp2_with fail
  clear l2_0 l2_1
  refine Code.wp_name ?_
  intro U3 hU3
  have hb : Below w2.heap.size w2 U3 := by rw [hU3]; exact ((Below.refl _ _).alloc (Nat.le_refl _) _)
  have zz : Hid (w2.heap.size + 1 = U3.heap.size) := Lib.hid (by rw [hU3]; simp)
  have HX3 : Kept w2.heap.size (w2.heap.size + 1) (BoxK w2.heap.size 29 #[.int .i64 l.age, .int .i64 l.options, .int .i64 l.typ, .int .i64 l.id, .int .i64 l.adv, .int .i64 l.seq, .slice A' n c', .slice B' m d', .int .i64 l.mask, .int .i64 l.cost]) U3 := by rw [hU3]; exact Kept.box (Box.made_at _ _ _ rfl)
  replace HL := HL.below hb
  replace HX1 := HX1.below hb
  replace HX2 := HX2.below hb
  replace HT := HT.below hb
  replace HB := Lib.hid (below_step HB.out hb)
  clear hb
  have Z3 := zz; clear zz
  clear hU3
  have SB : Hid (∀ W, Hid (Only w2.heap.size (w2.heap.size + 1) U3 W) → (fun W => W.cell? ⟨w.heap.size, 0, none⟩ = some (.int .i64 l.age) ∧ W.cell? ⟨w.heap.size, 1, none⟩ = some (.int .i64 l.options) ∧ W.cell? ⟨w.heap.size, 2, none⟩ = some (.int .i64 l.typ) ∧ W.cell? ⟨w.heap.size, 3, none⟩ = some (.int .i64 l.id) ∧ W.cell? ⟨w.heap.size, 4, none⟩ = some (.int .i64 l.adv) ∧ W.cell? ⟨w.heap.size, 5, none⟩ = some (.int .i64 l.seq) ∧ W.cell? ⟨w.heap.size, 6, none⟩ = some (.slice A n c) ∧ W.cell? ⟨w.heap.size, 7, none⟩ = some (.slice B m d) ∧ W.cell? ⟨w.heap.size, 8, none⟩ = some (.int .i64 l.mask) ∧ W.cell? ⟨w.heap.size, 9, none⟩ = some (.int .i64 l.cost)) W) := fun W h => ⟨(HX1.only h.out (by have := Z0.out; have := Z1.out; have := Z2.out; have := Z3.out; omega)).look 0, (HX1.only h.out (by have := Z0.out; have := Z1.out; have := Z2.out; have := Z3.out; omega)).look 1, (HX1.only h.out (by have := Z0.out; have := Z1.out; have := Z2.out; have := Z3.out; omega)).look 2, (HX1.only h.out (by have := Z0.out; have := Z1.out; have := Z2.out; have := Z3.out; omega)).look 3, (HX1.only h.out (by have := Z0.out; have := Z1.out; have := Z2.out; have := Z3.out; omega)).look 4, (HX1.only h.out (by have := Z0.out; have := Z1.out; have := Z2.out; have := Z3.out; omega)).look 5, (HX1.only h.out (by have := Z0.out; have := Z1.out; have := Z2.out; have := Z3.out; omega)).look 6, (HX1.only h.out (by have := Z0.out; have := Z1.out; have := Z2.out; have := Z3.out; omega)).look 7, (HX1.only h.out (by have := Z0.out; have := Z1.out; have := Z2.out; have := Z3.out; omega)).look 8, (HX1.only h.out (by have := Z0.out; have := Z1.out; have := Z2.out; have := Z3.out; omega)).look 9⟩
  have V0 : Hid (Only w2.heap.size (w2.heap.size + 1) U3 U3.drew) := ⟨rfl, rfl, rfl, Nat.le_refl _, fun _ _ _ => rfl⟩
  have V1 : Hid (∀ u, Hid (Only w2.heap.size (w2.heap.size + 1) U3 (U3.setCell ⟨w2.heap.size, 0, none⟩ u).drew)) := fun u => Only.drew ((Only.refl _ _ _).set (p := ⟨w2.heap.size, 0, none⟩) (Nat.le_refl _) (Nat.lt_succ_self _) u)
  have c3_0 := HX3.look 0
  have f3_0 := HX3.free 0
  have l3_0 := HX1.le
  have l3_1 := HX2.le
  have l3_2 := HX3.le
  go_region_held3 (fun W => W.cell? ⟨w.heap.size, 0, none⟩ = some (.int .i64 l.age) ∧ W.cell? ⟨w.heap.size, 1, none⟩ = some (.int .i64 l.options) ∧ W.cell? ⟨w.heap.size, 2, none⟩ = some (.int .i64 l.typ) ∧ W.cell? ⟨w.heap.size, 3, none⟩ = some (.int .i64 l.id) ∧ W.cell? ⟨w.heap.size, 4, none⟩ = some (.int .i64 l.adv) ∧ W.cell? ⟨w.heap.size, 5, none⟩ = some (.int .i64 l.seq) ∧ W.cell? ⟨w.heap.size, 6, none⟩ = some (.slice A n c) ∧ W.cell? ⟨w.heap.size, 7, none⟩ = some (.slice B m d) ∧ W.cell? ⟨w.heap.size, 8, none⟩ = some (.int .i64 l.mask) ∧ W.cell? ⟨w.heap.size, 9, none⟩ = some (.int .i64 l.cost)) (first | (with_reducible exact SB.out _ (V1.out _)) | (with_reducible exact SB.out _ V0))
    (first | (go_at_call 129; ((with_reducible refine (l1Min_c t 3600 z _ HZ.out).mono ?_); rintro e u ⟨rfl, rfl⟩)) | (go_at_call 129; ((with_reducible refine (l1Min_any (l.age + z) 3600 _).mono ?_); rintro e u ⟨rfl, rfl⟩)))
  clear SB V0 V1 c3_0 f3_0 l3_0 l3_1 l3_2
  have c4_0 := HX2.look 0
  have c4_1 := HX2.look 1
  have c4_2 := HX2.look 2
  have c4_3 := HX2.look 3
  have c4_4 := HX2.look 4
  have c4_5 := HX2.look 5
  have c4_6 := HX2.look 6
  have c4_7 := HX2.look 7
  have c4_8 := HX2.look 8
  have c4_9 := HX2.look 9
  have c4_10 := HX3.look 0
  have c4_11 := HX3.look 1
  have c4_12 := HX3.look 2
  have c4_13 := HX3.look 3
  have c4_14 := HX3.look 4
  have c4_15 := HX3.look 5
  have c4_16 := HX3.look 6
  have c4_17 := HX3.look 7
  have c4_18 := HX3.look 8
  have c4_19 := HX3.look 9
  have f4_0 := HX2.free 0
  have f4_1 := HX2.free 1
  have f4_2 := HX2.free 2
  have f4_3 := HX2.free 3
  have f4_4 := HX2.free 4
  have f4_5 := HX2.free 5
  have f4_6 := HX2.free 6
  have f4_7 := HX2.free 7
  have f4_8 := HX2.free 8
  have f4_9 := HX2.free 9
  have l4_0 := HX1.le
  have l4_1 := HX2.le
  have l4_2 := HX3.le
  have n4_0_1 : ¬ (w.heap.size + 1) = w2.heap.size := (by have := Z0.out; have := Z1.out; have := Z2.out; have := Z3.out; omega)
  have m4_0_1 : ¬ w2.heap.size = (w.heap.size + 1) := (by have := Z0.out; have := Z1.out; have := Z2.out; have := Z3.out; omega)
  go_wp2
  clear c4_0 c4_1 c4_2 c4_3 c4_4 c4_5 c4_6 c4_7 c4_8 c4_9 c4_10 c4_11 c4_12 c4_13 c4_14 c4_15 c4_16 c4_17 c4_18 c4_19 f4_0 f4_1 f4_2 f4_3 f4_4 f4_5 f4_6 f4_7 f4_8 f4_9 l4_0 l4_1 l4_2 n4_0_1 m4_0_1
  obtain ⟨U4, hU4⟩ : ∃ W : World, W = (U3.setCell ⟨w2.heap.size, 0, none⟩ (.int .i64 (min (l.age + z) 3600))) := ⟨_, rfl⟩
  have ho : Only w2.heap.size (w2.heap.size + 1) U3 U4 := by rw [hU4]; exact ((Only.refl _ _ _).set (p := ⟨w2.heap.size, 0, none⟩) (Nat.le_refl _) (Nat.lt_succ_self _) _)
  replace HX3 : Kept w2.heap.size (w2.heap.size + 1) (BoxK w2.heap.size 29 #[.int .i64 (min (l.age + z) 3600), .int .i64 l.options, .int .i64 l.typ, .int .i64 l.id, .int .i64 l.adv, .int .i64 l.seq, .slice A' n c', .slice B' m d', .int .i64 l.mask, .int .i64 l.cost]) U4 := by rw [hU4]; exact Kept.box (HX3.bx.puts 0 (.int .i64 (min (l.age + z) 3600)) (cs' := #[.int .i64 (min (l.age + z) 3600), .int .i64 l.options, .int .i64 l.typ, .int .i64 l.id, .int .i64 l.adv, .int .i64 l.seq, .slice A' n c', .slice B' m d', .int .i64 l.mask, .int .i64 l.cost]) rfl)
  replace HL := HL.only ho (by have := Z0.out; have := Z1.out; have := Z2.out; have := Z3.out; omega)
  replace HX1 := HX1.only ho (by have := Z0.out; have := Z1.out; have := Z2.out; have := Z3.out; omega)
  replace HX2 := HX2.only ho (by have := Z0.out; have := Z1.out; have := Z2.out; have := Z3.out; omega)
  replace HT := HT.only ho (by have := Z0.out; have := Z1.out; have := Z2.out; have := Z3.out; omega)
  replace HB := Lib.hid (Below.only HB.out ho (by have := Z0.out; have := Z1.out; have := Z2.out; have := Z3.out; omega) HB.out.size)
  have Z4 := Lib.hid ho.size; clear ho
  obtain ⟨U5, hU5⟩ : ∃ W : World, W = ((((((((((U4.setCell ⟨w.heap.size + 1, 0, none⟩ (.int .i64 (min (l.age + z) 3600))).setCell ⟨w.heap.size + 1, 1, none⟩ (.int .i64 l.options)).setCell ⟨w.heap.size + 1, 2, none⟩ (.int .i64 l.typ)).setCell ⟨w.heap.size + 1, 3, none⟩ (.int .i64 l.id)).setCell ⟨w.heap.size + 1, 4, none⟩ (.int .i64 l.adv)).setCell ⟨w.heap.size + 1, 5, none⟩ (.int .i64 l.seq)).setCell ⟨w.heap.size + 1, 6, none⟩ (.slice A' n c')).setCell ⟨w.heap.size + 1, 7, none⟩ (.slice B' m d')).setCell ⟨w.heap.size + 1, 8, none⟩ (.int .i64 l.mask)).setCell ⟨w.heap.size + 1, 9, none⟩ (.int .i64 l.cost)) := ⟨_, rfl⟩
  have ho : Only (w.heap.size + 1) (w.heap.size + 1 + 1) U4 U5 := by rw [hU5]; exact (((((((((((Only.refl _ _ _).set (p := ⟨w.heap.size + 1, 0, none⟩) (Nat.le_refl _) (Nat.lt_succ_self _) _).set (p := ⟨w.heap.size + 1, 1, none⟩) (Nat.le_refl _) (Nat.lt_succ_self _) _).set (p := ⟨w.heap.size + 1, 2, none⟩) (Nat.le_refl _) (Nat.lt_succ_self _) _).set (p := ⟨w.heap.size + 1, 3, none⟩) (Nat.le_refl _) (Nat.lt_succ_self _) _).set (p := ⟨w.heap.size + 1, 4, none⟩) (Nat.le_refl _) (Nat.lt_succ_self _) _).set (p := ⟨w.heap.size + 1, 5, none⟩) (Nat.le_refl _) (Nat.lt_succ_self _) _).set (p := ⟨w.heap.size + 1, 6, none⟩) (Nat.le_refl _) (Nat.lt_succ_self _) _).set (p := ⟨w.heap.size + 1, 7, none⟩) (Nat.le_refl _) (Nat.lt_succ_self _) _).set (p := ⟨w.heap.size + 1, 8, none⟩) (Nat.le_refl _) (Nat.lt_succ_self _) _).set (p := ⟨w.heap.size + 1, 9, none⟩) (Nat.le_refl _) (Nat.lt_succ_self _) _)
  replace HX2 : Kept (w.heap.size + 1) (w.heap.size + 1 + 1) (BoxK (w.heap.size + 1) 29 #[.int .i64 (min (l.age + z) 3600), .int .i64 l.options, .int .i64 l.typ, .int .i64 l.id, .int .i64 l.adv, .int .i64 l.seq, .slice A' n c', .slice B' m d', .int .i64 l.mask, .int .i64 l.cost]) U5 := by rw [hU5]; exact Kept.box ((((((((((HX2.bx.puts 0 (.int .i64 (min (l.age + z) 3600)) (cs' := #[.int .i64 (min (l.age + z) 3600), .int .i64 0, .int .i64 0, .int .i64 0, .int .i64 0, .int .i64 0, .slice none 0 0, .slice none 0 0, .int .i64 0, .int .i64 0]) rfl).puts 1 (.int .i64 l.options) (cs' := #[.int .i64 (min (l.age + z) 3600), .int .i64 l.options, .int .i64 0, .int .i64 0, .int .i64 0, .int .i64 0, .slice none 0 0, .slice none 0 0, .int .i64 0, .int .i64 0]) rfl).puts 2 (.int .i64 l.typ) (cs' := #[.int .i64 (min (l.age + z) 3600), .int .i64 l.options, .int .i64 l.typ, .int .i64 0, .int .i64 0, .int .i64 0, .slice none 0 0, .slice none 0 0, .int .i64 0, .int .i64 0]) rfl).puts 3 (.int .i64 l.id) (cs' := #[.int .i64 (min (l.age + z) 3600), .int .i64 l.options, .int .i64 l.typ, .int .i64 l.id, .int .i64 0, .int .i64 0, .slice none 0 0, .slice none 0 0, .int .i64 0, .int .i64 0]) rfl).puts 4 (.int .i64 l.adv) (cs' := #[.int .i64 (min (l.age + z) 3600), .int .i64 l.options, .int .i64 l.typ, .int .i64 l.id, .int .i64 l.adv, .int .i64 0, .slice none 0 0, .slice none 0 0, .int .i64 0, .int .i64 0]) rfl).puts 5 (.int .i64 l.seq) (cs' := #[.int .i64 (min (l.age + z) 3600), .int .i64 l.options, .int .i64 l.typ, .int .i64 l.id, .int .i64 l.adv, .int .i64 l.seq, .slice none 0 0, .slice none 0 0, .int .i64 0, .int .i64 0]) rfl).puts 6 (.slice A' n c') (cs' := #[.int .i64 (min (l.age + z) 3600), .int .i64 l.options, .int .i64 l.typ, .int .i64 l.id, .int .i64 l.adv, .int .i64 l.seq, .slice A' n c', .slice none 0 0, .int .i64 0, .int .i64 0]) rfl).puts 7 (.slice B' m d') (cs' := #[.int .i64 (min (l.age + z) 3600), .int .i64 l.options, .int .i64 l.typ, .int .i64 l.id, .int .i64 l.adv, .int .i64 l.seq, .slice A' n c', .slice B' m d', .int .i64 0, .int .i64 0]) rfl).puts 8 (.int .i64 l.mask) (cs' := #[.int .i64 (min (l.age + z) 3600), .int .i64 l.options, .int .i64 l.typ, .int .i64 l.id, .int .i64 l.adv, .int .i64 l.seq, .slice A' n c', .slice B' m d', .int .i64 l.mask, .int .i64 0]) rfl).puts 9 (.int .i64 l.cost) (cs' := #[.int .i64 (min (l.age + z) 3600), .int .i64 l.options, .int .i64 l.typ, .int .i64 l.id, .int .i64 l.adv, .int .i64 l.seq, .slice A' n c', .slice B' m d', .int .i64 l.mask, .int .i64 l.cost]) rfl)
  replace HL := HL.only ho (by have := Z0.out; have := Z1.out; have := Z2.out; have := Z3.out; have := Z4.out; omega)
  replace HX1 := HX1.only ho (by have := Z0.out; have := Z1.out; have := Z2.out; have := Z3.out; have := Z4.out; omega)
  replace HT := HT.only ho (by have := Z0.out; have := Z1.out; have := Z2.out; have := Z3.out; have := Z4.out; omega)
  replace HX3 := HX3.only ho (by have := Z0.out; have := Z1.out; have := Z2.out; have := Z3.out; have := Z4.out; omega)
  replace HB := Lib.hid (Below.only HB.out ho (by have := Z0.out; have := Z1.out; have := Z2.out; have := Z3.out; have := Z4.out; omega) HB.out.size)
  have Z5 := Lib.hid ho.size; clear ho
  obtain ⟨U6, hU6⟩ : ∃ W : World, W = U5.drew := ⟨_, rfl⟩
  have hb : Below U5.heap.size U5 U6 := by rw [hU6]; exact (Below.refl _ _).drew
  have zz : Hid (U5.heap.size = U6.heap.size) := Lib.hid (by rw [hU6]; simp)
  replace HL := HL.below hb
  replace HX1 := HX1.below hb
  replace HX2 := HX2.below hb
  replace HT := HT.below hb
  replace HX3 := HX3.below hb
  replace HB := Lib.hid (below_step HB.out hb)
  clear hb
  have Z6 := zz; clear zz
  have q_0 := HX2.look 0
  have q_1 := HX2.look 1
  have q_2 := HX2.look 2
  have q_3 := HX2.look 3
  have q_4 := HX2.look 4
  have q_5 := HX2.look 5
  have q_6 := HX2.look 6
  have q_7 := HX2.look 7
  have q_8 := HX2.look 8
  have q_9 := HX2.look 9
  have fin : ∀ e, e = Ending.returned (.agg (lsaCells { l with age := min (l.age + z) 3600 } A' B' n c' m d')) → (∃ A' B' c' d', e = .returned (.agg (lsaCells { l with age := min (l.age + z) 3600 } A' B' n c' m d')) ∧ LsaTwo w.heap.size U6.heap.size U6 A' n B' m { l with age := min (l.age + z) 3600 } ∧ Below w.heap.size w U6) := by rintro _ rfl; exact ⟨A', B', c', d', rfl, LsaTwo.mono (lo' := w.heap.size) (hi' := U6.heap.size) (HT.two.as rfl rfl) (by have := Z0.out; have := Z1.out; have := Z2.out; have := Z3.out; have := Z4.out; have := Z5.out; have := Z6.out; omega) (by have := Z0.out; have := Z1.out; have := Z2.out; have := Z3.out; have := Z4.out; have := Z5.out; have := Z6.out; omega) (Nat.le_refl _), HB.out⟩
  subst hU6 hU5 hU4
  exact bodyPost_ret (v := .agg (lsaCells { l with age := min (l.age + z) 3600 } A' B' n c' m d')) (by simp [results, Try.results94, go_sem, q_0, q_1, q_2, q_3, q_4, q_5, q_6, q_7, q_8, q_9]) rfl (fin _ rfl)


end Go.Proofs.Ytamclkjofojhmaa
