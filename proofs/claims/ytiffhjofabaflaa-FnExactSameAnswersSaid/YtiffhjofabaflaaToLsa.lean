/-
  toLsa, as two slices that lie apart. No statement is proved here.
-/
import Derived.Test.YtiffhjofabaflaaHeldLsa
namespace Go.Proofs.Ytiffhjofabaflaa
open Go.RowKit
set_option linter.unusedVariables false

set_option maxHeartbeats 3200000 in
theorem toLsa_two (l : LsaM) (q : Bool) (lo hi : Nat) (A B : Option Addr) (n c m d : Nat) (w : World) (ha : LsaIn q lo hi w A n B m l) (hh : hi ≤ w.heap.size) (hn : n ≤ 1048576) (hm : m ≤ 1048576) :
    Calls Try.prog 161 #[.agg #[.int .i64 l.age, .int .i64 l.options, .int .i64 l.typ, .int .i64 l.id, .int .i64 l.adv, .int .i64 l.seq, .slice A n c, .slice B m d, .int .i64 l.mask, .int .i64 l.cost]] w fun e w' => ∃ A' B', e = .returned (.agg #[.int .i64 l.age, .int .i64 l.options, .int .i64 l.typ, .int .i64 l.id, .int .i64 l.adv, .int .i64 l.seq, .slice A' n n, .slice B' m m, .int .i64 l.mask, .int .i64 l.cost]) ∧
      LsaTwo w.heap.size w'.heap.size w' A' n B' m l ∧ Below w.heap.size w w' := by
  have HA := Lib.hid ha
  clear ha
  go_enter Try.func161, Try.ntmps161
  go_wp2_with fail
  obtain ⟨V0, hV0⟩ : ∃ W : World, W = ((w.alloc (.cells #[.int .i64 l.age, .int .i64 l.options, .int .i64 l.typ, .int .i64 l.id, .int .i64 l.adv, .int .i64 l.seq, .slice A n c, .slice B m d, .int .i64 l.mask, .int .i64 l.cost] 112)).alloc (.cells #[.int .i64 0, .int .i64 0, .int .i64 0, .int .i64 0, .int .i64 0, .int .i64 0, .slice none 0 0, .slice none 0 0, .int .i64 0, .int .i64 0] 123)).alloc (.cells #[.int .i64 l.age, .int .i64 l.options, .int .i64 0, .int .i64 0, .int .i64 0, .int .i64 0, .slice none 0 0, .slice none 0 0, .int .i64 0, .int .i64 0] 123) := ⟨_, rfl⟩
  have HX0 : Hid (Box V0 w.heap.size 112 #[.int .i64 l.age, .int .i64 l.options, .int .i64 l.typ, .int .i64 l.id, .int .i64 l.adv, .int .i64 l.seq, .slice A n c, .slice B m d, .int .i64 l.mask, .int .i64 l.cost]) := by rw [hV0]; exact ((Box.made _ _ _).below ((Below.refl _ _).alloc (Nat.le_refl _) _)).below ((Below.refl _ _).alloc (Nat.le_refl _) _)
  have e1 : (w.alloc (.cells #[.int .i64 l.age, .int .i64 l.options, .int .i64 l.typ, .int .i64 l.id, .int .i64 l.adv, .int .i64 l.seq, .slice A n c, .slice B m d, .int .i64 l.mask, .int .i64 l.cost] 112)).heap.size = w.heap.size + 1 := by simp
  have e2 : ((w.alloc (.cells #[.int .i64 l.age, .int .i64 l.options, .int .i64 l.typ, .int .i64 l.id, .int .i64 l.adv, .int .i64 l.seq, .slice A n c, .slice B m d, .int .i64 l.mask, .int .i64 l.cost] 112)).alloc (.cells #[.int .i64 0, .int .i64 0, .int .i64 0, .int .i64 0, .int .i64 0, .int .i64 0, .slice none 0 0, .slice none 0 0, .int .i64 0, .int .i64 0] 123)).heap.size = w.heap.size + 1 + 1 := by simp
  have HZ0 : Hid (Box V0 (w.heap.size + 1) 123 #[.int .i64 0, .int .i64 0, .int .i64 0, .int .i64 0, .int .i64 0, .int .i64 0, .slice none 0 0, .slice none 0 0, .int .i64 0, .int .i64 0]) := by rw [hV0, ← e1]; exact (Box.made _ _ _).below ((Below.refl _ _).alloc (Nat.le_refl _) _)
  have HO0 : Hid (Box V0 (w.heap.size + 1 + 1) 123 #[.int .i64 l.age, .int .i64 l.options, .int .i64 0, .int .i64 0, .int .i64 0, .int .i64 0, .slice none 0 0, .slice none 0 0, .int .i64 0, .int .i64 0]) := by rw [hV0, ← e2]; exact Box.made _ _ _
  clear e1 e2
  have HB0 : Hid (Below w.heap.size w V0) := by rw [hV0]; exact (((Below.refl _ _).alloc (Nat.le_refl _) _).alloc (by simp) _).alloc (by simp; omega) _
  have HA0 := Lib.hid (HA.out.below HB0.out hh)
  have T0 := Lib.hid HO0.out.lt
  rw [← hV0]
  clear hV0 HA
  refine (toKey_any _ _ _ _).mono ?_
  rintro e w1 ⟨rfl, hb1⟩
  have HX1 := Lib.hid (HX0.out.below hb1)
  have HZ1 := Lib.hid (HZ0.out.below hb1)
  have HO1 := Lib.hid (HO0.out.below hb1)
  have HB1 := Lib.hid (below_step HB0.out hb1)
  have HA1 := Lib.hid (HA0.out.below hb1 (Nat.le_trans hh HB0.out.size))
  have T1 := Lib.hid (Nat.le_trans T0.out hb1.size)
  clear hb1 HX0 HZ0 HO0 HB0 HA0
  have x0 := HX1.out.look 0
  have x1 := HX1.out.look 1
  have x2 := HX1.out.look 2
  have x3 := HX1.out.look 3
  have x4 := HX1.out.look 4
  have x5 := HX1.out.look 5
  have x6 := HX1.out.look 6
  have x7 := HX1.out.look 7
  have x8 := HX1.out.look 8
  have x9 := HX1.out.look 9
  have o0 := HO1.out.look 0
  have f0 := HO1.out.free 0
  have o1 := HO1.out.look 1
  have f1 := HO1.out.free 1
  have o2 := HO1.out.look 2
  have f2 := HO1.out.free 2
  have o3 := HO1.out.look 3
  have f3 := HO1.out.free 3
  have o4 := HO1.out.look 4
  have f4 := HO1.out.free 4
  have o5 := HO1.out.look 5
  have f5 := HO1.out.free 5
  have o6 := HO1.out.look 6
  have f6 := HO1.out.free 6
  have o7 := HO1.out.look 7
  have f7 := HO1.out.free 7
  have o8 := HO1.out.look 8
  have f8 := HO1.out.free 8
  have o9 := HO1.out.look 9
  have f9 := HO1.out.free 9
  go_wp2_with fail
  clear x0 x1 x2 x3 x4 x5 x6 x7 x8 x9 o0 o1 o2 o3 o4 o5 o6 o7 o8 o9 f0 f1 f2 f3 f4 f5 f6 f7 f8 f9
  obtain ⟨V2, hV2⟩ : ∃ W : World, W = ((((w1.setCell ⟨w.heap.size + 1 + 1, 2, none⟩ (.int .i64 l.typ)).setCell ⟨w.heap.size + 1 + 1, 3, none⟩ (.int .i64 l.id)).setCell ⟨w.heap.size + 1 + 1, 4, none⟩ (.int .i64 l.adv)).setCell ⟨w.heap.size + 1 + 1, 5, none⟩ (.int .i64 l.seq)) := ⟨_, rfl⟩
  have hO2 : Box V2 (w.heap.size + 1 + 1) 123 #[.int .i64 l.age, .int .i64 l.options, .int .i64 l.typ, .int .i64 l.id, .int .i64 l.adv, .int .i64 l.seq, .slice none 0 0, .slice none 0 0, .int .i64 0, .int .i64 0] := by rw [hV2]; simpa using ((((HO1.out.put 2 (.int .i64 l.typ)).put 3 (.int .i64 l.id)).put 4 (.int .i64 l.adv)).put 5 (.int .i64 l.seq))
  have hG2 : w1.grownBy V2 (some (w.heap.size + 1 + 1)) := by
    rw [hV2]
    exact grown_trans (grown_trans (grown_trans (setCell_grown _ _ _) (setCell_grown _ _ _)) (setCell_grown _ _ _)) (setCell_grown _ _ _)
  have HX2 := Lib.hid (HX1.out.grown hG2 (by simp; omega))
  have HZ2 := Lib.hid (HZ1.out.grown hG2 (by simp))
  have HO2 := Lib.hid hO2
  have HB2 := Lib.hid (HB1.out.grown hG2 HB1.out.size (fun r hr => by injection hr with hr; omega))
  have T2 := Lib.hid (Nat.le_trans T1.out hG2.size)
  have K2 : Hid (SameIn 0 w.heap.size w1 V2) := fun b _ h2 => hG2.block b (by have := HB1.out.size; omega) (by simp; omega)
  have HA2 := Lib.hid (HA1.out.keep (fun b h1 h2 => K2.out b (Nat.zero_le _) (by omega)))
  rw [← hV2]
  clear hV2 hG2 hO2 K2 HX1 HZ1 HO1 HB1 HA1 
  -- links
  have SHL := Lib.hid (Nat.le_refl V2.heap.size)
  refine (toLinkS_any _ _ _ _ _ _ l.links _ HA2.out.links (Nat.le_trans hh HB2.out.size) hn).mono ?_
  rintro e w3 ⟨rfl, hl3, hs3, hb3⟩
  have HX3 := Lib.hid (HX2.out.below hb3)
  have HZ3 := Lib.hid (HZ2.out.below hb3)
  have HO3 := Lib.hid (HO2.out.below hb3)
  have HB3 := Lib.hid (below_step HB2.out hb3)
  have HA3 := Lib.hid (HA2.out.below hb3 (Nat.le_trans hh HB2.out.size))
  have T3 := Lib.hid (Nat.le_trans T2.out hb3.size)
  clear hb3 HX2 HZ2 HO2 HB2 HA2
  have HL3 := Lib.hid hl3
  have L3 := Lib.hid hs3
  clear hl3 hs3
  have x0 := HX3.out.look 0
  have x1 := HX3.out.look 1
  have x2 := HX3.out.look 2
  have x3 := HX3.out.look 3
  have x4 := HX3.out.look 4
  have x5 := HX3.out.look 5
  have x6 := HX3.out.look 6
  have x7 := HX3.out.look 7
  have x8 := HX3.out.look 8
  have x9 := HX3.out.look 9
  have o0 := HO3.out.look 0
  have f0 := HO3.out.free 0
  have o1 := HO3.out.look 1
  have f1 := HO3.out.free 1
  have o2 := HO3.out.look 2
  have f2 := HO3.out.free 2
  have o3 := HO3.out.look 3
  have f3 := HO3.out.free 3
  have o4 := HO3.out.look 4
  have f4 := HO3.out.free 4
  have o5 := HO3.out.look 5
  have f5 := HO3.out.free 5
  have o6 := HO3.out.look 6
  have f6 := HO3.out.free 6
  have o7 := HO3.out.look 7
  have f7 := HO3.out.free 7
  have o8 := HO3.out.look 8
  have f8 := HO3.out.free 8
  have o9 := HO3.out.look 9
  have f9 := HO3.out.free 9
  go_wp2_with fail
  clear x0 x1 x2 x3 x4 x5 x6 x7 x8 x9 o0 o1 o2 o3 o4 o5 o6 o7 o8 o9 f0 f1 f2 f3 f4 f5 f6 f7 f8 f9
  obtain ⟨V4, hV4⟩ : ∃ W : World, W = (w3.setCell ⟨w.heap.size + 1 + 1, 6, none⟩ (.slice (some ⟨V2.heap.size, 0, none⟩) n n)) := ⟨_, rfl⟩
  have hO4 : Box V4 (w.heap.size + 1 + 1) 123 #[.int .i64 l.age, .int .i64 l.options, .int .i64 l.typ, .int .i64 l.id, .int .i64 l.adv, .int .i64 l.seq, .slice (some ⟨V2.heap.size, 0, none⟩) n n, .slice none 0 0, .int .i64 0, .int .i64 0] := by rw [hV4]; simpa using (HO3.out.put 6 (.slice (some ⟨V2.heap.size, 0, none⟩) n n))
  have hG4 : w3.grownBy V4 (some (w.heap.size + 1 + 1)) := by
    rw [hV4]
    exact setCell_grown _ _ _
  have HX4 := Lib.hid (HX3.out.grown hG4 (by simp; omega))
  have HZ4 := Lib.hid (HZ3.out.grown hG4 (by simp))
  have HO4 := Lib.hid hO4
  have HB4 := Lib.hid (HB3.out.grown hG4 HB3.out.size (fun r hr => by injection hr with hr; omega))
  have T4 := Lib.hid (Nat.le_trans T3.out hG4.size)
  have K4 : Hid (SameIn 0 w.heap.size w3 V4) := fun b _ h2 => hG4.block b (by have := HB3.out.size; omega) (by simp; omega)
  have HA4 := Lib.hid (HA3.out.keep (fun b h1 h2 => K4.out b (Nat.zero_le _) (by omega)))
  have HL4 := Lib.hid (HL3.out.keep (fun b h1 h2 => hG4.block b (by have := L3.out; omega) (by have := T2.out; simp; omega)))
  have L4 := Lib.hid (Nat.lt_of_lt_of_le L3.out hG4.size)
  have L4b := Lib.hid (show V2.heap.size < V4.heap.size from Nat.lt_of_lt_of_le L3.out hG4.size)
  rw [← hV4]
  clear hV4 hG4 hO4 K4 HX3 HZ3 HO3 HB3 HA3 HL3
  -- routers
  refine (toInt64S_any _ _ _ _ _ _ l.routers _ HA4.out.routers (Nat.le_trans hh HB4.out.size) hm).mono ?_
  rintro e w5 ⟨rfl, hr5, hs5, hb5⟩
  have HL5 := Lib.hid (HL4.out.below hb5 (by have := L4.out; omega))
  have L5 := Lib.hid (Nat.lt_of_lt_of_le L4.out hb5.size)
  have HX5 := Lib.hid (HX4.out.below hb5)
  have HZ5 := Lib.hid (HZ4.out.below hb5)
  have HO5 := Lib.hid (HO4.out.below hb5)
  have HB5 := Lib.hid (below_step HB4.out hb5)
  have HA5 := Lib.hid (HA4.out.below hb5 (Nat.le_trans hh HB4.out.size))
  have T5 := Lib.hid (Nat.le_trans T4.out hb5.size)
  clear hb5 HX4 HZ4 HO4 HB4 HA4
  have HR5 := Lib.hid hr5
  have R5 := Lib.hid hs5
  clear hr5 hs5 HL4
  have x0 := HX5.out.look 0
  have x1 := HX5.out.look 1
  have x2 := HX5.out.look 2
  have x3 := HX5.out.look 3
  have x4 := HX5.out.look 4
  have x5 := HX5.out.look 5
  have x6 := HX5.out.look 6
  have x7 := HX5.out.look 7
  have x8 := HX5.out.look 8
  have x9 := HX5.out.look 9
  have o0 := HO5.out.look 0
  have f0 := HO5.out.free 0
  have o1 := HO5.out.look 1
  have f1 := HO5.out.free 1
  have o2 := HO5.out.look 2
  have f2 := HO5.out.free 2
  have o3 := HO5.out.look 3
  have f3 := HO5.out.free 3
  have o4 := HO5.out.look 4
  have f4 := HO5.out.free 4
  have o5 := HO5.out.look 5
  have f5 := HO5.out.free 5
  have o6 := HO5.out.look 6
  have f6 := HO5.out.free 6
  have o7 := HO5.out.look 7
  have f7 := HO5.out.free 7
  have o8 := HO5.out.look 8
  have f8 := HO5.out.free 8
  have o9 := HO5.out.look 9
  have f9 := HO5.out.free 9
  have z0 := HZ5.out.look 0
  have g0 := HZ5.out.free 0
  have z1 := HZ5.out.look 1
  have g1 := HZ5.out.free 1
  have z2 := HZ5.out.look 2
  have g2 := HZ5.out.free 2
  have z3 := HZ5.out.look 3
  have g3 := HZ5.out.free 3
  have z4 := HZ5.out.look 4
  have g4 := HZ5.out.free 4
  have z5 := HZ5.out.look 5
  have g5 := HZ5.out.free 5
  have z6 := HZ5.out.look 6
  have g6 := HZ5.out.free 6
  have z7 := HZ5.out.look 7
  have g7 := HZ5.out.free 7
  have z8 := HZ5.out.look 8
  have g8 := HZ5.out.free 8
  have z9 := HZ5.out.look 9
  have g9 := HZ5.out.free 9
  go_wp2_with fail
  clear x0 x1 x2 x3 x4 x5 x6 x7 x8 x9 o0 o1 o2 o3 o4 o5 o6 o7 o8 o9 f0 f1 f2 f3 f4 f5 f6 f7 f8 f9 z0 g0 z1 g1 z2 g2 z3 g3 z4 g4 z5 g5 z6 g6 z7 g7 z8 g8 z9 g9
  obtain ⟨V6, hV6⟩ : ∃ W : World, W = (((((((((((((w5.setCell ⟨w.heap.size + 1 + 1, 7, none⟩ (.slice (some ⟨V4.heap.size, 0, none⟩) m m)).setCell ⟨w.heap.size + 1 + 1, 8, none⟩ (.int .i64 l.mask)).setCell ⟨w.heap.size + 1 + 1, 9, none⟩ (.int .i64 l.cost)).setCell ⟨w.heap.size + 1, 0, none⟩ (.int .i64 l.age)).setCell ⟨w.heap.size + 1, 1, none⟩ (.int .i64 l.options)).setCell ⟨w.heap.size + 1, 2, none⟩ (.int .i64 l.typ)).setCell ⟨w.heap.size + 1, 3, none⟩ (.int .i64 l.id)).setCell ⟨w.heap.size + 1, 4, none⟩ (.int .i64 l.adv)).setCell ⟨w.heap.size + 1, 5, none⟩ (.int .i64 l.seq)).setCell ⟨w.heap.size + 1, 6, none⟩ (.slice (some ⟨V2.heap.size, 0, none⟩) n n)).setCell ⟨w.heap.size + 1, 7, none⟩ (.slice (some ⟨V4.heap.size, 0, none⟩) m m)).setCell ⟨w.heap.size + 1, 8, none⟩ (.int .i64 l.mask)).setCell ⟨w.heap.size + 1, 9, none⟩ (.int .i64 l.cost)) := ⟨_, rfl⟩
  have hZ : Box V6 (w.heap.size + 1) 123 #[.int .i64 l.age, .int .i64 l.options, .int .i64 l.typ, .int .i64 l.id, .int .i64 l.adv, .int .i64 l.seq, .slice (some ⟨V2.heap.size, 0, none⟩) n n, .slice (some ⟨V4.heap.size, 0, none⟩) m m, .int .i64 l.mask, .int .i64 l.cost] := by
    rw [hV6]
    simpa using (((((((((((((HZ5.out.grown (setCell_grown _ ⟨w.heap.size + 1 + 1, 7, none⟩ (.slice (some ⟨V4.heap.size, 0, none⟩) m m)) (by simp)).grown (setCell_grown _ ⟨w.heap.size + 1 + 1, 8, none⟩ (.int .i64 l.mask)) (by simp)).grown (setCell_grown _ ⟨w.heap.size + 1 + 1, 9, none⟩ (.int .i64 l.cost)) (by simp)).put 0 (.int .i64 l.age)).put 1 (.int .i64 l.options)).put 2 (.int .i64 l.typ)).put 3 (.int .i64 l.id)).put 4 (.int .i64 l.adv)).put 5 (.int .i64 l.seq)).put 6 (.slice (some ⟨V2.heap.size, 0, none⟩) n n)).put 7 (.slice (some ⟨V4.heap.size, 0, none⟩) m m)).put 8 (.int .i64 l.mask)).put 9 (.int .i64 l.cost))
  have hB6 : Below w.heap.size w5 V6 := by rw [hV6]; exact ((((((((((((((Below.refl w.heap.size w5).setCell (by simp; omega) _).setCell (by simp; omega) _).setCell (by simp; omega) _).setCell (by simp) _).setCell (by simp) _).setCell (by simp) _).setCell (by simp) _).setCell (by simp) _).setCell (by simp) _).setCell (by simp) _).setCell (by simp) _).setCell (by simp) _).setCell (by simp) _)
  have hS1 : SameIn V2.heap.size (V2.heap.size + 1) w5 V6 := by rw [hV6]; exact ((((((((((((((SameIn.refl V2.heap.size (V2.heap.size + 1) w5).set (by have := T2.out; simp; omega) _).set (by have := T2.out; simp; omega) _).set (by have := T2.out; simp; omega) _).set (by have := T2.out; simp; omega) _).set (by have := T2.out; simp; omega) _).set (by have := T2.out; simp; omega) _).set (by have := T2.out; simp; omega) _).set (by have := T2.out; simp; omega) _).set (by have := T2.out; simp; omega) _).set (by have := T2.out; simp; omega) _).set (by have := T2.out; simp; omega) _).set (by have := T2.out; simp; omega) _).set (by have := T2.out; simp; omega) _)
  have hS2 : SameIn V4.heap.size (V4.heap.size + 1) w5 V6 := by rw [hV6]; exact ((((((((((((((SameIn.refl V4.heap.size (V4.heap.size + 1) w5).set (by have := T4.out; simp; omega) _).set (by have := T4.out; simp; omega) _).set (by have := T4.out; simp; omega) _).set (by have := T4.out; simp; omega) _).set (by have := T4.out; simp; omega) _).set (by have := T4.out; simp; omega) _).set (by have := T4.out; simp; omega) _).set (by have := T4.out; simp; omega) _).set (by have := T4.out; simp; omega) _).set (by have := T4.out; simp; omega) _).set (by have := T4.out; simp; omega) _).set (by have := T4.out; simp; omega) _).set (by have := T4.out; simp; omega) _)
  rw [← hV6]
  clear hV6
  have y0 := hZ.look 0
  have y1 := hZ.look 1
  have y2 := hZ.look 2
  have y3 := hZ.look 3
  have y4 := hZ.look 4
  have y5 := hZ.look 5
  have y6 := hZ.look 6
  have y7 := hZ.look 7
  have y8 := hZ.look 8
  have y9 := hZ.look 9
  have hs6 := hB6.size
  have hs5 := HB5.out.size
  refine bodyPost_ret (v := .agg #[.int .i64 l.age, .int .i64 l.options, .int .i64 l.typ, .int .i64 l.id, .int .i64 l.adv, .int .i64 l.seq, .slice (some ⟨V2.heap.size, 0, none⟩) n n, .slice (some ⟨V4.heap.size, 0, none⟩) m m, .int .i64 l.mask, .int .i64 l.cost]) (by simp [results, Try.results161, go_sem, y0, y1, y2, y3, y4, y5, y6, y7, y8, y9]) rfl ⟨_, _, rfl, ⟨⟨V2.heap.size, V2.heap.size + 1, V4.heap.size, V4.heap.size + 1, ?_, ?_, ?_, ?_, ?_, HL5.out.keep hS1, HR5.out.keep hS2⟩, Nat.le_refl _⟩, HB5.out.trans hB6⟩
  · have := T2.out; omega
  · have := L5.out; omega
  · have := T4.out; omega
  · have := R5.out; omega
  · left; have := L4b.out; omega

end Go.Proofs.Ytiffhjofabaflaa
