/-
  toEntry, toEntryS, toBase: copies of entries and bases. No statement is proved here.
-/
import Derived.Test.YtiffhjofabaflaaEntSz
import Derived.Test.YtiffhjofabaflaaToLsa
namespace Go.Proofs.Ytiffhjofabaflaa
open Go.RowKit
set_option linter.unusedVariables false

theorem entInfo : (Try.prog.info? 280).map (fun i => (i.zero, i.size, i.bytes)) = some (some (.agg #[.int .i64 0, .int .i64 0, .int .i64 0, .int .i64 0, .int .i64 0, .int .i64 0, .slice none 0 0, .slice none 0 0, .int .i64 0, .int .i64 0, .int .i64 0]), 11, 120) := by kernel_rfl

set_option maxRecDepth 100000 in
set_option maxHeartbeats 3200000 in
theorem toEntry_any (l : LsaM) (q : Bool) (lo hi : Nat) (A B : Option Addr) (n c m d : Nat) (t : Int) (w : World) (hl : LsaAt q lo hi w A n B m l) (hn : n ≤ 1048576) (hm : m ≤ 1048576) :
    Calls Try.prog 239 #[.agg (entCells l t A B n c m d)] w fun e w' => ∃ P Q, e = .returned (.agg (entCells l t P Q n n m m)) ∧ LsaTwo w.heap.size w'.heap.size w' P n Q m l ∧ Below w.heap.size w w' := by
  have HB := Lib.hid (Below.refl w.heap.size w)
  have HL := hl.kept
  have Z0 := Lib.hid hl.le
  clear hl
  go_enter Try.func239, Try.ntmps239
  go_wp2_with fail
  refine Calls.name ?_
  intro U1 hU1
  have hb : Below w.heap.size w U1 := by rw [hU1]; exact ((((Below.refl _ _).alloc (Nat.le_refl _) _).alloc (by simp <;> omega) _).alloc (by simp <;> omega) _)
  have zz : Hid (w.heap.size + 3 = U1.heap.size) := Lib.hid (by rw [hU1]; simp)
  have HX1 : Kept w.heap.size (w.heap.size + 1) (BoxK w.heap.size 313 #[.int .i64 l.age, .int .i64 l.options, .int .i64 l.typ, .int .i64 l.id, .int .i64 l.adv, .int .i64 l.seq, .slice A n c, .slice B m d, .int .i64 l.mask, .int .i64 l.cost, .int .i64 t]) U1 := by rw [hU1]; exact Kept.box (((Box.made_at _ _ _ rfl).over _).over _)
  have HX2 : Kept (w.heap.size + 1) (w.heap.size + 1 + 1) (BoxK (w.heap.size + 1) 280 #[.int .i64 0, .int .i64 0, .int .i64 0, .int .i64 0, .int .i64 0, .int .i64 0, .slice none 0 0, .slice none 0 0, .int .i64 0, .int .i64 0, .int .i64 0]) U1 := by rw [hU1]; exact Kept.box ((Box.made_at _ _ _ (by simp <;> omega)).over _)
  have HX3 : Kept (w.heap.size + 1 + 1) (w.heap.size + 1 + 1 + 1) (BoxK (w.heap.size + 1 + 1) 280 #[.int .i64 0, .int .i64 0, .int .i64 0, .int .i64 0, .int .i64 0, .int .i64 0, .slice none 0 0, .slice none 0 0, .int .i64 0, .int .i64 0, .int .i64 0]) U1 := by rw [hU1]; exact Kept.box (Box.made_at _ _ _ (by simp <;> omega))
  replace HL := HL.below hb
  replace HB := Lib.hid (below_step HB.out hb)
  clear hb
  have Z1 := zz; clear zz
  clear hU1
  refine (toLsa_two l q lo hi A B n c m d _ HL.lsa.in_ HL.lsa.le hn hm).mono ?_
  rintro e w2 ⟨Px, Qx, rfl, ht, hb⟩
  have Z2 := Lib.hid hb.size
  replace HL := HL.below hb
  replace HX1 := HX1.below hb
  replace HX2 := HX2.below hb
  replace HX3 := HX3.below hb
  replace HB := Lib.hid (below_step HB.out hb)
  clear hb
  have HT := ht.kept; clear ht
  have c2_0 := HX1.look 10
  have c2_1 := HX2.look 0
  have c2_2 := HX2.look 1
  have c2_3 := HX2.look 2
  have c2_4 := HX2.look 3
  have c2_5 := HX2.look 4
  have c2_6 := HX2.look 5
  have c2_7 := HX2.look 6
  have c2_8 := HX2.look 7
  have c2_9 := HX2.look 8
  have c2_10 := HX2.look 9
  have c2_11 := HX2.look 10
  have c2_12 := HX3.look 0
  have c2_13 := HX3.look 1
  have c2_14 := HX3.look 2
  have c2_15 := HX3.look 3
  have c2_16 := HX3.look 4
  have c2_17 := HX3.look 5
  have c2_18 := HX3.look 6
  have c2_19 := HX3.look 7
  have c2_20 := HX3.look 8
  have c2_21 := HX3.look 9
  have c2_22 := HX3.look 10
  have f2_0 := HX2.free 0
  have f2_1 := HX2.free 1
  have f2_2 := HX2.free 2
  have f2_3 := HX2.free 3
  have f2_4 := HX2.free 4
  have f2_5 := HX2.free 5
  have f2_6 := HX2.free 6
  have f2_7 := HX2.free 7
  have f2_8 := HX2.free 8
  have f2_9 := HX2.free 9
  have f2_10 := HX2.free 10
  have f2_11 := HX3.free 0
  have f2_12 := HX3.free 1
  have f2_13 := HX3.free 2
  have f2_14 := HX3.free 3
  have f2_15 := HX3.free 4
  have f2_16 := HX3.free 5
  have f2_17 := HX3.free 6
  have f2_18 := HX3.free 7
  have f2_19 := HX3.free 8
  have f2_20 := HX3.free 9
  have f2_21 := HX3.free 10
  have l2_0 := HX1.bx.lt
  have l2_1 := HX2.bx.lt
  have l2_2 := HX3.bx.lt
  have n2_0_0 : ¬ (w.heap.size + 1) = w.heap.size := (by have := Z0.out; have := Z1.out; have := Z2.out; omega)
  have m2_0_0 : ¬ w.heap.size = (w.heap.size + 1) := (by have := Z0.out; have := Z1.out; have := Z2.out; omega)
  have n2_0_2 : ¬ (w.heap.size + 1) = (w.heap.size + 1 + 1) := (by have := Z0.out; have := Z1.out; have := Z2.out; omega)
  have m2_0_2 : ¬ (w.heap.size + 1 + 1) = (w.heap.size + 1) := (by have := Z0.out; have := Z1.out; have := Z2.out; omega)
  have n2_1_0 : ¬ (w.heap.size + 1 + 1) = w.heap.size := (by have := Z0.out; have := Z1.out; have := Z2.out; omega)
  have m2_1_0 : ¬ w.heap.size = (w.heap.size + 1 + 1) := (by have := Z0.out; have := Z1.out; have := Z2.out; omega)
  go_wp2
  clear c2_0 c2_1 c2_2 c2_3 c2_4 c2_5 c2_6 c2_7 c2_8 c2_9 c2_10 c2_11 c2_12 c2_13 c2_14 c2_15 c2_16 c2_17 c2_18 c2_19 c2_20 c2_21 c2_22 f2_0 f2_1 f2_2 f2_3 f2_4 f2_5 f2_6 f2_7 f2_8 f2_9 f2_10 f2_11 f2_12 f2_13 f2_14 f2_15 f2_16 f2_17 f2_18 f2_19 f2_20 f2_21 l2_0 l2_1 l2_2 n2_0_0 m2_0_0 n2_0_2 m2_0_2 n2_1_0 m2_1_0
  obtain ⟨U3, hU3⟩ : ∃ W : World, W = (((((((((((w2.setCell ⟨w.heap.size + 1 + 1, 0, none⟩ (.int .i64 l.age)).setCell ⟨w.heap.size + 1 + 1, 1, none⟩ (.int .i64 l.options)).setCell ⟨w.heap.size + 1 + 1, 2, none⟩ (.int .i64 l.typ)).setCell ⟨w.heap.size + 1 + 1, 3, none⟩ (.int .i64 l.id)).setCell ⟨w.heap.size + 1 + 1, 4, none⟩ (.int .i64 l.adv)).setCell ⟨w.heap.size + 1 + 1, 5, none⟩ (.int .i64 l.seq)).setCell ⟨w.heap.size + 1 + 1, 6, none⟩ (.slice Px n n)).setCell ⟨w.heap.size + 1 + 1, 7, none⟩ (.slice Qx m m)).setCell ⟨w.heap.size + 1 + 1, 8, none⟩ (.int .i64 l.mask)).setCell ⟨w.heap.size + 1 + 1, 9, none⟩ (.int .i64 l.cost)).setCell ⟨w.heap.size + 1 + 1, 10, none⟩ (.int .i64 t)) := ⟨_, rfl⟩
  have ho : Only (w.heap.size + 1 + 1) (w.heap.size + 1 + 1 + 1) w2 U3 := by rw [hU3]; exact ((((((((((((Only.refl _ _ _).set (p := ⟨w.heap.size + 1 + 1, 0, none⟩) (Nat.le_refl _) (Nat.lt_succ_self _) _).set (p := ⟨w.heap.size + 1 + 1, 1, none⟩) (Nat.le_refl _) (Nat.lt_succ_self _) _).set (p := ⟨w.heap.size + 1 + 1, 2, none⟩) (Nat.le_refl _) (Nat.lt_succ_self _) _).set (p := ⟨w.heap.size + 1 + 1, 3, none⟩) (Nat.le_refl _) (Nat.lt_succ_self _) _).set (p := ⟨w.heap.size + 1 + 1, 4, none⟩) (Nat.le_refl _) (Nat.lt_succ_self _) _).set (p := ⟨w.heap.size + 1 + 1, 5, none⟩) (Nat.le_refl _) (Nat.lt_succ_self _) _).set (p := ⟨w.heap.size + 1 + 1, 6, none⟩) (Nat.le_refl _) (Nat.lt_succ_self _) _).set (p := ⟨w.heap.size + 1 + 1, 7, none⟩) (Nat.le_refl _) (Nat.lt_succ_self _) _).set (p := ⟨w.heap.size + 1 + 1, 8, none⟩) (Nat.le_refl _) (Nat.lt_succ_self _) _).set (p := ⟨w.heap.size + 1 + 1, 9, none⟩) (Nat.le_refl _) (Nat.lt_succ_self _) _).set (p := ⟨w.heap.size + 1 + 1, 10, none⟩) (Nat.le_refl _) (Nat.lt_succ_self _) _)
  replace HX3 : Kept (w.heap.size + 1 + 1) (w.heap.size + 1 + 1 + 1) (BoxK (w.heap.size + 1 + 1) 280 #[.int .i64 l.age, .int .i64 l.options, .int .i64 l.typ, .int .i64 l.id, .int .i64 l.adv, .int .i64 l.seq, .slice Px n n, .slice Qx m m, .int .i64 l.mask, .int .i64 l.cost, .int .i64 t]) U3 := by rw [hU3]; exact Kept.box (((((((((((HX3.bx.puts 0 (.int .i64 l.age) (cs' := #[.int .i64 l.age, .int .i64 0, .int .i64 0, .int .i64 0, .int .i64 0, .int .i64 0, .slice none 0 0, .slice none 0 0, .int .i64 0, .int .i64 0, .int .i64 0]) rfl).puts 1 (.int .i64 l.options) (cs' := #[.int .i64 l.age, .int .i64 l.options, .int .i64 0, .int .i64 0, .int .i64 0, .int .i64 0, .slice none 0 0, .slice none 0 0, .int .i64 0, .int .i64 0, .int .i64 0]) rfl).puts 2 (.int .i64 l.typ) (cs' := #[.int .i64 l.age, .int .i64 l.options, .int .i64 l.typ, .int .i64 0, .int .i64 0, .int .i64 0, .slice none 0 0, .slice none 0 0, .int .i64 0, .int .i64 0, .int .i64 0]) rfl).puts 3 (.int .i64 l.id) (cs' := #[.int .i64 l.age, .int .i64 l.options, .int .i64 l.typ, .int .i64 l.id, .int .i64 0, .int .i64 0, .slice none 0 0, .slice none 0 0, .int .i64 0, .int .i64 0, .int .i64 0]) rfl).puts 4 (.int .i64 l.adv) (cs' := #[.int .i64 l.age, .int .i64 l.options, .int .i64 l.typ, .int .i64 l.id, .int .i64 l.adv, .int .i64 0, .slice none 0 0, .slice none 0 0, .int .i64 0, .int .i64 0, .int .i64 0]) rfl).puts 5 (.int .i64 l.seq) (cs' := #[.int .i64 l.age, .int .i64 l.options, .int .i64 l.typ, .int .i64 l.id, .int .i64 l.adv, .int .i64 l.seq, .slice none 0 0, .slice none 0 0, .int .i64 0, .int .i64 0, .int .i64 0]) rfl).puts 6 (.slice Px n n) (cs' := #[.int .i64 l.age, .int .i64 l.options, .int .i64 l.typ, .int .i64 l.id, .int .i64 l.adv, .int .i64 l.seq, .slice Px n n, .slice none 0 0, .int .i64 0, .int .i64 0, .int .i64 0]) rfl).puts 7 (.slice Qx m m) (cs' := #[.int .i64 l.age, .int .i64 l.options, .int .i64 l.typ, .int .i64 l.id, .int .i64 l.adv, .int .i64 l.seq, .slice Px n n, .slice Qx m m, .int .i64 0, .int .i64 0, .int .i64 0]) rfl).puts 8 (.int .i64 l.mask) (cs' := #[.int .i64 l.age, .int .i64 l.options, .int .i64 l.typ, .int .i64 l.id, .int .i64 l.adv, .int .i64 l.seq, .slice Px n n, .slice Qx m m, .int .i64 l.mask, .int .i64 0, .int .i64 0]) rfl).puts 9 (.int .i64 l.cost) (cs' := #[.int .i64 l.age, .int .i64 l.options, .int .i64 l.typ, .int .i64 l.id, .int .i64 l.adv, .int .i64 l.seq, .slice Px n n, .slice Qx m m, .int .i64 l.mask, .int .i64 l.cost, .int .i64 0]) rfl).puts 10 (.int .i64 t) (cs' := #[.int .i64 l.age, .int .i64 l.options, .int .i64 l.typ, .int .i64 l.id, .int .i64 l.adv, .int .i64 l.seq, .slice Px n n, .slice Qx m m, .int .i64 l.mask, .int .i64 l.cost, .int .i64 t]) rfl)
  replace HL := HL.only ho (by have := Z0.out; have := Z1.out; have := Z2.out; omega)
  replace HX1 := HX1.only ho (by have := Z0.out; have := Z1.out; have := Z2.out; omega)
  replace HX2 := HX2.only ho (by have := Z0.out; have := Z1.out; have := Z2.out; omega)
  replace HT := HT.only ho (by have := Z0.out; have := Z1.out; have := Z2.out; omega)
  replace HB := Lib.hid (Below.only HB.out ho (by have := Z0.out; have := Z1.out; have := Z2.out; omega) HB.out.size)
  have Z3 : Hid (U3.heap.size = w2.heap.size) := Lib.hid (by rw [hU3]; simp [World.setCell]); clear ho
  obtain ⟨U4, hU4⟩ : ∃ W : World, W = (((((((((((U3.setCell ⟨w.heap.size + 1, 0, none⟩ (.int .i64 l.age)).setCell ⟨w.heap.size + 1, 1, none⟩ (.int .i64 l.options)).setCell ⟨w.heap.size + 1, 2, none⟩ (.int .i64 l.typ)).setCell ⟨w.heap.size + 1, 3, none⟩ (.int .i64 l.id)).setCell ⟨w.heap.size + 1, 4, none⟩ (.int .i64 l.adv)).setCell ⟨w.heap.size + 1, 5, none⟩ (.int .i64 l.seq)).setCell ⟨w.heap.size + 1, 6, none⟩ (.slice Px n n)).setCell ⟨w.heap.size + 1, 7, none⟩ (.slice Qx m m)).setCell ⟨w.heap.size + 1, 8, none⟩ (.int .i64 l.mask)).setCell ⟨w.heap.size + 1, 9, none⟩ (.int .i64 l.cost)).setCell ⟨w.heap.size + 1, 10, none⟩ (.int .i64 t)) := ⟨_, rfl⟩
  have ho : Only (w.heap.size + 1) (w.heap.size + 1 + 1) U3 U4 := by rw [hU4]; exact ((((((((((((Only.refl _ _ _).set (p := ⟨w.heap.size + 1, 0, none⟩) (Nat.le_refl _) (Nat.lt_succ_self _) _).set (p := ⟨w.heap.size + 1, 1, none⟩) (Nat.le_refl _) (Nat.lt_succ_self _) _).set (p := ⟨w.heap.size + 1, 2, none⟩) (Nat.le_refl _) (Nat.lt_succ_self _) _).set (p := ⟨w.heap.size + 1, 3, none⟩) (Nat.le_refl _) (Nat.lt_succ_self _) _).set (p := ⟨w.heap.size + 1, 4, none⟩) (Nat.le_refl _) (Nat.lt_succ_self _) _).set (p := ⟨w.heap.size + 1, 5, none⟩) (Nat.le_refl _) (Nat.lt_succ_self _) _).set (p := ⟨w.heap.size + 1, 6, none⟩) (Nat.le_refl _) (Nat.lt_succ_self _) _).set (p := ⟨w.heap.size + 1, 7, none⟩) (Nat.le_refl _) (Nat.lt_succ_self _) _).set (p := ⟨w.heap.size + 1, 8, none⟩) (Nat.le_refl _) (Nat.lt_succ_self _) _).set (p := ⟨w.heap.size + 1, 9, none⟩) (Nat.le_refl _) (Nat.lt_succ_self _) _).set (p := ⟨w.heap.size + 1, 10, none⟩) (Nat.le_refl _) (Nat.lt_succ_self _) _)
  replace HX2 : Kept (w.heap.size + 1) (w.heap.size + 1 + 1) (BoxK (w.heap.size + 1) 280 #[.int .i64 l.age, .int .i64 l.options, .int .i64 l.typ, .int .i64 l.id, .int .i64 l.adv, .int .i64 l.seq, .slice Px n n, .slice Qx m m, .int .i64 l.mask, .int .i64 l.cost, .int .i64 t]) U4 := by rw [hU4]; exact Kept.box (((((((((((HX2.bx.puts 0 (.int .i64 l.age) (cs' := #[.int .i64 l.age, .int .i64 0, .int .i64 0, .int .i64 0, .int .i64 0, .int .i64 0, .slice none 0 0, .slice none 0 0, .int .i64 0, .int .i64 0, .int .i64 0]) rfl).puts 1 (.int .i64 l.options) (cs' := #[.int .i64 l.age, .int .i64 l.options, .int .i64 0, .int .i64 0, .int .i64 0, .int .i64 0, .slice none 0 0, .slice none 0 0, .int .i64 0, .int .i64 0, .int .i64 0]) rfl).puts 2 (.int .i64 l.typ) (cs' := #[.int .i64 l.age, .int .i64 l.options, .int .i64 l.typ, .int .i64 0, .int .i64 0, .int .i64 0, .slice none 0 0, .slice none 0 0, .int .i64 0, .int .i64 0, .int .i64 0]) rfl).puts 3 (.int .i64 l.id) (cs' := #[.int .i64 l.age, .int .i64 l.options, .int .i64 l.typ, .int .i64 l.id, .int .i64 0, .int .i64 0, .slice none 0 0, .slice none 0 0, .int .i64 0, .int .i64 0, .int .i64 0]) rfl).puts 4 (.int .i64 l.adv) (cs' := #[.int .i64 l.age, .int .i64 l.options, .int .i64 l.typ, .int .i64 l.id, .int .i64 l.adv, .int .i64 0, .slice none 0 0, .slice none 0 0, .int .i64 0, .int .i64 0, .int .i64 0]) rfl).puts 5 (.int .i64 l.seq) (cs' := #[.int .i64 l.age, .int .i64 l.options, .int .i64 l.typ, .int .i64 l.id, .int .i64 l.adv, .int .i64 l.seq, .slice none 0 0, .slice none 0 0, .int .i64 0, .int .i64 0, .int .i64 0]) rfl).puts 6 (.slice Px n n) (cs' := #[.int .i64 l.age, .int .i64 l.options, .int .i64 l.typ, .int .i64 l.id, .int .i64 l.adv, .int .i64 l.seq, .slice Px n n, .slice none 0 0, .int .i64 0, .int .i64 0, .int .i64 0]) rfl).puts 7 (.slice Qx m m) (cs' := #[.int .i64 l.age, .int .i64 l.options, .int .i64 l.typ, .int .i64 l.id, .int .i64 l.adv, .int .i64 l.seq, .slice Px n n, .slice Qx m m, .int .i64 0, .int .i64 0, .int .i64 0]) rfl).puts 8 (.int .i64 l.mask) (cs' := #[.int .i64 l.age, .int .i64 l.options, .int .i64 l.typ, .int .i64 l.id, .int .i64 l.adv, .int .i64 l.seq, .slice Px n n, .slice Qx m m, .int .i64 l.mask, .int .i64 0, .int .i64 0]) rfl).puts 9 (.int .i64 l.cost) (cs' := #[.int .i64 l.age, .int .i64 l.options, .int .i64 l.typ, .int .i64 l.id, .int .i64 l.adv, .int .i64 l.seq, .slice Px n n, .slice Qx m m, .int .i64 l.mask, .int .i64 l.cost, .int .i64 0]) rfl).puts 10 (.int .i64 t) (cs' := #[.int .i64 l.age, .int .i64 l.options, .int .i64 l.typ, .int .i64 l.id, .int .i64 l.adv, .int .i64 l.seq, .slice Px n n, .slice Qx m m, .int .i64 l.mask, .int .i64 l.cost, .int .i64 t]) rfl)
  replace HL := HL.only ho (by have := Z0.out; have := Z1.out; have := Z2.out; have := Z3.out; omega)
  replace HX1 := HX1.only ho (by have := Z0.out; have := Z1.out; have := Z2.out; have := Z3.out; omega)
  replace HX3 := HX3.only ho (by have := Z0.out; have := Z1.out; have := Z2.out; have := Z3.out; omega)
  replace HT := HT.only ho (by have := Z0.out; have := Z1.out; have := Z2.out; have := Z3.out; omega)
  replace HB := Lib.hid (Below.only HB.out ho (by have := Z0.out; have := Z1.out; have := Z2.out; have := Z3.out; omega) HB.out.size)
  have Z4 : Hid (U4.heap.size = U3.heap.size) := Lib.hid (by rw [hU4]; simp [World.setCell]); clear ho
  have q_0 := HX2.look 0
  have q_1 := HX2.look 1
  have q_2 := HX2.look 2
  have q_3 := HX2.look 3
  have q_4 := HX2.look 4
  have q_5 := HX2.look 5
  have q_6 := HX2.look 6
  have q_7 := HX2.look 7
  have q_8 := HX2.look 8
  have q_9 := HX2.look 9
  have q_10 := HX2.look 10
  subst hU4 hU3
  exact bodyPost_ret (v := .agg (entCells l t Px Qx n n m m)) (by simp [results, Try.results239, go_sem, q_0, q_1, q_2, q_3, q_4, q_5, q_6, q_7, q_8, q_9, q_10]) rfl ⟨Px, Qx, rfl, HT.two.mono (by have := HB.out.size; have := Z0.out; have := Z1.out; have := Z2.out; have := Z3.out; have := Z4.out; omega) (by have := Z0.out; have := Z1.out; have := Z2.out; have := Z3.out; have := Z4.out; omega) (Nat.le_refl _), HB.out⟩

set_option maxRecDepth 100000 in
set_option maxHeartbeats 3200000 in
theorem toEntryS_any (q : Bool) (lo hi : Nat) (A : Option Addr) (n c : Nat) (ys : List Ent) (w : World) (ha : Rep.ent.Sl q lo hi w A n ys) (hh : hi ≤ w.heap.size) (hn : n ≤ 1048576) (hm : ∀ y ∈ ys, y.l.links.length ≤ 1048576 ∧ y.l.routers.length ≤ 1048576) :
    Calls Try.prog 213 #[.slice A n c] w fun e w' => e = .returned (.slice (some ⟨w.heap.size, 0, none⟩) n n) ∧
      (∃ bs, FRep.ent.Sl w' (some ⟨w.heap.size, 0, none⟩) n ys bs ∧ bs.Nodup ∧ ∀ b ∈ bs, w.heap.size ≤ b ∧ b < w'.heap.size) ∧ Below w.heap.size w w' := by
  obtain ⟨i0, hi0, hz0, hz1, hz2⟩ := info_parts entInfo
  go_enter Try.func213, Try.ntmps213
  go_wp2_with (at_make; refine wpList_make_full _ rfl _ _ 124 rfl w.heap.size 280 i0 _ 11 Try.underlying124 hi0 hz0 hz1 .i64 .i64 _ _ n rfl rfl rfl rfl (by rw [hz2]; omega) (by unfold maxLen; omega) (Nat.le_refl _) ?_; intro w1 hown1 hg1)
  have hb1 := below_of_grown hg1
  clear hg1 hi0 hz0 hz1 hz2
  obtain ⟨B, HB⟩ : ∃ B, Hid (B = w.heap.size) := ⟨_, Lib.hid rfl⟩
  rw [← HB.out] at hown1 hb1 ⊢
  have HM := Lib.hid hm
  clear hm
  go_loopw [4] (fun i wr => ∃ k : Nat, k ≤ n ∧ i = .int .i64 k ∧ ∃ xs : List Value, wr.ownsRow B 280 11 (.slice (some ⟨B, 0, none⟩) n n) n xs ∧ Below B w wr ∧
      Hid (∃ fs : List (List Nat), fs.length = k ∧ fs.flatten.Nodup ∧ (∀ x ∈ fs.flatten, B < x ∧ x < wr.heap.size) ∧ ∀ (j : Nat) (x : Ent) (f : List Nat), ys[j]? = some x → fs[j]? = some f → ∃ cs, FRep.ent.rel wr cs x f ∧ ∀ i u, cs[i]? = some u → xs[j * 11 + i]? = some u))
    (fun i _ => n - (intOf i).toNat)
  case atStart => exact ⟨0, Nat.zero_le _, rfl, _, hown1, hb1, [], rfl, List.nodup_nil, fun x hx => absurd hx List.not_mem_nil, fun j x f _ hf => absurd hf (by simp)⟩
  case round =>
    obtain ⟨k, hk, rfl, xs, hown, hbw, HS⟩ := hrel
    by_cases hlt : k < n
    · obtain ⟨b, o, y, E, F, m, c1, m', d1, rfl, hya, hyl, a0, a1, a2, a3, a4, a5, a6, a7, a8, a9, a10⟩ := Rep.ent_at (ha.below (by rw [← HB.out]; exact hbw) hh) hlt
      have hlt' : (k : Int) < n := by omega
      have HYA := Lib.hid hya
      have hym := HM.out y (List.mem_of_getElem? hya)
      have hml : y.l.links.length = m := hyl.links.1
      have hml' : y.l.routers.length = m' := hyl.routers.1
      rw [hml, hml'] at hym
      have hhr : hi ≤ wr.heap.size := Nat.le_trans hh (by have := hbw.size; omega)
      have HY := Lib.hid (show LsaAt q lo hi wr E m F m' y.l from ⟨hyl, hhr⟩)
      have hBlt : B < wr.heap.size := (World.ownsRow.lt hown B rfl).2
      clear hya hyl hml hml'
      go_wp2_with fail
      refine (toEntry_any y.l q lo hi E F m c1 m' d1 y.at_ _ HY.out hym.1 hym.2).mono ?_
      rintro e w2 ⟨Px, Qx, rfl, ht, hb2⟩
      clear a0 a1 a2 a3 a4 a5 a6 a7 a8 a9 a10
      have hown2 : w2.ownsRow B 280 11 (.slice (some ⟨B, 0, none⟩) n n) n xs := World.ownsRow.kept hown (grownBy_of_below hb2 none) (by simp [Value.ownBlock])
      have hbw2 : Below B w w2 := hbw.trans (hb2.mono (Nat.le_of_lt hBlt))
      have hl : xs.length = n * 11 := by simpa using hown2.1
      obtain ⟨v0, d0⟩ := own_some hown2 (j := k * 11) (by omega)
      have f0 := World.ownsRow.frozenAt hown2 (k * 11)
      obtain ⟨v1, d1⟩ := own_some hown2 (j := k * 11 + 1) (by omega)
      have f1 := World.ownsRow.frozenAt hown2 (k * 11 + 1)
      obtain ⟨v2, d2⟩ := own_some hown2 (j := k * 11 + 2) (by omega)
      have f2 := World.ownsRow.frozenAt hown2 (k * 11 + 2)
      obtain ⟨v3, d3⟩ := own_some hown2 (j := k * 11 + 3) (by omega)
      have f3 := World.ownsRow.frozenAt hown2 (k * 11 + 3)
      obtain ⟨v4, d4⟩ := own_some hown2 (j := k * 11 + 4) (by omega)
      have f4 := World.ownsRow.frozenAt hown2 (k * 11 + 4)
      obtain ⟨v5, d5⟩ := own_some hown2 (j := k * 11 + 5) (by omega)
      have f5 := World.ownsRow.frozenAt hown2 (k * 11 + 5)
      obtain ⟨v6, d6⟩ := own_some hown2 (j := k * 11 + 6) (by omega)
      have f6 := World.ownsRow.frozenAt hown2 (k * 11 + 6)
      obtain ⟨v7, d7⟩ := own_some hown2 (j := k * 11 + 7) (by omega)
      have f7 := World.ownsRow.frozenAt hown2 (k * 11 + 7)
      obtain ⟨v8, d8⟩ := own_some hown2 (j := k * 11 + 8) (by omega)
      have f8 := World.ownsRow.frozenAt hown2 (k * 11 + 8)
      obtain ⟨v9, d9⟩ := own_some hown2 (j := k * 11 + 9) (by omega)
      have f9 := World.ownsRow.frozenAt hown2 (k * 11 + 9)
      obtain ⟨v10, d10⟩ := own_some hown2 (j := k * 11 + 10) (by omega)
      have f10 := World.ownsRow.frozenAt hown2 (k * 11 + 10)
      have HO := Lib.hid (puts_own (entCells y.l y.at_ Px Qx m m m' m').toList (k * 11) hown2)
      have HL := Lib.hid hl
      have HBW := Lib.hid hbw2
      have HN := Lib.hid ht.feet
      have HB2 := Lib.hid hb2
      clear hl hbw2 hown hown2 hbw hb2 ht
      go_wp2
      go_roundw
      case rel =>
        obtain ⟨U, hU⟩ : ∃ U : World, U = (((((((((((w2.setCell ⟨B, k * 11, none⟩ (.int .i64 y.l.age)).setCell ⟨B, k * 11 + 1, none⟩ (.int .i64 y.l.options)).setCell ⟨B, k * 11 + 2, none⟩ (.int .i64 y.l.typ)).setCell ⟨B, k * 11 + 3, none⟩ (.int .i64 y.l.id)).setCell ⟨B, k * 11 + 4, none⟩ (.int .i64 y.l.adv)).setCell ⟨B, k * 11 + 5, none⟩ (.int .i64 y.l.seq)).setCell ⟨B, k * 11 + 6, none⟩ (.slice Px m m)).setCell ⟨B, k * 11 + 7, none⟩ (.slice Qx m' m')).setCell ⟨B, k * 11 + 8, none⟩ (.int .i64 y.l.mask)).setCell ⟨B, k * 11 + 9, none⟩ (.int .i64 y.l.cost)).setCell ⟨B, k * 11 + 10, none⟩ (.int .i64 y.at_)) := ⟨_, rfl⟩
        have hP : U = puts w2 B (k * 11) (entCells y.l y.at_ Px Qx m m m' m').toList := hU.trans rfl
        have hsz : U.heap.size = w2.heap.size := by rw [hP]; exact puts_size _ _ _
        have ho : Only B (B + 1) w2 U := by rw [hP]; exact puts_only _ _ _
        clear hP
        obtain ⟨fs, hfl, hfd, hfr, hfs⟩ := HS.out
        obtain ⟨f, g, hf, hg, hfd2, hfb⟩ := HN.out
        have hl := HL.out
        have hb2 := HB2.out
        have hszb := hb2.size
        refine ⟨k + 1, by omega, by go_num, _, HO.out, ?_, ?_⟩
        · rw [← hU]; exact HBW.out.trans (ho.below (Nat.le_refl _) (by have := HBW.out.size; have := hBlt; omega))
        refine ⟨fs ++ [f ++ g], by simp [hfl], ?_, ?_, ?_⟩
        · rw [flat_snoc, List.nodup_append]
          refine ⟨hfd, hfd2, fun x hx y hy e => ?_⟩
          have h1 := hfr x hx
          have h2 := hfb y hy
          omega
        · intro x hx
          rw [← hU, hsz]
          rw [flat_snoc, List.mem_append] at hx
          rcases hx with hx | hx
          · have := hfr x hx; omega
          · have := hfb x hx; omega
        · intro j x g' hx hg'
          rw [← hU]
          by_cases e : j = k
          · subst e
            have hax : x = y := by have := HYA.out; rw [hx] at this; injection this
            subst hax
            have hgf : g' = f ++ g := by rw [List.getElem?_append_right (by omega)] at hg'; simp [hfl] at hg'; exact hg'.symm
            subst hgf
            have hkp : ∀ z ∈ f ++ g, U.heap[z]? = w2.heap[z]? := fun z hz => by have := hfb z hz; exact ho.block z (by omega) (.inr (by omega))
            refine ⟨(entCells x.l x.at_ Px Qx m m m' m').toList, ⟨_, _, _, _, _, _, f, g, rfl, rfl, hf.keep fun z hz => hkp z (List.mem_append_left _ hz), hg.keep fun z hz => hkp z (List.mem_append_right _ hz)⟩, fun i u hi => ?_⟩
            have hi11 : i < 11 := (List.getElem?_eq_some_iff.1 hi).1
            rw [setL_get _ _ _ _ (by simp; omega), if_pos (by simp; omega), show j * 11 + i - j * 11 = i by omega]
            exact hi
          · have hjk : j < k := by
              have := (List.getElem?_eq_some_iff.1 hg').1
              simp [hfl] at this; omega
            rw [List.getElem?_append_left (by omega)] at hg'
            obtain ⟨cs, e1, e2⟩ := hfs j x g' hx hg'
            refine ⟨cs, FRep.ent.keep e1 fun z hz => ?_, fun i u hi => ?_⟩
            · have h1 := hfr z (mem_flat_of_get hg' hz)
              exact (ho.block z (by omega) (.inr (by omega))).trans (hb2.block z (by omega))
            · have hi11 : i < 11 := by have h1 := FRep.ent.len e1; have h2 := (List.getElem?_eq_some_iff.1 hi).1; rw [h1] at h2; exact h2
              rw [setL_get _ _ _ _ (by simp; omega), if_neg (by simp; omega)]
              exact e2 i u hi
      case measure => simp [intOf]; omega
    · have HO := Lib.hid hown
      have hlen := ha.1
      clear hown
      go_wp2
      go_ret
      obtain rfl := HB.out
      have hlt2 : w.heap.size < wr.heap.size := (World.ownsRow.lt HO.out w.heap.size rfl).2
      obtain ⟨fs, hfl, hfd, hfr, hfs⟩ := HS.out
      have hkn : k = n := by omega
      subst hkn
      refine ⟨rfl, ?_, hbw⟩
      rcases Nat.eq_zero_or_pos k with h0 | h0
      · subst h0
        exact ⟨[], ⟨hlen, .inl ⟨rfl, rfl⟩⟩, List.nodup_nil, fun x hx => by cases hx⟩
      · refine ⟨w.heap.size :: fs.flatten, ⟨hlen, .inr ⟨h0, w.heap.size, fs, rfl, rfl, hfl, fun i => World.ownsRow.frozenAt HO.out i, fun i y f hy hf => ?_⟩⟩, List.nodup_cons.2 ⟨fun hx => ?_, hfd⟩, fun x hx => ?_⟩
        · obtain ⟨cs, e1, e2⟩ := hfs i y f hy hf
          refine ⟨cs, e1, fun j u hj => ?_⟩
          have hin : i < k := by have := (List.getElem?_eq_some_iff.1 hf).1; omega
          have hj11 : j < 11 := by have h1 := FRep.ent.len e1; have h2 := (List.getElem?_eq_some_iff.1 hj).1; rw [h1] at h2; exact h2
          show wr.cell? ⟨w.heap.size, i * 11 + j, none⟩ = some u
          rw [World.ownsRow.cellAt HO.out (i * 11 + j) (by omega), e2 j u hj]
        · have := hfr _ hx; omega
        · rcases List.mem_cons.1 hx with rfl | hx
          · omega
          · have := hfr _ hx; omega

set_option maxRecDepth 100000 in
set_option maxHeartbeats 1600000 in
theorem toBase_any (q : Bool) (lo hi : Nat) (A : Option Addr) (n c : Nat) (ys : List Ent) (now : Int) (w : World) (ha : Rep.ent.Sl q lo hi w A n ys) (hh : hi ≤ w.heap.size) (hn : n ≤ 1048576) (hm : ∀ y ∈ ys, y.l.links.length ≤ 1048576 ∧ y.l.routers.length ≤ 1048576) :
    Calls Try.prog 162 #[.agg #[.int .i64 now, .slice A n c]] w fun e w' => ∃ P, e = .returned (.agg #[.int .i64 now, .slice P n n]) ∧ Kept w.heap.size w'.heap.size (FRepK FRep.ent w.heap.size w'.heap.size P n ys) w' ∧ Below w.heap.size w w' := by
  have HB := Lib.hid (Below.refl w.heap.size w)
  have HA := Rep.Sl.kept ha hh
  have HM := Lib.hid hm
  clear ha hm
  go_enter Try.func162, Try.ntmps162
  go_wp2_with fail
  refine Calls.name ?_
  intro U1 hU1
  have hb : Below w.heap.size w U1 := by rw [hU1]; exact ((((Below.refl _ _).alloc (Nat.le_refl _) _).alloc (by simp <;> omega) _).alloc (by simp <;> omega) _)
  have zz : Hid (w.heap.size + 3 = U1.heap.size) := Lib.hid (by rw [hU1]; simp)
  have HX1 : Kept w.heap.size (w.heap.size + 1) (BoxK w.heap.size 115 #[.int .i64 now, .slice A n c]) U1 := by rw [hU1]; exact Kept.box (((Box.made_at _ _ _ rfl).over _).over _)
  have HX2 : Kept (w.heap.size + 1) (w.heap.size + 1 + 1) (BoxK (w.heap.size + 1) 126 #[.int .i64 0, .slice none 0 0]) U1 := by rw [hU1]; exact Kept.box ((Box.made_at _ _ _ (by simp <;> omega)).over _)
  have HX3 : Kept (w.heap.size + 1 + 1) (w.heap.size + 1 + 1 + 1) (BoxK (w.heap.size + 1 + 1) 126 #[.int .i64 now, .slice none 0 0]) U1 := by rw [hU1]; exact Kept.box (Box.made_at _ _ _ (by simp <;> omega))
  replace HA := HA.below hb
  replace HB := Lib.hid (below_step HB.out hb)
  clear hb
  have Z1 := zz; clear zz
  clear hU1
  refine (toEntryS_any q lo hi A n c ys _ HA.sl HA.le hn HM.out).mono ?_
  rintro e w2 ⟨rfl, ⟨bs, hs, hd, hin⟩, hb⟩
  have Z2 := Lib.hid hb.size
  replace HA := HA.below hb
  replace HX1 := HX1.below hb
  replace HX2 := HX2.below hb
  replace HX3 := HX3.below hb
  replace HB := Lib.hid (below_step HB.out hb)
  clear hb
  have HS := FRepK.kept ⟨bs, hs, hd, hin⟩ (Nat.le_refl _); clear hs hd hin
  have c2_0 := HX2.look 0
  have c2_1 := HX2.look 1
  have c2_2 := HX3.look 0
  have c2_3 := HX3.look 1
  have f2_0 := HX2.free 0
  have f2_1 := HX2.free 1
  have f2_2 := HX3.free 1
  have l2_0 := HX1.bx.lt
  have l2_1 := HX2.bx.lt
  have l2_2 := HX3.bx.lt
  have n2_0_1 : ¬ (w.heap.size + 1) = (w.heap.size + 1 + 1) := (by have := Z1.out; have := Z2.out; omega)
  have m2_0_1 : ¬ (w.heap.size + 1 + 1) = (w.heap.size + 1) := (by have := Z1.out; have := Z2.out; omega)
  go_wp2
  clear c2_0 c2_1 c2_2 c2_3 f2_0 f2_1 f2_2 l2_0 l2_1 l2_2 n2_0_1 m2_0_1
  obtain ⟨U3, hU3⟩ : ∃ W : World, W = (w2.setCell ⟨w.heap.size + 1 + 1, 1, none⟩ (.slice (some ⟨U1.heap.size, 0, none⟩) n n)) := ⟨_, rfl⟩
  have ho : Only (w.heap.size + 1 + 1) (w.heap.size + 1 + 1 + 1) w2 U3 := by rw [hU3]; exact ((Only.refl _ _ _).set (p := ⟨w.heap.size + 1 + 1, 1, none⟩) (Nat.le_refl _) (Nat.lt_succ_self _) _)
  replace HX3 : Kept (w.heap.size + 1 + 1) (w.heap.size + 1 + 1 + 1) (BoxK (w.heap.size + 1 + 1) 126 #[.int .i64 now, .slice (some ⟨U1.heap.size, 0, none⟩) n n]) U3 := by rw [hU3]; exact Kept.box (HX3.bx.puts 1 (.slice (some ⟨U1.heap.size, 0, none⟩) n n) (cs' := #[.int .i64 now, .slice (some ⟨U1.heap.size, 0, none⟩) n n]) rfl)
  replace HA := HA.only ho (by have := Z1.out; have := Z2.out; omega)
  replace HX1 := HX1.only ho (by have := Z1.out; have := Z2.out; omega)
  replace HX2 := HX2.only ho (by have := Z1.out; have := Z2.out; omega)
  replace HS := HS.only ho (by have := Z1.out; have := Z2.out; omega)
  replace HB := Lib.hid (Below.only HB.out ho (by have := Z1.out; have := Z2.out; omega) HB.out.size)
  have Z3 : Hid (U3.heap.size = w2.heap.size) := Lib.hid (by rw [hU3]; simp [World.setCell]); clear ho
  obtain ⟨U4, hU4⟩ : ∃ W : World, W = ((U3.setCell ⟨w.heap.size + 1, 0, none⟩ (.int .i64 now)).setCell ⟨w.heap.size + 1, 1, none⟩ (.slice (some ⟨U1.heap.size, 0, none⟩) n n)) := ⟨_, rfl⟩
  have ho : Only (w.heap.size + 1) (w.heap.size + 1 + 1) U3 U4 := by rw [hU4]; exact (((Only.refl _ _ _).set (p := ⟨w.heap.size + 1, 0, none⟩) (Nat.le_refl _) (Nat.lt_succ_self _) _).set (p := ⟨w.heap.size + 1, 1, none⟩) (Nat.le_refl _) (Nat.lt_succ_self _) _)
  replace HX2 : Kept (w.heap.size + 1) (w.heap.size + 1 + 1) (BoxK (w.heap.size + 1) 126 #[.int .i64 now, .slice (some ⟨U1.heap.size, 0, none⟩) n n]) U4 := by rw [hU4]; exact Kept.box ((HX2.bx.puts 0 (.int .i64 now) (cs' := #[.int .i64 now, .slice none 0 0]) rfl).puts 1 (.slice (some ⟨U1.heap.size, 0, none⟩) n n) (cs' := #[.int .i64 now, .slice (some ⟨U1.heap.size, 0, none⟩) n n]) rfl)
  replace HA := HA.only ho (by have := Z1.out; have := Z2.out; have := Z3.out; omega)
  replace HX1 := HX1.only ho (by have := Z1.out; have := Z2.out; have := Z3.out; omega)
  replace HX3 := HX3.only ho (by have := Z1.out; have := Z2.out; have := Z3.out; omega)
  replace HS := HS.only ho (by have := Z1.out; have := Z2.out; have := Z3.out; omega)
  replace HB := Lib.hid (Below.only HB.out ho (by have := Z1.out; have := Z2.out; have := Z3.out; omega) HB.out.size)
  have Z4 : Hid (U4.heap.size = U3.heap.size) := Lib.hid (by rw [hU4]; simp [World.setCell]); clear ho
  have q_0 := HX2.look 0
  have q_1 := HX2.look 1
  subst hU4 hU3
  exact bodyPost_ret (v := .agg #[.int .i64 now, .slice (some ⟨U1.heap.size, 0, none⟩) n n]) (by simp [results, Try.results162, go_sem, q_0, q_1]) rfl ⟨_, rfl, FRepK.kept (HS.out.mono (by have := HB.out.size; have := Z1.out; have := Z2.out; omega) (by have := HS.le; have := Z1.out; have := Z2.out; omega)) (Nat.le_refl _), HB.out⟩


end Go.Proofs.Ytiffhjofabaflaa
