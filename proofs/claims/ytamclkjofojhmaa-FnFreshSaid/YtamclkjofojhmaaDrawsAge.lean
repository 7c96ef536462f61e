/-
  The walks of the draws of FnAges, of FlushLsa and NextSeq. No statement is proved here.
-/
import Derived.Test.YtamclkjofojhmaaL2Bent
namespace Go.Proofs.Ytamclkjofojhmaa
open Go.RowKit
set_option linter.unusedVariables false

theorem BIn.hold {w : World} {A : Option Addr} {n : Nat} {zs : List Int} (h : BIn w A n zs) : Kept 0 w.heap.size (fun w => BIn w A n zs) w :=
  ⟨Nat.le_refl _, fun w' k => ⟨h.1, fun hn => by
    obtain ⟨b, o, e, hc⟩ := h.2 hn
    have hb : b < w.heap.size := World.block_lt_of_cell? w _ (hc 0 hn)
    exact ⟨b, o, e, fun i hi => (World.cell?_of_block (k b (Nat.zero_le _) hb)).trans (hc i hi)⟩⟩⟩

set_option maxRecDepth 100000 in
set_option maxHeartbeats 6400000 in
theorem drawFlush_any (A0 : Option Addr) (n0 c0 : Nat) (cs : List Int) (w : World) (ha : BIn w A0 n0 cs) (hb : Bytes cs) (hn : n0 ≤ 1048576) :
    Calls Try.prog 37 #[.slice A0 n0 c0] w (OneOut w) := by
  have HB := Lib.hid (Below.refl w.heap.size w)
  have HD := ha.hold
  have HBY := Lib.hid hb
  clear ha hb
  go_enter Try.func37, Try.ntmps37
  go_wp2_with fail
  refine Calls.name ?_
  intro U1 hU1
  have hb : Below w.heap.size w U1 := by rw [hU1]; exact ((Below.refl _ _).alloc (Nat.le_refl _) _)
  have zz : Hid (w.heap.size + 1 = U1.heap.size) := Lib.hid (by rw [hU1]; simp)
  have HX1 : Kept w.heap.size (w.heap.size + 1) (BoxK w.heap.size 29 #[.int .i64 0, .int .i64 0, .int .i64 0, .int .i64 0, .int .i64 0, .int .i64 0, .slice none 0 0, .slice none 0 0, .int .i64 0, .int .i64 0]) U1 := by rw [hU1]; exact Kept.box (Box.made_at _ _ _ rfl)
  replace HD := HD.below hb
  replace HB := Lib.hid (below_step HB.out hb)
  clear hb
  have Z1 := zz; clear zz
  clear hU1
  refine (dSource A0 n0 c0 cs _ HD.out HBY.out hn).mono ?_
  rintro e w2 ⟨rfl, hs, hb⟩
  have Z2 := Lib.hid hb.size
  have Y1 := Lib.hid (And.intro Z1.out Z2.out); clear Z1 Z2
  replace HD := HD.below hb
  replace HX1 := HX1.below hb
  replace HB := Lib.hid (below_step HB.out hb)
  clear hb
  have HS := hs; clear hs
  have Z3 := Lib.hid HS.lt
  have Y2 := Lib.hid (And.intro Y1.out Z3.out); clear Y1 Z3
  have l2_0 := HX1.bx.lt
  go_wp2_with fail
  clear l2_0
  refine (l2Bent_any _ A0 n0 c0 cs 0 _ HS.here (by omega)).mono ?_
  rintro e w3 ⟨l, A, B, n, c, m, d, rfl, hl, hn, hm, hs⟩
  have ho := hs.fr
  have Z4 := Lib.hid ho.size
  have Y3 := Lib.hid (And.intro Y2.out Z4.out); clear Y2 Z4
  replace HD := HD.only ho (by have := Y3.out; omega)
  replace HX1 := HX1.only ho (by have := Y3.out; omega)
  replace HB := Lib.hid (Below.only HB.out ho (by have := Y3.out; omega) HB.out.size)
  replace HS := HS.next hs; clear ho hs
  have HA := hl.kept; clear hl
  clear HS
  have c3_0 := HX1.look 0
  have c3_1 := HX1.look 1
  have c3_2 := HX1.look 2
  have c3_3 := HX1.look 3
  have c3_4 := HX1.look 4
  have c3_5 := HX1.look 5
  have c3_6 := HX1.look 6
  have c3_7 := HX1.look 7
  have c3_8 := HX1.look 8
  have c3_9 := HX1.look 9
  have f3_0 := HX1.free 0
  have f3_1 := HX1.free 1
  have f3_2 := HX1.free 2
  have f3_3 := HX1.free 3
  have f3_4 := HX1.free 4
  have f3_5 := HX1.free 5
  have f3_6 := HX1.free 6
  have f3_7 := HX1.free 7
  have f3_8 := HX1.free 8
  have f3_9 := HX1.free 9
  have l3_0 := HX1.bx.lt
  go_wp2
  clear c3_0 c3_1 c3_2 c3_3 c3_4 c3_5 c3_6 c3_7 c3_8 c3_9 f3_0 f3_1 f3_2 f3_3 f3_4 f3_5 f3_6 f3_7 f3_8 f3_9 l3_0
  obtain ⟨U4, hU4⟩ : ∃ W : World, W = ((((((((((w3.setCell ⟨w.heap.size, 0, none⟩ (.int .i64 l.age)).setCell ⟨w.heap.size, 1, none⟩ (.int .i64 l.options)).setCell ⟨w.heap.size, 2, none⟩ (.int .i64 l.typ)).setCell ⟨w.heap.size, 3, none⟩ (.int .i64 l.id)).setCell ⟨w.heap.size, 4, none⟩ (.int .i64 l.adv)).setCell ⟨w.heap.size, 5, none⟩ (.int .i64 l.seq)).setCell ⟨w.heap.size, 6, none⟩ (.slice A n c)).setCell ⟨w.heap.size, 7, none⟩ (.slice B m d)).setCell ⟨w.heap.size, 8, none⟩ (.int .i64 l.mask)).setCell ⟨w.heap.size, 9, none⟩ (.int .i64 l.cost)) := ⟨_, rfl⟩
  have ho : Only w.heap.size (w.heap.size + 1) w3 U4 := by rw [hU4]; exact (((((((((((Only.refl _ _ _).set (p := ⟨w.heap.size, 0, none⟩) (Nat.le_refl _) (Nat.lt_succ_self _) _).set (p := ⟨w.heap.size, 1, none⟩) (Nat.le_refl _) (Nat.lt_succ_self _) _).set (p := ⟨w.heap.size, 2, none⟩) (Nat.le_refl _) (Nat.lt_succ_self _) _).set (p := ⟨w.heap.size, 3, none⟩) (Nat.le_refl _) (Nat.lt_succ_self _) _).set (p := ⟨w.heap.size, 4, none⟩) (Nat.le_refl _) (Nat.lt_succ_self _) _).set (p := ⟨w.heap.size, 5, none⟩) (Nat.le_refl _) (Nat.lt_succ_self _) _).set (p := ⟨w.heap.size, 6, none⟩) (Nat.le_refl _) (Nat.lt_succ_self _) _).set (p := ⟨w.heap.size, 7, none⟩) (Nat.le_refl _) (Nat.lt_succ_self _) _).set (p := ⟨w.heap.size, 8, none⟩) (Nat.le_refl _) (Nat.lt_succ_self _) _).set (p := ⟨w.heap.size, 9, none⟩) (Nat.le_refl _) (Nat.lt_succ_self _) _)
  replace HX1 : Kept w.heap.size (w.heap.size + 1) (BoxK w.heap.size 29 #[.int .i64 l.age, .int .i64 l.options, .int .i64 l.typ, .int .i64 l.id, .int .i64 l.adv, .int .i64 l.seq, .slice A n c, .slice B m d, .int .i64 l.mask, .int .i64 l.cost]) U4 := by rw [hU4]; exact Kept.box ((((((((((HX1.bx.puts 0 (.int .i64 l.age) (cs' := #[.int .i64 l.age, .int .i64 0, .int .i64 0, .int .i64 0, .int .i64 0, .int .i64 0, .slice none 0 0, .slice none 0 0, .int .i64 0, .int .i64 0]) rfl).puts 1 (.int .i64 l.options) (cs' := #[.int .i64 l.age, .int .i64 l.options, .int .i64 0, .int .i64 0, .int .i64 0, .int .i64 0, .slice none 0 0, .slice none 0 0, .int .i64 0, .int .i64 0]) rfl).puts 2 (.int .i64 l.typ) (cs' := #[.int .i64 l.age, .int .i64 l.options, .int .i64 l.typ, .int .i64 0, .int .i64 0, .int .i64 0, .slice none 0 0, .slice none 0 0, .int .i64 0, .int .i64 0]) rfl).puts 3 (.int .i64 l.id) (cs' := #[.int .i64 l.age, .int .i64 l.options, .int .i64 l.typ, .int .i64 l.id, .int .i64 0, .int .i64 0, .slice none 0 0, .slice none 0 0, .int .i64 0, .int .i64 0]) rfl).puts 4 (.int .i64 l.adv) (cs' := #[.int .i64 l.age, .int .i64 l.options, .int .i64 l.typ, .int .i64 l.id, .int .i64 l.adv, .int .i64 0, .slice none 0 0, .slice none 0 0, .int .i64 0, .int .i64 0]) rfl).puts 5 (.int .i64 l.seq) (cs' := #[.int .i64 l.age, .int .i64 l.options, .int .i64 l.typ, .int .i64 l.id, .int .i64 l.adv, .int .i64 l.seq, .slice none 0 0, .slice none 0 0, .int .i64 0, .int .i64 0]) rfl).puts 6 (.slice A n c) (cs' := #[.int .i64 l.age, .int .i64 l.options, .int .i64 l.typ, .int .i64 l.id, .int .i64 l.adv, .int .i64 l.seq, .slice A n c, .slice none 0 0, .int .i64 0, .int .i64 0]) rfl).puts 7 (.slice B m d) (cs' := #[.int .i64 l.age, .int .i64 l.options, .int .i64 l.typ, .int .i64 l.id, .int .i64 l.adv, .int .i64 l.seq, .slice A n c, .slice B m d, .int .i64 0, .int .i64 0]) rfl).puts 8 (.int .i64 l.mask) (cs' := #[.int .i64 l.age, .int .i64 l.options, .int .i64 l.typ, .int .i64 l.id, .int .i64 l.adv, .int .i64 l.seq, .slice A n c, .slice B m d, .int .i64 l.mask, .int .i64 0]) rfl).puts 9 (.int .i64 l.cost) (cs' := #[.int .i64 l.age, .int .i64 l.options, .int .i64 l.typ, .int .i64 l.id, .int .i64 l.adv, .int .i64 l.seq, .slice A n c, .slice B m d, .int .i64 l.mask, .int .i64 l.cost]) rfl)
  replace HD := HD.only ho (by have := Y3.out; omega)
  replace HA := HA.only ho (by have := Y3.out; omega)
  replace HB := Lib.hid (Below.only HB.out ho (by have := Y3.out; omega) HB.out.size)
  have Z5 : Hid (U4.heap.size = w3.heap.size) := Lib.hid (by rw [hU4]; simp [World.setCell]); clear ho
  have Y4 := Lib.hid (And.intro Y3.out Z5.out); clear Y3 Z5
  have q_0 := HX1.look 0
  have q_1 := HX1.look 1
  have q_2 := HX1.look 2
  have q_3 := HX1.look 3
  have q_4 := HX1.look 4
  have q_5 := HX1.look 5
  have q_6 := HX1.look 6
  have q_7 := HX1.look 7
  have q_8 := HX1.look 8
  have q_9 := HX1.look 9
  have fin : ∀ e, e = Ending.returned (.agg (lsaCells ⟨l.age, l.options, l.typ, l.id, l.adv, l.seq, l.links, l.routers, l.mask, l.cost⟩ A B n c m d)) → (OneOut w e U4) := by rintro _ rfl; exact ⟨_, _, _, _, _, _, _, rfl, LsaAt.wide (lo' := w.heap.size) (hi' := U4.heap.size) HA.lsa rfl rfl (by have := Y4.out; omega) (by have := Y4.out; omega) (Nat.le_refl _), by omega, by omega, HB.out⟩
  subst hU4
  exact bodyPost_ret (v := .agg (lsaCells ⟨l.age, l.options, l.typ, l.id, l.adv, l.seq, l.links, l.routers, l.mask, l.cost⟩ A B n c m d)) (by simp [results, Try.results37, go_sem, lsaCells, q_0, q_1, q_2, q_3, q_4, q_5, q_6, q_7, q_8, q_9]) rfl (fin _ rfl)

set_option maxRecDepth 100000 in
set_option maxHeartbeats 6400000 in
theorem drawEncode_any (A0 : Option Addr) (n0 c0 : Nat) (cs : List Int) (w : World) (ha : BIn w A0 n0 cs) (hb : Bytes cs) (hn : n0 ≤ 1048576) :
    Calls Try.prog 13 #[.slice A0 n0 c0] w (OneOut w) := by
  have HB := Lib.hid (Below.refl w.heap.size w)
  have HD := ha.hold
  have HBY := Lib.hid hb
  clear ha hb
  go_enter Try.func13, Try.ntmps13
  go_wp2_with fail
  refine Calls.name ?_
  intro U1 hU1
  have hb : Below w.heap.size w U1 := by rw [hU1]; exact ((Below.refl _ _).alloc (Nat.le_refl _) _)
  have zz : Hid (w.heap.size + 1 = U1.heap.size) := Lib.hid (by rw [hU1]; simp)
  have HX1 : Kept w.heap.size (w.heap.size + 1) (BoxK w.heap.size 29 #[.int .i64 0, .int .i64 0, .int .i64 0, .int .i64 0, .int .i64 0, .int .i64 0, .slice none 0 0, .slice none 0 0, .int .i64 0, .int .i64 0]) U1 := by rw [hU1]; exact Kept.box (Box.made_at _ _ _ rfl)
  replace HD := HD.below hb
  replace HB := Lib.hid (below_step HB.out hb)
  clear hb
  have Z1 := zz; clear zz
  clear hU1
  refine (dSource A0 n0 c0 cs _ HD.out HBY.out hn).mono ?_
  rintro e w2 ⟨rfl, hs, hb⟩
  have Z2 := Lib.hid hb.size
  have Y1 := Lib.hid (And.intro Z1.out Z2.out); clear Z1 Z2
  replace HD := HD.below hb
  replace HX1 := HX1.below hb
  replace HB := Lib.hid (below_step HB.out hb)
  clear hb
  have HS := hs; clear hs
  have Z3 := Lib.hid HS.lt
  have Y2 := Lib.hid (And.intro Y1.out Z3.out); clear Y1 Z3
  have l2_0 := HX1.bx.lt
  go_wp2_with fail
  clear l2_0
  refine (l2Bent_any _ A0 n0 c0 cs 0 _ HS.here (by omega)).mono ?_
  rintro e w3 ⟨l, A, B, n, c, m, d, rfl, hl, hn, hm, hs⟩
  have ho := hs.fr
  have Z4 := Lib.hid ho.size
  have Y3 := Lib.hid (And.intro Y2.out Z4.out); clear Y2 Z4
  replace HD := HD.only ho (by have := Y3.out; omega)
  replace HX1 := HX1.only ho (by have := Y3.out; omega)
  replace HB := Lib.hid (Below.only HB.out ho (by have := Y3.out; omega) HB.out.size)
  replace HS := HS.next hs; clear ho hs
  have HA := hl.kept; clear hl
  clear HS
  have c3_0 := HX1.look 0
  have c3_1 := HX1.look 1
  have c3_2 := HX1.look 2
  have c3_3 := HX1.look 3
  have c3_4 := HX1.look 4
  have c3_5 := HX1.look 5
  have c3_6 := HX1.look 6
  have c3_7 := HX1.look 7
  have c3_8 := HX1.look 8
  have c3_9 := HX1.look 9
  have f3_0 := HX1.free 0
  have f3_1 := HX1.free 1
  have f3_2 := HX1.free 2
  have f3_3 := HX1.free 3
  have f3_4 := HX1.free 4
  have f3_5 := HX1.free 5
  have f3_6 := HX1.free 6
  have f3_7 := HX1.free 7
  have f3_8 := HX1.free 8
  have f3_9 := HX1.free 9
  have l3_0 := HX1.bx.lt
  go_wp2
  clear c3_0 c3_1 c3_2 c3_3 c3_4 c3_5 c3_6 c3_7 c3_8 c3_9 f3_0 f3_1 f3_2 f3_3 f3_4 f3_5 f3_6 f3_7 f3_8 f3_9 l3_0
  obtain ⟨U4, hU4⟩ : ∃ W : World, W = ((((((((((w3.setCell ⟨w.heap.size, 0, none⟩ (.int .i64 l.age)).setCell ⟨w.heap.size, 1, none⟩ (.int .i64 l.options)).setCell ⟨w.heap.size, 2, none⟩ (.int .i64 l.typ)).setCell ⟨w.heap.size, 3, none⟩ (.int .i64 l.id)).setCell ⟨w.heap.size, 4, none⟩ (.int .i64 l.adv)).setCell ⟨w.heap.size, 5, none⟩ (.int .i64 l.seq)).setCell ⟨w.heap.size, 6, none⟩ (.slice A n c)).setCell ⟨w.heap.size, 7, none⟩ (.slice B m d)).setCell ⟨w.heap.size, 8, none⟩ (.int .i64 l.mask)).setCell ⟨w.heap.size, 9, none⟩ (.int .i64 l.cost)) := ⟨_, rfl⟩
  have ho : Only w.heap.size (w.heap.size + 1) w3 U4 := by rw [hU4]; exact (((((((((((Only.refl _ _ _).set (p := ⟨w.heap.size, 0, none⟩) (Nat.le_refl _) (Nat.lt_succ_self _) _).set (p := ⟨w.heap.size, 1, none⟩) (Nat.le_refl _) (Nat.lt_succ_self _) _).set (p := ⟨w.heap.size, 2, none⟩) (Nat.le_refl _) (Nat.lt_succ_self _) _).set (p := ⟨w.heap.size, 3, none⟩) (Nat.le_refl _) (Nat.lt_succ_self _) _).set (p := ⟨w.heap.size, 4, none⟩) (Nat.le_refl _) (Nat.lt_succ_self _) _).set (p := ⟨w.heap.size, 5, none⟩) (Nat.le_refl _) (Nat.lt_succ_self _) _).set (p := ⟨w.heap.size, 6, none⟩) (Nat.le_refl _) (Nat.lt_succ_self _) _).set (p := ⟨w.heap.size, 7, none⟩) (Nat.le_refl _) (Nat.lt_succ_self _) _).set (p := ⟨w.heap.size, 8, none⟩) (Nat.le_refl _) (Nat.lt_succ_self _) _).set (p := ⟨w.heap.size, 9, none⟩) (Nat.le_refl _) (Nat.lt_succ_self _) _)
  replace HX1 : Kept w.heap.size (w.heap.size + 1) (BoxK w.heap.size 29 #[.int .i64 l.age, .int .i64 l.options, .int .i64 l.typ, .int .i64 l.id, .int .i64 l.adv, .int .i64 l.seq, .slice A n c, .slice B m d, .int .i64 l.mask, .int .i64 l.cost]) U4 := by rw [hU4]; exact Kept.box ((((((((((HX1.bx.puts 0 (.int .i64 l.age) (cs' := #[.int .i64 l.age, .int .i64 0, .int .i64 0, .int .i64 0, .int .i64 0, .int .i64 0, .slice none 0 0, .slice none 0 0, .int .i64 0, .int .i64 0]) rfl).puts 1 (.int .i64 l.options) (cs' := #[.int .i64 l.age, .int .i64 l.options, .int .i64 0, .int .i64 0, .int .i64 0, .int .i64 0, .slice none 0 0, .slice none 0 0, .int .i64 0, .int .i64 0]) rfl).puts 2 (.int .i64 l.typ) (cs' := #[.int .i64 l.age, .int .i64 l.options, .int .i64 l.typ, .int .i64 0, .int .i64 0, .int .i64 0, .slice none 0 0, .slice none 0 0, .int .i64 0, .int .i64 0]) rfl).puts 3 (.int .i64 l.id) (cs' := #[.int .i64 l.age, .int .i64 l.options, .int .i64 l.typ, .int .i64 l.id, .int .i64 0, .int .i64 0, .slice none 0 0, .slice none 0 0, .int .i64 0, .int .i64 0]) rfl).puts 4 (.int .i64 l.adv) (cs' := #[.int .i64 l.age, .int .i64 l.options, .int .i64 l.typ, .int .i64 l.id, .int .i64 l.adv, .int .i64 0, .slice none 0 0, .slice none 0 0, .int .i64 0, .int .i64 0]) rfl).puts 5 (.int .i64 l.seq) (cs' := #[.int .i64 l.age, .int .i64 l.options, .int .i64 l.typ, .int .i64 l.id, .int .i64 l.adv, .int .i64 l.seq, .slice none 0 0, .slice none 0 0, .int .i64 0, .int .i64 0]) rfl).puts 6 (.slice A n c) (cs' := #[.int .i64 l.age, .int .i64 l.options, .int .i64 l.typ, .int .i64 l.id, .int .i64 l.adv, .int .i64 l.seq, .slice A n c, .slice none 0 0, .int .i64 0, .int .i64 0]) rfl).puts 7 (.slice B m d) (cs' := #[.int .i64 l.age, .int .i64 l.options, .int .i64 l.typ, .int .i64 l.id, .int .i64 l.adv, .int .i64 l.seq, .slice A n c, .slice B m d, .int .i64 0, .int .i64 0]) rfl).puts 8 (.int .i64 l.mask) (cs' := #[.int .i64 l.age, .int .i64 l.options, .int .i64 l.typ, .int .i64 l.id, .int .i64 l.adv, .int .i64 l.seq, .slice A n c, .slice B m d, .int .i64 l.mask, .int .i64 0]) rfl).puts 9 (.int .i64 l.cost) (cs' := #[.int .i64 l.age, .int .i64 l.options, .int .i64 l.typ, .int .i64 l.id, .int .i64 l.adv, .int .i64 l.seq, .slice A n c, .slice B m d, .int .i64 l.mask, .int .i64 l.cost]) rfl)
  replace HD := HD.only ho (by have := Y3.out; omega)
  replace HA := HA.only ho (by have := Y3.out; omega)
  replace HB := Lib.hid (Below.only HB.out ho (by have := Y3.out; omega) HB.out.size)
  have Z5 : Hid (U4.heap.size = w3.heap.size) := Lib.hid (by rw [hU4]; simp [World.setCell]); clear ho
  have Y4 := Lib.hid (And.intro Y3.out Z5.out); clear Y3 Z5
  have q_0 := HX1.look 0
  have q_1 := HX1.look 1
  have q_2 := HX1.look 2
  have q_3 := HX1.look 3
  have q_4 := HX1.look 4
  have q_5 := HX1.look 5
  have q_6 := HX1.look 6
  have q_7 := HX1.look 7
  have q_8 := HX1.look 8
  have q_9 := HX1.look 9
  have fin : ∀ e, e = Ending.returned (.agg (lsaCells ⟨l.age, l.options, l.typ, l.id, l.adv, l.seq, l.links, l.routers, l.mask, l.cost⟩ A B n c m d)) → (OneOut w e U4) := by rintro _ rfl; exact ⟨_, _, _, _, _, _, _, rfl, LsaAt.wide (lo' := w.heap.size) (hi' := U4.heap.size) HA.lsa rfl rfl (by have := Y4.out; omega) (by have := Y4.out; omega) (Nat.le_refl _), by omega, by omega, HB.out⟩
  subst hU4
  exact bodyPost_ret (v := .agg (lsaCells ⟨l.age, l.options, l.typ, l.id, l.adv, l.seq, l.links, l.routers, l.mask, l.cost⟩ A B n c m d)) (by simp [results, Try.results13, go_sem, lsaCells, q_0, q_1, q_2, q_3, q_4, q_5, q_6, q_7, q_8, q_9]) rfl (fin _ rfl)

set_option maxRecDepth 100000 in
set_option maxHeartbeats 6400000 in
theorem drawAge_any (A0 : Option Addr) (n0 c0 : Nat) (cs : List Int) (w : World) (ha : BIn w A0 n0 cs) (hb : Bytes cs) (hn : n0 ≤ 1048576) :
    Calls Try.prog 35 #[.slice A0 n0 c0] w (AgeOut w) := by
  have HB := Lib.hid (Below.refl w.heap.size w)
  have HD := ha.hold
  have HBY := Lib.hid hb
  clear ha hb
  go_enter Try.func35, Try.ntmps35
  go_wp2_with fail
  refine Calls.name ?_
  intro U1 hU1
  have hb : Below w.heap.size w U1 := by rw [hU1]; exact ((Below.refl _ _).alloc (Nat.le_refl _) _)
  have zz : Hid (w.heap.size + 1 = U1.heap.size) := Lib.hid (by rw [hU1]; simp)
  have HX1 : Kept w.heap.size (w.heap.size + 1) (BoxK w.heap.size 29 #[.int .i64 0, .int .i64 0, .int .i64 0, .int .i64 0, .int .i64 0, .int .i64 0, .slice none 0 0, .slice none 0 0, .int .i64 0, .int .i64 0]) U1 := by rw [hU1]; exact Kept.box (Box.made_at _ _ _ rfl)
  replace HD := HD.below hb
  replace HB := Lib.hid (below_step HB.out hb)
  clear hb
  have Z1 := zz; clear zz
  clear hU1
  refine (dSource A0 n0 c0 cs _ HD.out HBY.out hn).mono ?_
  rintro e w2 ⟨rfl, hs, hb⟩
  have Z2 := Lib.hid hb.size
  have Y1 := Lib.hid (And.intro Z1.out Z2.out); clear Z1 Z2
  replace HD := HD.below hb
  replace HX1 := HX1.below hb
  replace HB := Lib.hid (below_step HB.out hb)
  clear hb
  have HS := hs; clear hs
  have Z3 := Lib.hid HS.lt
  have Y2 := Lib.hid (And.intro Y1.out Z3.out); clear Y1 Z3
  have l2_0 := HX1.bx.lt
  go_wp2_with fail
  clear l2_0
  refine (l2Bent_any _ A0 n0 c0 cs 0 _ HS.here (by omega)).mono ?_
  rintro e w3 ⟨l, A, B, n, c, m, d, rfl, hl, hn, hm, hs⟩
  have ho := hs.fr
  have Z4 := Lib.hid ho.size
  have Y3 := Lib.hid (And.intro Y2.out Z4.out); clear Y2 Z4
  replace HD := HD.only ho (by have := Y3.out; omega)
  replace HX1 := HX1.only ho (by have := Y3.out; omega)
  replace HB := Lib.hid (Below.only HB.out ho (by have := Y3.out; omega) HB.out.size)
  replace HS := HS.next hs; clear ho hs
  have HA := hl.kept; clear hl
  have l3_0 := HX1.bx.lt
  go_wp2_with fail
  clear l3_0
  refine Calls.name ?_
  intro U4 hU4
  have hb : Below w3.heap.size w3 U4 := by rw [hU4]; exact ((Below.refl _ _).alloc (Nat.le_refl _) _)
  have zz : Hid (w3.heap.size + 1 = U4.heap.size) := Lib.hid (by rw [hU4]; simp)
  have HX2 : Kept w3.heap.size (w3.heap.size + 1) (BoxK w3.heap.size 2 #[.int .i64 0, .int .i64 1, .int .i64 100, .int .i64 3600, .int .i64 9223372036854775807, .int .i64 (-1)]) U4 := by rw [hU4]; exact Kept.box (Box.made_at _ _ _ rfl)
  replace HD := HD.below hb
  replace HX1 := HX1.below hb
  replace HS := HS.below hb
  replace HA := HA.below hb
  replace HB := Lib.hid (below_step HB.out hb)
  clear hb
  have Z5 := zz; clear zz
  have Y4 := Lib.hid (And.intro Y3.out Z5.out); clear Y3 Z5
  clear hU4
  refine (dPick w3.heap.size 6 [0, 1, 100, 3600, 9223372036854775807, -1] HS.here (by omega) HX2.bx rfl rfl (by omega) (by omega) (by have := Y4.out; omega)).mono ?_
  rintro e w5 ⟨t, rfl, hv, hs⟩
  have ho := hs.fr
  have Z6 := Lib.hid ho.size
  have Y5 := Lib.hid (And.intro Y4.out Z6.out); clear Y4 Z6
  clear HX2
  replace HD := HD.only ho (by have := Y5.out; omega)
  replace HX1 := HX1.only ho (by have := Y5.out; omega)
  replace HA := HA.only ho (by have := Y5.out; omega)
  replace HB := Lib.hid (Below.only HB.out ho (by have := Y5.out; omega) HB.out.size)
  replace HS := HS.next hs; clear ho hs
  have ht : -1 ≤ t ∧ t ≤ 9223372036854775807 := by simp only [List.mem_cons, List.not_mem_nil, or_false] at hv; omega
  clear hv
  clear HS
  have c4_0 := HX1.look 0
  have c4_1 := HX1.look 1
  have c4_2 := HX1.look 2
  have c4_3 := HX1.look 3
  have c4_4 := HX1.look 4
  have c4_5 := HX1.look 5
  have c4_6 := HX1.look 6
  have c4_7 := HX1.look 7
  have c4_8 := HX1.look 8
  have c4_9 := HX1.look 9
  have f4_0 := HX1.free 0
  have f4_1 := HX1.free 1
  have f4_2 := HX1.free 2
  have f4_3 := HX1.free 3
  have f4_4 := HX1.free 4
  have f4_5 := HX1.free 5
  have f4_6 := HX1.free 6
  have f4_7 := HX1.free 7
  have f4_8 := HX1.free 8
  have f4_9 := HX1.free 9
  have l4_0 := HX1.bx.lt
  go_wp2
  clear c4_0 c4_1 c4_2 c4_3 c4_4 c4_5 c4_6 c4_7 c4_8 c4_9 f4_0 f4_1 f4_2 f4_3 f4_4 f4_5 f4_6 f4_7 f4_8 f4_9 l4_0
  obtain ⟨U6, hU6⟩ : ∃ W : World, W = ((((((((((w5.setCell ⟨w.heap.size, 0, none⟩ (.int .i64 l.age)).setCell ⟨w.heap.size, 1, none⟩ (.int .i64 l.options)).setCell ⟨w.heap.size, 2, none⟩ (.int .i64 l.typ)).setCell ⟨w.heap.size, 3, none⟩ (.int .i64 l.id)).setCell ⟨w.heap.size, 4, none⟩ (.int .i64 l.adv)).setCell ⟨w.heap.size, 5, none⟩ (.int .i64 l.seq)).setCell ⟨w.heap.size, 6, none⟩ (.slice A n c)).setCell ⟨w.heap.size, 7, none⟩ (.slice B m d)).setCell ⟨w.heap.size, 8, none⟩ (.int .i64 l.mask)).setCell ⟨w.heap.size, 9, none⟩ (.int .i64 l.cost)) := ⟨_, rfl⟩
  have ho : Only w.heap.size (w.heap.size + 1) w5 U6 := by rw [hU6]; exact (((((((((((Only.refl _ _ _).set (p := ⟨w.heap.size, 0, none⟩) (Nat.le_refl _) (Nat.lt_succ_self _) _).set (p := ⟨w.heap.size, 1, none⟩) (Nat.le_refl _) (Nat.lt_succ_self _) _).set (p := ⟨w.heap.size, 2, none⟩) (Nat.le_refl _) (Nat.lt_succ_self _) _).set (p := ⟨w.heap.size, 3, none⟩) (Nat.le_refl _) (Nat.lt_succ_self _) _).set (p := ⟨w.heap.size, 4, none⟩) (Nat.le_refl _) (Nat.lt_succ_self _) _).set (p := ⟨w.heap.size, 5, none⟩) (Nat.le_refl _) (Nat.lt_succ_self _) _).set (p := ⟨w.heap.size, 6, none⟩) (Nat.le_refl _) (Nat.lt_succ_self _) _).set (p := ⟨w.heap.size, 7, none⟩) (Nat.le_refl _) (Nat.lt_succ_self _) _).set (p := ⟨w.heap.size, 8, none⟩) (Nat.le_refl _) (Nat.lt_succ_self _) _).set (p := ⟨w.heap.size, 9, none⟩) (Nat.le_refl _) (Nat.lt_succ_self _) _)
  replace HX1 : Kept w.heap.size (w.heap.size + 1) (BoxK w.heap.size 29 #[.int .i64 l.age, .int .i64 l.options, .int .i64 l.typ, .int .i64 l.id, .int .i64 l.adv, .int .i64 l.seq, .slice A n c, .slice B m d, .int .i64 l.mask, .int .i64 l.cost]) U6 := by rw [hU6]; exact Kept.box ((((((((((HX1.bx.puts 0 (.int .i64 l.age) (cs' := #[.int .i64 l.age, .int .i64 0, .int .i64 0, .int .i64 0, .int .i64 0, .int .i64 0, .slice none 0 0, .slice none 0 0, .int .i64 0, .int .i64 0]) rfl).puts 1 (.int .i64 l.options) (cs' := #[.int .i64 l.age, .int .i64 l.options, .int .i64 0, .int .i64 0, .int .i64 0, .int .i64 0, .slice none 0 0, .slice none 0 0, .int .i64 0, .int .i64 0]) rfl).puts 2 (.int .i64 l.typ) (cs' := #[.int .i64 l.age, .int .i64 l.options, .int .i64 l.typ, .int .i64 0, .int .i64 0, .int .i64 0, .slice none 0 0, .slice none 0 0, .int .i64 0, .int .i64 0]) rfl).puts 3 (.int .i64 l.id) (cs' := #[.int .i64 l.age, .int .i64 l.options, .int .i64 l.typ, .int .i64 l.id, .int .i64 0, .int .i64 0, .slice none 0 0, .slice none 0 0, .int .i64 0, .int .i64 0]) rfl).puts 4 (.int .i64 l.adv) (cs' := #[.int .i64 l.age, .int .i64 l.options, .int .i64 l.typ, .int .i64 l.id, .int .i64 l.adv, .int .i64 0, .slice none 0 0, .slice none 0 0, .int .i64 0, .int .i64 0]) rfl).puts 5 (.int .i64 l.seq) (cs' := #[.int .i64 l.age, .int .i64 l.options, .int .i64 l.typ, .int .i64 l.id, .int .i64 l.adv, .int .i64 l.seq, .slice none 0 0, .slice none 0 0, .int .i64 0, .int .i64 0]) rfl).puts 6 (.slice A n c) (cs' := #[.int .i64 l.age, .int .i64 l.options, .int .i64 l.typ, .int .i64 l.id, .int .i64 l.adv, .int .i64 l.seq, .slice A n c, .slice none 0 0, .int .i64 0, .int .i64 0]) rfl).puts 7 (.slice B m d) (cs' := #[.int .i64 l.age, .int .i64 l.options, .int .i64 l.typ, .int .i64 l.id, .int .i64 l.adv, .int .i64 l.seq, .slice A n c, .slice B m d, .int .i64 0, .int .i64 0]) rfl).puts 8 (.int .i64 l.mask) (cs' := #[.int .i64 l.age, .int .i64 l.options, .int .i64 l.typ, .int .i64 l.id, .int .i64 l.adv, .int .i64 l.seq, .slice A n c, .slice B m d, .int .i64 l.mask, .int .i64 0]) rfl).puts 9 (.int .i64 l.cost) (cs' := #[.int .i64 l.age, .int .i64 l.options, .int .i64 l.typ, .int .i64 l.id, .int .i64 l.adv, .int .i64 l.seq, .slice A n c, .slice B m d, .int .i64 l.mask, .int .i64 l.cost]) rfl)
  replace HD := HD.only ho (by have := Y5.out; omega)
  replace HA := HA.only ho (by have := Y5.out; omega)
  replace HB := Lib.hid (Below.only HB.out ho (by have := Y5.out; omega) HB.out.size)
  have Z7 : Hid (U6.heap.size = w5.heap.size) := Lib.hid (by rw [hU6]; simp [World.setCell]); clear ho
  have Y6 := Lib.hid (And.intro Y5.out Z7.out); clear Y5 Z7
  have q0_0 := HX1.look 0
  have q0_1 := HX1.look 1
  have q0_2 := HX1.look 2
  have q0_3 := HX1.look 3
  have q0_4 := HX1.look 4
  have q0_5 := HX1.look 5
  have q0_6 := HX1.look 6
  have q0_7 := HX1.look 7
  have q0_8 := HX1.look 8
  have q0_9 := HX1.look 9
  have fin : ∀ e, e = Ending.returned (.tuple #[.agg (lsaCells ⟨l.age, l.options, l.typ, l.id, l.adv, l.seq, l.links, l.routers, l.mask, l.cost⟩ A B n c m d), .int .i64 t]) → (AgeOut w e U6) := by rintro _ rfl; exact ⟨_, _, _, _, _, _, _, _, rfl, LsaAt.wide (lo' := w.heap.size) (hi' := U6.heap.size) HA.lsa rfl rfl (by have := Y6.out; omega) (by have := Y6.out; omega) (Nat.le_refl _), by omega, by omega, by omega, by omega, HB.out⟩
  subst hU6
  exact bodyPost_ret (v := .tuple #[.agg (lsaCells ⟨l.age, l.options, l.typ, l.id, l.adv, l.seq, l.links, l.routers, l.mask, l.cost⟩ A B n c m d), .int .i64 t]) (by simp [results, Try.results35, go_sem, lsaCells, q0_0, q0_1, q0_2, q0_3, q0_4, q0_5, q0_6, q0_7, q0_8, q0_9]) rfl (fin _ rfl)

set_option maxRecDepth 100000 in
set_option maxHeartbeats 6400000 in
theorem drawSeq_any (A0 : Option Addr) (n0 c0 : Nat) (cs : List Int) (w : World) (ha : BIn w A0 n0 cs) (hb : Bytes cs) (hn : n0 ≤ 1048576) :
    Calls Try.prog 29 #[.slice A0 n0 c0] w fun e w' => ∃ v, e = .returned (.int .i64 v) ∧ Below w.heap.size w w' := by
  have HB := Lib.hid (Below.refl w.heap.size w)
  have HD := ha.hold
  have HBY := Lib.hid hb
  clear ha hb
  go_enter Try.func29, Try.ntmps29
  go_wp2_with fail
  refine (dSource A0 n0 c0 cs _ HD.out HBY.out hn).mono ?_
  rintro e w1 ⟨rfl, hs, hb⟩
  have Z1 := Lib.hid hb.size
  replace HD := HD.below hb
  replace HB := Lib.hid (below_step HB.out hb)
  clear hb
  have HS := hs; clear hs
  have Z2 := Lib.hid HS.lt
  have Y1 := Lib.hid (And.intro Z1.out Z2.out); clear Z1 Z2
  go_wp2_with fail
  refine Calls.name ?_
  intro U2 hU2
  have hb : Below w1.heap.size w1 U2 := by rw [hU2]; exact ((Below.refl _ _).alloc (Nat.le_refl _) _)
  have zz : Hid (w1.heap.size + 1 = U2.heap.size) := Lib.hid (by rw [hU2]; simp)
  have HX1 : Kept w1.heap.size (w1.heap.size + 1) (BoxK w1.heap.size 2 #[.int .i64 0, .int .i64 (-2147483647), .int .i64 2147483646, .int .i64 2147483647, .int .i64 2147483648, .int .i64 (-2147483648), .int .i64 7]) U2 := by rw [hU2]; exact Kept.box (Box.made_at _ _ _ rfl)
  replace HD := HD.below hb
  replace HS := HS.below hb
  replace HB := Lib.hid (below_step HB.out hb)
  clear hb
  have Z3 := zz; clear zz
  have Y2 := Lib.hid (And.intro Y1.out Z3.out); clear Y1 Z3
  clear hU2
  refine (dPick w1.heap.size 7 [0, -2147483647, 2147483646, 2147483647, 2147483648, -2147483648, 7] HS.here (by omega) HX1.bx rfl rfl (by omega) (by omega) (by have := Y2.out; omega)).mono ?_
  rintro e w3 ⟨v, rfl, hv, hs⟩
  have ho := hs.fr
  have Z4 := Lib.hid ho.size
  have Y3 := Lib.hid (And.intro Y2.out Z4.out); clear Y2 Z4
  clear HX1
  replace HD := HD.only ho (by have := Y3.out; omega)
  replace HB := Lib.hid (Below.only HB.out ho (by have := Y3.out; omega) HB.out.size)
  replace HS := HS.next hs; clear ho hs
  clear hv
  clear HS
  go_wp2
  have fin : ∀ e, e = Ending.returned (.int .i64 v) → (∃ v, e = .returned (.int .i64 v) ∧ Below w.heap.size w w3) := by rintro _ rfl; exact ⟨v, rfl, HB.out⟩
  go_ret
  exact (fin _ rfl)


end Go.Proofs.Ytamclkjofojhmaa
