/-
  What the model's l2Decode and DecodeLsa answer. No statement is proved here.
-/
/-
  What the model's l2Decode and DecodeLsa answer. No statement is proved here.
-/
import Derived.Test.YtamclkjofojhmaaSpecDec
namespace Go.Proofs.Ytamclkjofojhmaa
open Go.RowKit
set_option linter.unusedVariables false

set_option maxRecDepth 100000 in
set_option maxHeartbeats 6400000 in
theorem l2Decode_no20_1 (b off n c : Nat) (xs : List Int) (w : World) (ha : BIn w (some ⟨b, off, none⟩) n xs) (hb : Bytes xs) (hnc : n ≤ c) (hn0 : 20 ≤ n) (hn : n ≤ 400) (hsq : 2147483647 < rval n xs 12 4) (h : ¬ rdB n xs) (h20 : c = 20) :
    Calls Try.prog 77 #[.slice (some ⟨b, off, none⟩) n c] w fun e w' => DecNo w e w' := by
  subst h20
  have HRD := Lib.hid h
  clear h
  have HD := ha.kept
  have HBY := Lib.hid hb
  have hlen := ha.1
  obtain ⟨z0, hz0⟩ : ∃ z, rval n xs 0 2 = z := ⟨_, rfl⟩
  obtain ⟨z1, hz1⟩ : ∃ z, rval n xs 2 1 = z := ⟨_, rfl⟩
  obtain ⟨z2, hz2⟩ : ∃ z, rval n xs 3 1 = z := ⟨_, rfl⟩
  obtain ⟨z3, hz3⟩ : ∃ z, rval n xs 4 4 = z := ⟨_, rfl⟩
  obtain ⟨z4, hz4⟩ : ∃ z, rval n xs 8 4 = z := ⟨_, rfl⟩
  obtain ⟨z5, hz5⟩ : ∃ z, rval n xs 12 4 = z := ⟨_, rfl⟩
  have hbd := rval_bd n xs 12 4 hb ha.1
  rw [hz5] at hbd hsq
  obtain ⟨hbd1, hbd2⟩ := hbd
  have r2_ : rval n xs 2 1 = xs.getD 2 0 := rval_one (a := 2) hlen (by omega)
  have r3_ : rval n xs 3 1 = xs.getD 3 0 := rval_one (a := 3) hlen (by omega)
  have c2 : w.cell? ⟨b, off + 2, none⟩ = some (.int .u8 z1) := by obtain ⟨b', o', e, h⟩ := ha.at_ (k := 2) (by omega); injection e with e; injection e with e1 e2; subst e1 e2; rw [h, ← hz1, r2_]
  have c3 : w.cell? ⟨b, off + 3, none⟩ = some (.int .u8 z2) := by obtain ⟨b', o', e, h⟩ := ha.at_ (k := 3) (by omega); injection e with e; injection e with e1 e2; subst e1 e2; rw [h, ← hz2, r3_]
  have hbz1 : 0 ≤ z1 ∧ z1 < 256 := by rw [← hz1, r2_]; exact hb.at_ 2
  have hbz2 : 0 ≤ z2 ∧ z2 < 256 := by rw [← hz2, r3_]; exact hb.at_ 3
  obtain ⟨y1, y2⟩ := hbz1
  obtain ⟨y3, y4⟩ := hbz2
  have HSQ : Hid (seqR n xs = z5 - 4294967296) := Lib.hid (by unfold seqR; rw [hz5, if_pos hsq])
  have HHD := Lib.hid (headR_eq hz0 hz1 hz2 hz3 hz4 HSQ.out)
  have Hz0 := Lib.hid hz0
  have Hz1 := Lib.hid hz1
  have Hz2 := Lib.hid hz2
  have Hz3 := Lib.hid hz3
  have Hz4 := Lib.hid hz4
  have Hz5 := Lib.hid hz5
  have HLEN := Lib.hid hlen
  have i2 : (2 : Int) < n := by omega
  have i3 : (3 : Int) < n := by omega
  have lb := World.block_lt_of_cell? w _ c2
  have HC2 := Lib.hid c2
  have HC3 := Lib.hid c3
  clear r2_ r3_ ha hb hz0 hz1 hz2 hz3 hz4 hz5 hlen c2 c3
  have HB := Lib.hid (Below.refl w.heap.size w)
  go_enter Try.func77, Try.ntmps77
  go_wp2
  refine Code.wp_name ?_
  intro U1 hU1
  have hb : Below w.heap.size w U1 := by rw [hU1]; exact ((Below.refl _ _).alloc (Nat.le_refl _) _)
  have zz : Hid (w.heap.size + 1 = U1.heap.size) := Lib.hid (by rw [hU1]; simp)
  have HX1 : Kept w.heap.size (w.heap.size + 1) (BoxK w.heap.size 29 #[.int .i64 0, .int .i64 0, .int .i64 0, .int .i64 0, .int .i64 0, .int .i64 0, .slice none 0 0, .slice none 0 0, .int .i64 0, .int .i64 0]) U1 := by rw [hU1]; exact Kept.box (Box.made_at _ _ _ rfl)
  have hbU := Lib.hid hb
  replace HD := HD.below hb
  replace HB := Lib.hid (below_step HB.out hb)
  clear hb
  have Z1 := zz; clear zz
  clear hU1
  have lb2 : b < U1.heap.size := by have := Z1.out; omega
  have D2 : U1.cell? ⟨b, off + 2, none⟩ = some (.int .u8 z1) := (hbU.out.cell (p := ⟨b, off + 2, none⟩) lb).trans HC2.out
  have D3 : U1.cell? ⟨b, off + 3, none⟩ = some (.int .u8 z2) := (hbU.out.cell (p := ⟨b, off + 3, none⟩) lb).trans HC3.out
  have SB : Hid (∀ W, Hid (Below U1.heap.size U1 W) → (fun W => W.cell? ⟨b, off + 2, none⟩ = some (.int .u8 z1) ∧ W.cell? ⟨b, off + 3, none⟩ = some (.int .u8 z2)) W) := fun W h => ⟨(h.out.cell (p := ⟨b, off + 2, none⟩) lb2).trans D2, (h.out.cell (p := ⟨b, off + 3, none⟩) lb2).trans D3⟩
  have V0 : Hid (Below U1.heap.size U1 U1.drew) := (Below.refl _ _).drew
  have VA0 : ∀ o, Hid (Below U1.heap.size U1 (U1.alloc o).drew) := fun o => ((Below.refl _ _).alloc (Nat.le_refl _) o).drew
  clear D2 D3
  have hw1 : IntKind.i64.wrap z1 = z1 := by simp [IntKind.wrap, IntKind.bits]; omega
  have hw2 : IntKind.i64.wrap z2 = z2 := by simp [IntKind.wrap, IntKind.bits]; omega
  go_upto_region 1 with (fail)
  go_cut [4] (fun s4 wx => ∃ g, s4 = .pointer (some ⟨g, 0, none⟩) ∧ Hid (U1.heap.size ≤ g) ∧ Kept g (g + 1) (BoxK g 29 #[.int .i64 z0, .int .i64 z1, .int .i64 z2, .int .i64 z3, .int .i64 z4, .int .i64 z5, .slice none 0 0, .slice none 0 0, .int .i64 0, .int .i64 0]) wx ∧ Hid (Below U1.heap.size U1 wx))
  case first =>
    go_region_held3 (fun W => W.cell? ⟨b, off + 2, none⟩ = some (.int .u8 z1) ∧ W.cell? ⟨b, off + 3, none⟩ = some (.int .u8 z2)) (first | (with_reducible exact SB.out _ V0) | (with_reducible exact SB.out _ (VA0 _)))
      (first
        | (go_at_call 75; ((with_reducible refine (l1ReadI (some ⟨b, off, none⟩) n 20 xs 0 2 _ (HD.below V0.out).out HBY.out (by omega) (by omega) (by omega) (by omega)).mono ?_); rw [Hz0.out]; rintro e u ⟨rfl, rfl⟩))
        | (go_at_call 75; ((with_reducible refine (l1ReadI (some ⟨b, off, none⟩) n 20 xs 0 2 _ (HD.below (VA0 _).out).out HBY.out (by omega) (by omega) (by omega) (by omega)).mono ?_); rw [Hz0.out]; rintro e u ⟨rfl, rfl⟩))
        | (go_at_call 75; ((with_reducible refine (l1ReadI (some ⟨b, off, none⟩) n 20 xs 4 4 _ (HD.below V0.out).out HBY.out (by omega) (by omega) (by omega) (by omega)).mono ?_); rw [Hz3.out]; rintro e u ⟨rfl, rfl⟩))
        | (go_at_call 75; ((with_reducible refine (l1ReadI (some ⟨b, off, none⟩) n 20 xs 4 4 _ (HD.below (VA0 _).out).out HBY.out (by omega) (by omega) (by omega) (by omega)).mono ?_); rw [Hz3.out]; rintro e u ⟨rfl, rfl⟩))
        | (go_at_call 75; ((with_reducible refine (l1ReadI (some ⟨b, off, none⟩) n 20 xs 8 4 _ (HD.below V0.out).out HBY.out (by omega) (by omega) (by omega) (by omega)).mono ?_); rw [Hz4.out]; rintro e u ⟨rfl, rfl⟩))
        | (go_at_call 75; ((with_reducible refine (l1ReadI (some ⟨b, off, none⟩) n 20 xs 8 4 _ (HD.below (VA0 _).out).out HBY.out (by omega) (by omega) (by omega) (by omega)).mono ?_); rw [Hz4.out]; rintro e u ⟨rfl, rfl⟩))
        | (go_at_call 75; ((with_reducible refine (l1ReadI (some ⟨b, off, none⟩) n 20 xs 12 4 _ (HD.below V0.out).out HBY.out (by omega) (by omega) (by omega) (by omega)).mono ?_); rw [Hz5.out]; rintro e u ⟨rfl, rfl⟩))
        | (go_at_call 75; ((with_reducible refine (l1ReadI (some ⟨b, off, none⟩) n 20 xs 12 4 _ (HD.below (VA0 _).out).out HBY.out (by omega) (by omega) (by omega) (by omega)).mono ?_); rw [Hz5.out]; rintro e u ⟨rfl, rfl⟩)))
    all_goals (go_wp2_with fail; go_meet; exact ⟨_, rfl, Lib.hid (Nat.le_refl _), Kept.box (show Box _ _ _ _ from Box.made _ _ _), VA0 _⟩)
  obtain ⟨g, rfl, hg, HW, HC⟩ := hcut
  obtain ⟨wx, rfl⟩ : ∃ W : World, W = wc := ⟨_, rfl⟩
  have hb := HC.out
  clear HC SB V0 VA0 HC2 HC3 hw1 hw2
  have Z2 := hg
  have Z3 := Lib.hid hb.size
  have Z4 := Lib.hid HW.le
  clear hg hbU
  replace HD := HD.below hb
  replace HX1 := HX1.below hb
  replace HB := Lib.hid (below_step HB.out hb)
  clear hb
  have hsq' : 2147483647 < z5 := hsq
  clear hsq
  have hi20 : (20 : Int) ≤ n := by omega
  have hi21 : (n : Int) ≤ 20 := by omega
  have c2_0 := HW.look 5
  have f2_0 := HW.free 5
  have l2_0 := HX1.bx.lt
  have l2_1 := HW.bx.lt
  go_wp2_with fail
  clear c2_0 f2_0 l2_0 l2_1
  refine Calls.name ?_
  intro U2 hU2
  have ho : Only g (g + 1) wx U2 := by rw [hU2]; exact ((Only.refl _ _ _).set (p := ⟨g, 5, none⟩) (Nat.le_refl _) (Nat.lt_succ_self _) _)
  replace HW : Kept g (g + 1) (BoxK g 29 #[.int .i64 z0, .int .i64 z1, .int .i64 z2, .int .i64 z3, .int .i64 z4, .int .i64 (z5 - 4294967296), .slice none 0 0, .slice none 0 0, .int .i64 0, .int .i64 0]) U2 := by rw [hU2]; exact Kept.box (HW.bx.puts 5 (.int .i64 (z5 - 4294967296)) (cs' := #[.int .i64 z0, .int .i64 z1, .int .i64 z2, .int .i64 z3, .int .i64 z4, .int .i64 (z5 - 4294967296), .slice none 0 0, .slice none 0 0, .int .i64 0, .int .i64 0]) rfl)
  replace HD := HD.only ho (by have := Z1.out; have := Z2.out; have := Z3.out; have := Z4.out; omega)
  replace HX1 := HX1.only ho (by have := Z1.out; have := Z2.out; have := Z3.out; have := Z4.out; omega)
  replace HB := Lib.hid (Below.only HB.out ho (by have := Z1.out; have := Z2.out; have := Z3.out; have := Z4.out; omega) HB.out.size)
  have Z5 := Lib.hid ho.size; clear ho
  clear hU2
  have hX : Box U2 g 29 (lsaCells (headR n xs) none none 0 0 0 0) := by rw [HHD.out]; exact HW.bx
  have hP : BIn U2 (some ⟨b, off, none⟩) (n - 20) (xs.drop 20) := by
    exact ⟨by rw [List.length_drop, HLEN.out], fun h => absurd h (by omega)⟩
  have hNE : ∀ r, Option.map (fun x : Addr => x.block) (some ⟨b, off, none⟩) = some r → r ≠ g := fun r hr => by simp only [Option.map_some, Option.some.injEq] at hr; have := Z1.out; have := Z2.out; have := Z3.out; have := Z4.out; have := Z5.out; omega
  refine (l2Read_short (headR n xs) g (some ⟨b, off, none⟩) 0 0 _ (by omega)).mono ?_
  rintro e w3 ⟨rfl, rfl⟩
  clear hX hP hNE
  have c3_0 := HX1.look 0
  have c3_1 := HX1.look 1
  have c3_2 := HX1.look 2
  have c3_3 := HX1.look 3
  have c3_4 := HX1.look 4
  have c3_5 := HX1.look 5
  have c3_6 := HX1.look 6
  have c3_7 := HX1.look 7
  have c3_8 := HX1.look 8
  have c3_9 := HX1.look 9
  have f3_0 := HX1.free 0
  have f3_1 := HX1.free 1
  have f3_2 := HX1.free 2
  have f3_3 := HX1.free 3
  have f3_4 := HX1.free 4
  have f3_5 := HX1.free 5
  have f3_6 := HX1.free 6
  have f3_7 := HX1.free 7
  have f3_8 := HX1.free 8
  have f3_9 := HX1.free 9
  have l3_0 := HX1.bx.lt
  have l3_1 := HW.bx.lt
  go_wp2
  clear c3_0 c3_1 c3_2 c3_3 c3_4 c3_5 c3_6 c3_7 c3_8 c3_9 f3_0 f3_1 f3_2 f3_3 f3_4 f3_5 f3_6 f3_7 f3_8 f3_9 l3_0 l3_1
  obtain ⟨U4, hU4⟩ : ∃ W : World, W = ((((((((((w3.setCell ⟨w.heap.size, 0, none⟩ (.int .i64 0)).setCell ⟨w.heap.size, 1, none⟩ (.int .i64 0)).setCell ⟨w.heap.size, 2, none⟩ (.int .i64 0)).setCell ⟨w.heap.size, 3, none⟩ (.int .i64 0)).setCell ⟨w.heap.size, 4, none⟩ (.int .i64 0)).setCell ⟨w.heap.size, 5, none⟩ (.int .i64 0)).setCell ⟨w.heap.size, 6, none⟩ (.slice none 0 0)).setCell ⟨w.heap.size, 7, none⟩ (.slice none 0 0)).setCell ⟨w.heap.size, 8, none⟩ (.int .i64 0)).setCell ⟨w.heap.size, 9, none⟩ (.int .i64 0)) := ⟨_, rfl⟩
  have ho : Only w.heap.size (w.heap.size + 1) w3 U4 := by rw [hU4]; exact (((((((((((Only.refl _ _ _).set (p := ⟨w.heap.size, 0, none⟩) (Nat.le_refl _) (Nat.lt_succ_self _) _).set (p := ⟨w.heap.size, 1, none⟩) (Nat.le_refl _) (Nat.lt_succ_self _) _).set (p := ⟨w.heap.size, 2, none⟩) (Nat.le_refl _) (Nat.lt_succ_self _) _).set (p := ⟨w.heap.size, 3, none⟩) (Nat.le_refl _) (Nat.lt_succ_self _) _).set (p := ⟨w.heap.size, 4, none⟩) (Nat.le_refl _) (Nat.lt_succ_self _) _).set (p := ⟨w.heap.size, 5, none⟩) (Nat.le_refl _) (Nat.lt_succ_self _) _).set (p := ⟨w.heap.size, 6, none⟩) (Nat.le_refl _) (Nat.lt_succ_self _) _).set (p := ⟨w.heap.size, 7, none⟩) (Nat.le_refl _) (Nat.lt_succ_self _) _).set (p := ⟨w.heap.size, 8, none⟩) (Nat.le_refl _) (Nat.lt_succ_self _) _).set (p := ⟨w.heap.size, 9, none⟩) (Nat.le_refl _) (Nat.lt_succ_self _) _)
  replace HX1 : Kept w.heap.size (w.heap.size + 1) (BoxK w.heap.size 29 #[.int .i64 0, .int .i64 0, .int .i64 0, .int .i64 0, .int .i64 0, .int .i64 0, .slice none 0 0, .slice none 0 0, .int .i64 0, .int .i64 0]) U4 := by rw [hU4]; exact Kept.box ((((((((((HX1.bx.puts 0 (.int .i64 0) (cs' := #[.int .i64 0, .int .i64 0, .int .i64 0, .int .i64 0, .int .i64 0, .int .i64 0, .slice none 0 0, .slice none 0 0, .int .i64 0, .int .i64 0]) rfl).puts 1 (.int .i64 0) (cs' := #[.int .i64 0, .int .i64 0, .int .i64 0, .int .i64 0, .int .i64 0, .int .i64 0, .slice none 0 0, .slice none 0 0, .int .i64 0, .int .i64 0]) rfl).puts 2 (.int .i64 0) (cs' := #[.int .i64 0, .int .i64 0, .int .i64 0, .int .i64 0, .int .i64 0, .int .i64 0, .slice none 0 0, .slice none 0 0, .int .i64 0, .int .i64 0]) rfl).puts 3 (.int .i64 0) (cs' := #[.int .i64 0, .int .i64 0, .int .i64 0, .int .i64 0, .int .i64 0, .int .i64 0, .slice none 0 0, .slice none 0 0, .int .i64 0, .int .i64 0]) rfl).puts 4 (.int .i64 0) (cs' := #[.int .i64 0, .int .i64 0, .int .i64 0, .int .i64 0, .int .i64 0, .int .i64 0, .slice none 0 0, .slice none 0 0, .int .i64 0, .int .i64 0]) rfl).puts 5 (.int .i64 0) (cs' := #[.int .i64 0, .int .i64 0, .int .i64 0, .int .i64 0, .int .i64 0, .int .i64 0, .slice none 0 0, .slice none 0 0, .int .i64 0, .int .i64 0]) rfl).puts 6 (.slice none 0 0) (cs' := #[.int .i64 0, .int .i64 0, .int .i64 0, .int .i64 0, .int .i64 0, .int .i64 0, .slice none 0 0, .slice none 0 0, .int .i64 0, .int .i64 0]) rfl).puts 7 (.slice none 0 0) (cs' := #[.int .i64 0, .int .i64 0, .int .i64 0, .int .i64 0, .int .i64 0, .int .i64 0, .slice none 0 0, .slice none 0 0, .int .i64 0, .int .i64 0]) rfl).puts 8 (.int .i64 0) (cs' := #[.int .i64 0, .int .i64 0, .int .i64 0, .int .i64 0, .int .i64 0, .int .i64 0, .slice none 0 0, .slice none 0 0, .int .i64 0, .int .i64 0]) rfl).puts 9 (.int .i64 0) (cs' := #[.int .i64 0, .int .i64 0, .int .i64 0, .int .i64 0, .int .i64 0, .int .i64 0, .slice none 0 0, .slice none 0 0, .int .i64 0, .int .i64 0]) rfl)
  replace HD := HD.only ho (by have := Z1.out; have := Z2.out; have := Z3.out; have := Z4.out; have := Z5.out; omega)
  replace HW := HW.only ho (by have := Z1.out; have := Z2.out; have := Z3.out; have := Z4.out; have := Z5.out; omega)
  replace HB := Lib.hid (Below.only HB.out ho (by have := Z1.out; have := Z2.out; have := Z3.out; have := Z4.out; have := Z5.out; omega) HB.out.size)
  have Z6 := Lib.hid ho.size; clear ho
  have fin : DecNo w (.returned (.tuple #[.agg (lsaCells zeroM none none 0 0 0 0), .bool false])) U4 := ⟨zeroM, none, none, 0, 0, 0, 0, rfl, HB.out⟩
  have q_0 := HX1.look 0
  have q_1 := HX1.look 1
  have q_2 := HX1.look 2
  have q_3 := HX1.look 3
  have q_4 := HX1.look 4
  have q_5 := HX1.look 5
  have q_6 := HX1.look 6
  have q_7 := HX1.look 7
  have q_8 := HX1.look 8
  have q_9 := HX1.look 9
  subst hU4
  exact bodyPost_ret (v := .tuple #[.agg (lsaCells zeroM none none 0 0 0 0), .bool false]) (by simp [results, Try.results77, go_sem, zeroM, q_0, q_1, q_2, q_3, q_4, q_5, q_6, q_7, q_8, q_9]) rfl fin

set_option maxRecDepth 100000 in
set_option maxHeartbeats 6400000 in
theorem l2Decode_no20_0 (b off n c : Nat) (xs : List Int) (w : World) (ha : BIn w (some ⟨b, off, none⟩) n xs) (hb : Bytes xs) (hnc : n ≤ c) (hn0 : 20 ≤ n) (hn : n ≤ 400) (hsq : ¬ 2147483647 < rval n xs 12 4) (h : ¬ rdB n xs) (h20 : c = 20) :
    Calls Try.prog 77 #[.slice (some ⟨b, off, none⟩) n c] w fun e w' => DecNo w e w' := by
  subst h20
  have HRD := Lib.hid h
  clear h
  have HD := ha.kept
  have HBY := Lib.hid hb
  have hlen := ha.1
  obtain ⟨z0, hz0⟩ : ∃ z, rval n xs 0 2 = z := ⟨_, rfl⟩
  obtain ⟨z1, hz1⟩ : ∃ z, rval n xs 2 1 = z := ⟨_, rfl⟩
  obtain ⟨z2, hz2⟩ : ∃ z, rval n xs 3 1 = z := ⟨_, rfl⟩
  obtain ⟨z3, hz3⟩ : ∃ z, rval n xs 4 4 = z := ⟨_, rfl⟩
  obtain ⟨z4, hz4⟩ : ∃ z, rval n xs 8 4 = z := ⟨_, rfl⟩
  obtain ⟨z5, hz5⟩ : ∃ z, rval n xs 12 4 = z := ⟨_, rfl⟩
  have hbd := rval_bd n xs 12 4 hb ha.1
  rw [hz5] at hbd hsq
  obtain ⟨hbd1, hbd2⟩ := hbd
  have r2_ : rval n xs 2 1 = xs.getD 2 0 := rval_one (a := 2) hlen (by omega)
  have r3_ : rval n xs 3 1 = xs.getD 3 0 := rval_one (a := 3) hlen (by omega)
  have c2 : w.cell? ⟨b, off + 2, none⟩ = some (.int .u8 z1) := by obtain ⟨b', o', e, h⟩ := ha.at_ (k := 2) (by omega); injection e with e; injection e with e1 e2; subst e1 e2; rw [h, ← hz1, r2_]
  have c3 : w.cell? ⟨b, off + 3, none⟩ = some (.int .u8 z2) := by obtain ⟨b', o', e, h⟩ := ha.at_ (k := 3) (by omega); injection e with e; injection e with e1 e2; subst e1 e2; rw [h, ← hz2, r3_]
  have hbz1 : 0 ≤ z1 ∧ z1 < 256 := by rw [← hz1, r2_]; exact hb.at_ 2
  have hbz2 : 0 ≤ z2 ∧ z2 < 256 := by rw [← hz2, r3_]; exact hb.at_ 3
  obtain ⟨y1, y2⟩ := hbz1
  obtain ⟨y3, y4⟩ := hbz2
  have HSQ : Hid (seqR n xs = z5) := Lib.hid (by unfold seqR; rw [hz5, if_neg hsq])
  have HHD := Lib.hid (headR_eq hz0 hz1 hz2 hz3 hz4 HSQ.out)
  have Hz0 := Lib.hid hz0
  have Hz1 := Lib.hid hz1
  have Hz2 := Lib.hid hz2
  have Hz3 := Lib.hid hz3
  have Hz4 := Lib.hid hz4
  have Hz5 := Lib.hid hz5
  have HLEN := Lib.hid hlen
  have i2 : (2 : Int) < n := by omega
  have i3 : (3 : Int) < n := by omega
  have lb := World.block_lt_of_cell? w _ c2
  have HC2 := Lib.hid c2
  have HC3 := Lib.hid c3
  clear r2_ r3_ ha hb hz0 hz1 hz2 hz3 hz4 hz5 hlen c2 c3
  have HB := Lib.hid (Below.refl w.heap.size w)
  go_enter Try.func77, Try.ntmps77
  go_wp2
  refine Code.wp_name ?_
  intro U1 hU1
  have hb : Below w.heap.size w U1 := by rw [hU1]; exact ((Below.refl _ _).alloc (Nat.le_refl _) _)
  have zz : Hid (w.heap.size + 1 = U1.heap.size) := Lib.hid (by rw [hU1]; simp)
  have HX1 : Kept w.heap.size (w.heap.size + 1) (BoxK w.heap.size 29 #[.int .i64 0, .int .i64 0, .int .i64 0, .int .i64 0, .int .i64 0, .int .i64 0, .slice none 0 0, .slice none 0 0, .int .i64 0, .int .i64 0]) U1 := by rw [hU1]; exact Kept.box (Box.made_at _ _ _ rfl)
  have hbU := Lib.hid hb
  replace HD := HD.below hb
  replace HB := Lib.hid (below_step HB.out hb)
  clear hb
  have Z1 := zz; clear zz
  clear hU1
  have lb2 : b < U1.heap.size := by have := Z1.out; omega
  have D2 : U1.cell? ⟨b, off + 2, none⟩ = some (.int .u8 z1) := (hbU.out.cell (p := ⟨b, off + 2, none⟩) lb).trans HC2.out
  have D3 : U1.cell? ⟨b, off + 3, none⟩ = some (.int .u8 z2) := (hbU.out.cell (p := ⟨b, off + 3, none⟩) lb).trans HC3.out
  have SB : Hid (∀ W, Hid (Below U1.heap.size U1 W) → (fun W => W.cell? ⟨b, off + 2, none⟩ = some (.int .u8 z1) ∧ W.cell? ⟨b, off + 3, none⟩ = some (.int .u8 z2)) W) := fun W h => ⟨(h.out.cell (p := ⟨b, off + 2, none⟩) lb2).trans D2, (h.out.cell (p := ⟨b, off + 3, none⟩) lb2).trans D3⟩
  have V0 : Hid (Below U1.heap.size U1 U1.drew) := (Below.refl _ _).drew
  have VA0 : ∀ o, Hid (Below U1.heap.size U1 (U1.alloc o).drew) := fun o => ((Below.refl _ _).alloc (Nat.le_refl _) o).drew
  clear D2 D3
  have hw1 : IntKind.i64.wrap z1 = z1 := by simp [IntKind.wrap, IntKind.bits]; omega
  have hw2 : IntKind.i64.wrap z2 = z2 := by simp [IntKind.wrap, IntKind.bits]; omega
  go_upto_region 1 with (fail)
  go_cut [4] (fun s4 wx => ∃ g, s4 = .pointer (some ⟨g, 0, none⟩) ∧ Hid (U1.heap.size ≤ g) ∧ Kept g (g + 1) (BoxK g 29 #[.int .i64 z0, .int .i64 z1, .int .i64 z2, .int .i64 z3, .int .i64 z4, .int .i64 z5, .slice none 0 0, .slice none 0 0, .int .i64 0, .int .i64 0]) wx ∧ Hid (Below U1.heap.size U1 wx))
  case first =>
    go_region_held3 (fun W => W.cell? ⟨b, off + 2, none⟩ = some (.int .u8 z1) ∧ W.cell? ⟨b, off + 3, none⟩ = some (.int .u8 z2)) (first | (with_reducible exact SB.out _ V0) | (with_reducible exact SB.out _ (VA0 _)))
      (first
        | (go_at_call 75; ((with_reducible refine (l1ReadI (some ⟨b, off, none⟩) n 20 xs 0 2 _ (HD.below V0.out).out HBY.out (by omega) (by omega) (by omega) (by omega)).mono ?_); rw [Hz0.out]; rintro e u ⟨rfl, rfl⟩))
        | (go_at_call 75; ((with_reducible refine (l1ReadI (some ⟨b, off, none⟩) n 20 xs 0 2 _ (HD.below (VA0 _).out).out HBY.out (by omega) (by omega) (by omega) (by omega)).mono ?_); rw [Hz0.out]; rintro e u ⟨rfl, rfl⟩))
        | (go_at_call 75; ((with_reducible refine (l1ReadI (some ⟨b, off, none⟩) n 20 xs 4 4 _ (HD.below V0.out).out HBY.out (by omega) (by omega) (by omega) (by omega)).mono ?_); rw [Hz3.out]; rintro e u ⟨rfl, rfl⟩))
        | (go_at_call 75; ((with_reducible refine (l1ReadI (some ⟨b, off, none⟩) n 20 xs 4 4 _ (HD.below (VA0 _).out).out HBY.out (by omega) (by omega) (by omega) (by omega)).mono ?_); rw [Hz3.out]; rintro e u ⟨rfl, rfl⟩))
        | (go_at_call 75; ((with_reducible refine (l1ReadI (some ⟨b, off, none⟩) n 20 xs 8 4 _ (HD.below V0.out).out HBY.out (by omega) (by omega) (by omega) (by omega)).mono ?_); rw [Hz4.out]; rintro e u ⟨rfl, rfl⟩))
        | (go_at_call 75; ((with_reducible refine (l1ReadI (some ⟨b, off, none⟩) n 20 xs 8 4 _ (HD.below (VA0 _).out).out HBY.out (by omega) (by omega) (by omega) (by omega)).mono ?_); rw [Hz4.out]; rintro e u ⟨rfl, rfl⟩))
        | (go_at_call 75; ((with_reducible refine (l1ReadI (some ⟨b, off, none⟩) n 20 xs 12 4 _ (HD.below V0.out).out HBY.out (by omega) (by omega) (by omega) (by omega)).mono ?_); rw [Hz5.out]; rintro e u ⟨rfl, rfl⟩))
        | (go_at_call 75; ((with_reducible refine (l1ReadI (some ⟨b, off, none⟩) n 20 xs 12 4 _ (HD.below (VA0 _).out).out HBY.out (by omega) (by omega) (by omega) (by omega)).mono ?_); rw [Hz5.out]; rintro e u ⟨rfl, rfl⟩)))
    all_goals (go_wp2_with fail; go_meet; exact ⟨_, rfl, Lib.hid (Nat.le_refl _), Kept.box (show Box _ _ _ _ from Box.made _ _ _), VA0 _⟩)
  obtain ⟨g, rfl, hg, HW, HC⟩ := hcut
  obtain ⟨wx, rfl⟩ : ∃ W : World, W = wc := ⟨_, rfl⟩
  have hb := HC.out
  clear HC SB V0 VA0 HC2 HC3 hw1 hw2
  have Z2 := hg
  have Z3 := Lib.hid hb.size
  have Z4 := Lib.hid HW.le
  clear hg hbU
  replace HD := HD.below hb
  replace HX1 := HX1.below hb
  replace HB := Lib.hid (below_step HB.out hb)
  clear hb
  have hi20 : (20 : Int) ≤ n := by omega
  have hi21 : (n : Int) ≤ 20 := by omega
  have c2_0 := HW.look 5
  have l2_0 := HX1.bx.lt
  have l2_1 := HW.bx.lt
  go_wp2_with fail
  clear c2_0 l2_0 l2_1
  have hX : Box wx g 29 (lsaCells (headR n xs) none none 0 0 0 0) := by rw [HHD.out]; exact HW.bx
  have hP : BIn wx (some ⟨b, off, none⟩) (n - 20) (xs.drop 20) := by
    exact ⟨by rw [List.length_drop, HLEN.out], fun h => absurd h (by omega)⟩
  have hNE : ∀ r, Option.map (fun x : Addr => x.block) (some ⟨b, off, none⟩) = some r → r ≠ g := fun r hr => by simp only [Option.map_some, Option.some.injEq] at hr; have := Z1.out; have := Z2.out; have := Z3.out; have := Z4.out; omega
  refine (l2Read_short (headR n xs) g (some ⟨b, off, none⟩) 0 0 _ (by omega)).mono ?_
  rintro e w2 ⟨rfl, rfl⟩
  clear hX hP hNE
  have c3_0 := HX1.look 0
  have c3_1 := HX1.look 1
  have c3_2 := HX1.look 2
  have c3_3 := HX1.look 3
  have c3_4 := HX1.look 4
  have c3_5 := HX1.look 5
  have c3_6 := HX1.look 6
  have c3_7 := HX1.look 7
  have c3_8 := HX1.look 8
  have c3_9 := HX1.look 9
  have f3_0 := HX1.free 0
  have f3_1 := HX1.free 1
  have f3_2 := HX1.free 2
  have f3_3 := HX1.free 3
  have f3_4 := HX1.free 4
  have f3_5 := HX1.free 5
  have f3_6 := HX1.free 6
  have f3_7 := HX1.free 7
  have f3_8 := HX1.free 8
  have f3_9 := HX1.free 9
  have l3_0 := HX1.bx.lt
  have l3_1 := HW.bx.lt
  go_wp2
  clear c3_0 c3_1 c3_2 c3_3 c3_4 c3_5 c3_6 c3_7 c3_8 c3_9 f3_0 f3_1 f3_2 f3_3 f3_4 f3_5 f3_6 f3_7 f3_8 f3_9 l3_0 l3_1
  obtain ⟨U3, hU3⟩ : ∃ W : World, W = ((((((((((w2.setCell ⟨w.heap.size, 0, none⟩ (.int .i64 0)).setCell ⟨w.heap.size, 1, none⟩ (.int .i64 0)).setCell ⟨w.heap.size, 2, none⟩ (.int .i64 0)).setCell ⟨w.heap.size, 3, none⟩ (.int .i64 0)).setCell ⟨w.heap.size, 4, none⟩ (.int .i64 0)).setCell ⟨w.heap.size, 5, none⟩ (.int .i64 0)).setCell ⟨w.heap.size, 6, none⟩ (.slice none 0 0)).setCell ⟨w.heap.size, 7, none⟩ (.slice none 0 0)).setCell ⟨w.heap.size, 8, none⟩ (.int .i64 0)).setCell ⟨w.heap.size, 9, none⟩ (.int .i64 0)) := ⟨_, rfl⟩
  have ho : Only w.heap.size (w.heap.size + 1) w2 U3 := by rw [hU3]; exact (((((((((((Only.refl _ _ _).set (p := ⟨w.heap.size, 0, none⟩) (Nat.le_refl _) (Nat.lt_succ_self _) _).set (p := ⟨w.heap.size, 1, none⟩) (Nat.le_refl _) (Nat.lt_succ_self _) _).set (p := ⟨w.heap.size, 2, none⟩) (Nat.le_refl _) (Nat.lt_succ_self _) _).set (p := ⟨w.heap.size, 3, none⟩) (Nat.le_refl _) (Nat.lt_succ_self _) _).set (p := ⟨w.heap.size, 4, none⟩) (Nat.le_refl _) (Nat.lt_succ_self _) _).set (p := ⟨w.heap.size, 5, none⟩) (Nat.le_refl _) (Nat.lt_succ_self _) _).set (p := ⟨w.heap.size, 6, none⟩) (Nat.le_refl _) (Nat.lt_succ_self _) _).set (p := ⟨w.heap.size, 7, none⟩) (Nat.le_refl _) (Nat.lt_succ_self _) _).set (p := ⟨w.heap.size, 8, none⟩) (Nat.le_refl _) (Nat.lt_succ_self _) _).set (p := ⟨w.heap.size, 9, none⟩) (Nat.le_refl _) (Nat.lt_succ_self _) _)
  replace HX1 : Kept w.heap.size (w.heap.size + 1) (BoxK w.heap.size 29 #[.int .i64 0, .int .i64 0, .int .i64 0, .int .i64 0, .int .i64 0, .int .i64 0, .slice none 0 0, .slice none 0 0, .int .i64 0, .int .i64 0]) U3 := by rw [hU3]; exact Kept.box ((((((((((HX1.bx.puts 0 (.int .i64 0) (cs' := #[.int .i64 0, .int .i64 0, .int .i64 0, .int .i64 0, .int .i64 0, .int .i64 0, .slice none 0 0, .slice none 0 0, .int .i64 0, .int .i64 0]) rfl).puts 1 (.int .i64 0) (cs' := #[.int .i64 0, .int .i64 0, .int .i64 0, .int .i64 0, .int .i64 0, .int .i64 0, .slice none 0 0, .slice none 0 0, .int .i64 0, .int .i64 0]) rfl).puts 2 (.int .i64 0) (cs' := #[.int .i64 0, .int .i64 0, .int .i64 0, .int .i64 0, .int .i64 0, .int .i64 0, .slice none 0 0, .slice none 0 0, .int .i64 0, .int .i64 0]) rfl).puts 3 (.int .i64 0) (cs' := #[.int .i64 0, .int .i64 0, .int .i64 0, .int .i64 0, .int .i64 0, .int .i64 0, .slice none 0 0, .slice none 0 0, .int .i64 0, .int .i64 0]) rfl).puts 4 (.int .i64 0) (cs' := #[.int .i64 0, .int .i64 0, .int .i64 0, .int .i64 0, .int .i64 0, .int .i64 0, .slice none 0 0, .slice none 0 0, .int .i64 0, .int .i64 0]) rfl).puts 5 (.int .i64 0) (cs' := #[.int .i64 0, .int .i64 0, .int .i64 0, .int .i64 0, .int .i64 0, .int .i64 0, .slice none 0 0, .slice none 0 0, .int .i64 0, .int .i64 0]) rfl).puts 6 (.slice none 0 0) (cs' := #[.int .i64 0, .int .i64 0, .int .i64 0, .int .i64 0, .int .i64 0, .int .i64 0, .slice none 0 0, .slice none 0 0, .int .i64 0, .int .i64 0]) rfl).puts 7 (.slice none 0 0) (cs' := #[.int .i64 0, .int .i64 0, .int .i64 0, .int .i64 0, .int .i64 0, .int .i64 0, .slice none 0 0, .slice none 0 0, .int .i64 0, .int .i64 0]) rfl).puts 8 (.int .i64 0) (cs' := #[.int .i64 0, .int .i64 0, .int .i64 0, .int .i64 0, .int .i64 0, .int .i64 0, .slice none 0 0, .slice none 0 0, .int .i64 0, .int .i64 0]) rfl).puts 9 (.int .i64 0) (cs' := #[.int .i64 0, .int .i64 0, .int .i64 0, .int .i64 0, .int .i64 0, .int .i64 0, .slice none 0 0, .slice none 0 0, .int .i64 0, .int .i64 0]) rfl)
  replace HD := HD.only ho (by have := Z1.out; have := Z2.out; have := Z3.out; have := Z4.out; omega)
  replace HW := HW.only ho (by have := Z1.out; have := Z2.out; have := Z3.out; have := Z4.out; omega)
  replace HB := Lib.hid (Below.only HB.out ho (by have := Z1.out; have := Z2.out; have := Z3.out; have := Z4.out; omega) HB.out.size)
  have Z5 := Lib.hid ho.size; clear ho
  have fin : DecNo w (.returned (.tuple #[.agg (lsaCells zeroM none none 0 0 0 0), .bool false])) U3 := ⟨zeroM, none, none, 0, 0, 0, 0, rfl, HB.out⟩
  have q_0 := HX1.look 0
  have q_1 := HX1.look 1
  have q_2 := HX1.look 2
  have q_3 := HX1.look 3
  have q_4 := HX1.look 4
  have q_5 := HX1.look 5
  have q_6 := HX1.look 6
  have q_7 := HX1.look 7
  have q_8 := HX1.look 8
  have q_9 := HX1.look 9
  subst hU3
  exact bodyPost_ret (v := .tuple #[.agg (lsaCells zeroM none none 0 0 0 0), .bool false]) (by simp [results, Try.results77, go_sem, zeroM, q_0, q_1, q_2, q_3, q_4, q_5, q_6, q_7, q_8, q_9]) rfl fin


end Go.Proofs.Ytamclkjofojhmaa

namespace Go.Proofs.Ytamclkjofojhmaa
open Go.RowKit
set_option linter.unusedVariables false

set_option maxRecDepth 100000 in
set_option maxHeartbeats 6400000 in
theorem l2Decode_fault_1 (b off n c : Nat) (xs : List Int) (w : World) (ha : BIn w (some ⟨b, off, none⟩) n xs) (hb : Bytes xs) (hnc : n ≤ c) (hn0 : 20 ≤ n) (hn : n ≤ 400) (hsq : 2147483647 < rval n xs 12 4) (h : rdB n xs) (hf : ¬ faultOf (readM n xs) = 0) :
    Calls Try.prog 77 #[.slice (some ⟨b, off, none⟩) n c] w fun e w' => DecNo w e w' := by
  have h24 := h.1
  have HRD := Lib.hid h
  clear h
  have h20 : ¬ c = 20 := by omega
  obtain ⟨r, hr⟩ : ∃ z, faultOf (readM n xs) = z := ⟨_, rfl⟩
  rw [hr] at hf
  have hrn : (r != 0) = true := by rw [bne_iff_ne]; exact hf
  have HF := Lib.hid hr
  clear hr hf
  obtain ⟨l, hl⟩ : ∃ z, readM n xs = z := ⟨_, rfl⟩
  have HRM := Lib.hid hl
  rw [hl] at HF
  clear hl
  have HD := ha.kept
  have HBY := Lib.hid hb
  have hlen := ha.1
  obtain ⟨z0, hz0⟩ : ∃ z, rval n xs 0 2 = z := ⟨_, rfl⟩
  obtain ⟨z1, hz1⟩ : ∃ z, rval n xs 2 1 = z := ⟨_, rfl⟩
  obtain ⟨z2, hz2⟩ : ∃ z, rval n xs 3 1 = z := ⟨_, rfl⟩
  obtain ⟨z3, hz3⟩ : ∃ z, rval n xs 4 4 = z := ⟨_, rfl⟩
  obtain ⟨z4, hz4⟩ : ∃ z, rval n xs 8 4 = z := ⟨_, rfl⟩
  obtain ⟨z5, hz5⟩ : ∃ z, rval n xs 12 4 = z := ⟨_, rfl⟩
  have hbd := rval_bd n xs 12 4 hb ha.1
  rw [hz5] at hbd hsq
  obtain ⟨hbd1, hbd2⟩ := hbd
  have r2_ : rval n xs 2 1 = xs.getD 2 0 := rval_one (a := 2) hlen (by omega)
  have r3_ : rval n xs 3 1 = xs.getD 3 0 := rval_one (a := 3) hlen (by omega)
  have c2 : w.cell? ⟨b, off + 2, none⟩ = some (.int .u8 z1) := by obtain ⟨b', o', e, h⟩ := ha.at_ (k := 2) (by omega); injection e with e; injection e with e1 e2; subst e1 e2; rw [h, ← hz1, r2_]
  have c3 : w.cell? ⟨b, off + 3, none⟩ = some (.int .u8 z2) := by obtain ⟨b', o', e, h⟩ := ha.at_ (k := 3) (by omega); injection e with e; injection e with e1 e2; subst e1 e2; rw [h, ← hz2, r3_]
  have hbz1 : 0 ≤ z1 ∧ z1 < 256 := by rw [← hz1, r2_]; exact hb.at_ 2
  have hbz2 : 0 ≤ z2 ∧ z2 < 256 := by rw [← hz2, r3_]; exact hb.at_ 3
  obtain ⟨y1, y2⟩ := hbz1
  obtain ⟨y3, y4⟩ := hbz2
  have HSQ : Hid (seqR n xs = z5 - 4294967296) := Lib.hid (by unfold seqR; rw [hz5, if_pos hsq])
  have HHD := Lib.hid (headR_eq hz0 hz1 hz2 hz3 hz4 HSQ.out)
  have Hz0 := Lib.hid hz0
  have Hz1 := Lib.hid hz1
  have Hz2 := Lib.hid hz2
  have Hz3 := Lib.hid hz3
  have Hz4 := Lib.hid hz4
  have Hz5 := Lib.hid hz5
  have HLEN := Lib.hid hlen
  have i2 : (2 : Int) < n := by omega
  have i3 : (3 : Int) < n := by omega
  have lb := World.block_lt_of_cell? w _ c2
  have HC2 := Lib.hid c2
  have HC3 := Lib.hid c3
  clear r2_ r3_ ha hb hz0 hz1 hz2 hz3 hz4 hz5 hlen c2 c3
  have HB := Lib.hid (Below.refl w.heap.size w)
  go_enter Try.func77, Try.ntmps77
  go_wp2
  refine Code.wp_name ?_
  intro U1 hU1
  have hb : Below w.heap.size w U1 := by rw [hU1]; exact ((Below.refl _ _).alloc (Nat.le_refl _) _)
  have zz : Hid (w.heap.size + 1 = U1.heap.size) := Lib.hid (by rw [hU1]; simp)
  have HX1 : Kept w.heap.size (w.heap.size + 1) (BoxK w.heap.size 29 #[.int .i64 0, .int .i64 0, .int .i64 0, .int .i64 0, .int .i64 0, .int .i64 0, .slice none 0 0, .slice none 0 0, .int .i64 0, .int .i64 0]) U1 := by rw [hU1]; exact Kept.box (Box.made_at _ _ _ rfl)
  have hbU := Lib.hid hb
  replace HD := HD.below hb
  replace HB := Lib.hid (below_step HB.out hb)
  clear hb
  have Z1 := zz; clear zz
  clear hU1
  have lb2 : b < U1.heap.size := by have := Z1.out; omega
  have D2 : U1.cell? ⟨b, off + 2, none⟩ = some (.int .u8 z1) := (hbU.out.cell (p := ⟨b, off + 2, none⟩) lb).trans HC2.out
  have D3 : U1.cell? ⟨b, off + 3, none⟩ = some (.int .u8 z2) := (hbU.out.cell (p := ⟨b, off + 3, none⟩) lb).trans HC3.out
  have SB : Hid (∀ W, Hid (Below U1.heap.size U1 W) → (fun W => W.cell? ⟨b, off + 2, none⟩ = some (.int .u8 z1) ∧ W.cell? ⟨b, off + 3, none⟩ = some (.int .u8 z2)) W) := fun W h => ⟨(h.out.cell (p := ⟨b, off + 2, none⟩) lb2).trans D2, (h.out.cell (p := ⟨b, off + 3, none⟩) lb2).trans D3⟩
  have V0 : Hid (Below U1.heap.size U1 U1.drew) := (Below.refl _ _).drew
  have VA0 : ∀ o, Hid (Below U1.heap.size U1 (U1.alloc o).drew) := fun o => ((Below.refl _ _).alloc (Nat.le_refl _) o).drew
  clear D2 D3
  have hw1 : IntKind.i64.wrap z1 = z1 := by simp [IntKind.wrap, IntKind.bits]; omega
  have hw2 : IntKind.i64.wrap z2 = z2 := by simp [IntKind.wrap, IntKind.bits]; omega
  go_upto_region 1 with (fail)
  go_cut [4] (fun s4 wx => ∃ g, s4 = .pointer (some ⟨g, 0, none⟩) ∧ Hid (U1.heap.size ≤ g) ∧ Kept g (g + 1) (BoxK g 29 #[.int .i64 z0, .int .i64 z1, .int .i64 z2, .int .i64 z3, .int .i64 z4, .int .i64 z5, .slice none 0 0, .slice none 0 0, .int .i64 0, .int .i64 0]) wx ∧ Hid (Below U1.heap.size U1 wx))
  case first =>
    go_region_held3 (fun W => W.cell? ⟨b, off + 2, none⟩ = some (.int .u8 z1) ∧ W.cell? ⟨b, off + 3, none⟩ = some (.int .u8 z2)) (first | (with_reducible exact SB.out _ V0) | (with_reducible exact SB.out _ (VA0 _)))
      (first
        | (go_at_call 75; ((with_reducible refine (l1ReadI (some ⟨b, off, none⟩) n c xs 0 2 _ (HD.below V0.out).out HBY.out (by omega) (by omega) (by omega) (by omega)).mono ?_); rw [Hz0.out]; rintro e u ⟨rfl, rfl⟩))
        | (go_at_call 75; ((with_reducible refine (l1ReadI (some ⟨b, off, none⟩) n c xs 0 2 _ (HD.below (VA0 _).out).out HBY.out (by omega) (by omega) (by omega) (by omega)).mono ?_); rw [Hz0.out]; rintro e u ⟨rfl, rfl⟩))
        | (go_at_call 75; ((with_reducible refine (l1ReadI (some ⟨b, off, none⟩) n c xs 4 4 _ (HD.below V0.out).out HBY.out (by omega) (by omega) (by omega) (by omega)).mono ?_); rw [Hz3.out]; rintro e u ⟨rfl, rfl⟩))
        | (go_at_call 75; ((with_reducible refine (l1ReadI (some ⟨b, off, none⟩) n c xs 4 4 _ (HD.below (VA0 _).out).out HBY.out (by omega) (by omega) (by omega) (by omega)).mono ?_); rw [Hz3.out]; rintro e u ⟨rfl, rfl⟩))
        | (go_at_call 75; ((with_reducible refine (l1ReadI (some ⟨b, off, none⟩) n c xs 8 4 _ (HD.below V0.out).out HBY.out (by omega) (by omega) (by omega) (by omega)).mono ?_); rw [Hz4.out]; rintro e u ⟨rfl, rfl⟩))
        | (go_at_call 75; ((with_reducible refine (l1ReadI (some ⟨b, off, none⟩) n c xs 8 4 _ (HD.below (VA0 _).out).out HBY.out (by omega) (by omega) (by omega) (by omega)).mono ?_); rw [Hz4.out]; rintro e u ⟨rfl, rfl⟩))
        | (go_at_call 75; ((with_reducible refine (l1ReadI (some ⟨b, off, none⟩) n c xs 12 4 _ (HD.below V0.out).out HBY.out (by omega) (by omega) (by omega) (by omega)).mono ?_); rw [Hz5.out]; rintro e u ⟨rfl, rfl⟩))
        | (go_at_call 75; ((with_reducible refine (l1ReadI (some ⟨b, off, none⟩) n c xs 12 4 _ (HD.below (VA0 _).out).out HBY.out (by omega) (by omega) (by omega) (by omega)).mono ?_); rw [Hz5.out]; rintro e u ⟨rfl, rfl⟩)))
    all_goals (go_wp2_with fail; go_meet; exact ⟨_, rfl, Lib.hid (Nat.le_refl _), Kept.box (show Box _ _ _ _ from Box.made _ _ _), VA0 _⟩)
  obtain ⟨g, rfl, hg, HW, HC⟩ := hcut
  obtain ⟨wx, rfl⟩ : ∃ W : World, W = wc := ⟨_, rfl⟩
  have hb := HC.out
  clear HC SB V0 VA0 HC2 HC3 hw1 hw2
  have Z2 := hg
  have Z3 := Lib.hid hb.size
  have Z4 := Lib.hid HW.le
  clear hg hbU
  replace HD := HD.below hb
  replace HX1 := HX1.below hb
  replace HB := Lib.hid (below_step HB.out hb)
  clear hb
  have hsq' : 2147483647 < z5 := hsq
  clear hsq
  have hi20 : (20 : Int) ≤ n := by omega
  have hi21 : (n : Int) ≤ c := by omega
  have c2_0 := HW.look 5
  have f2_0 := HW.free 5
  have l2_0 := HX1.bx.lt
  have l2_1 := HW.bx.lt
  go_wp2_with fail
  clear c2_0 f2_0 l2_0 l2_1
  refine Calls.name ?_
  intro U2 hU2
  have ho : Only g (g + 1) wx U2 := by rw [hU2]; exact ((Only.refl _ _ _).set (p := ⟨g, 5, none⟩) (Nat.le_refl _) (Nat.lt_succ_self _) _)
  replace HW : Kept g (g + 1) (BoxK g 29 #[.int .i64 z0, .int .i64 z1, .int .i64 z2, .int .i64 z3, .int .i64 z4, .int .i64 (z5 - 4294967296), .slice none 0 0, .slice none 0 0, .int .i64 0, .int .i64 0]) U2 := by rw [hU2]; exact Kept.box (HW.bx.puts 5 (.int .i64 (z5 - 4294967296)) (cs' := #[.int .i64 z0, .int .i64 z1, .int .i64 z2, .int .i64 z3, .int .i64 z4, .int .i64 (z5 - 4294967296), .slice none 0 0, .slice none 0 0, .int .i64 0, .int .i64 0]) rfl)
  replace HD := HD.only ho (by have := Z1.out; have := Z2.out; have := Z3.out; have := Z4.out; omega)
  replace HX1 := HX1.only ho (by have := Z1.out; have := Z2.out; have := Z3.out; have := Z4.out; omega)
  replace HB := Lib.hid (Below.only HB.out ho (by have := Z1.out; have := Z2.out; have := Z3.out; have := Z4.out; omega) HB.out.size)
  have Z5 := Lib.hid ho.size; clear ho
  clear hU2
  have hX : Box U2 g 29 (lsaCells (headR n xs) none none 0 0 0 0) := by rw [HHD.out]; exact HW.bx
  have hP : BIn U2 (some ⟨b, off + 20, none⟩) (n - 20) (xs.drop 20) := by
    have h := HD.out.part (a := 20) (s := n - 20) (by omega)
    rw [List.take_of_length_le (by rw [List.length_drop, HLEN.out]; exact Nat.le_refl _)] at h
    exact h
  have hNE : ∀ r, Option.map (fun x : Addr => x.block) (some ⟨b, off + 20, none⟩) = some r → r ≠ g := fun r hr => by simp only [Option.map_some, Option.some.injEq] at hr; have := Z1.out; have := Z2.out; have := Z3.out; have := Z4.out; have := Z5.out; omega
  refine (l2Read_yes g (some ⟨b, off + 20, none⟩) n (c - 20) xs _ hX hP HLEN.out HBY.out (by omega) hNE HRD.out).mono ?_
  rintro e w3 ⟨E, F, k, d, m, d2, rfl, hx, ht, hk, hm, hg⟩
  rw [HRM.out] at hx ht
  clear hX hP hNE
  have ho : Only g (g + 1) U2 w3 := Only.of_grown hg (fun r hr => by injection hr with hr; omega)
  have Z6 := Lib.hid hg.size
  replace HD := HD.only ho (by have := Z1.out; have := Z2.out; have := Z3.out; have := Z4.out; have := Z5.out; have := Z6.out; omega)
  replace HX1 := HX1.only ho (by have := Z1.out; have := Z2.out; have := Z3.out; have := Z4.out; have := Z5.out; have := Z6.out; omega)
  replace HB := Lib.hid (Below.only HB.out ho (by have := Z1.out; have := Z2.out; have := Z3.out; have := Z4.out; have := Z5.out; have := Z6.out; omega) HB.out.size)
  clear HW ho hg
  have HW := Kept.box hx; clear hx
  have HT := ht.kept; clear ht
  have c3_0 := HW.look 0
  have c3_1 := HW.look 1
  have c3_2 := HW.look 2
  have c3_3 := HW.look 3
  have c3_4 := HW.look 4
  have c3_5 := HW.look 5
  have c3_6 := HW.look 6
  have c3_7 := HW.look 7
  have c3_8 := HW.look 8
  have c3_9 := HW.look 9
  have l3_0 := HX1.bx.lt
  have l3_1 := HW.bx.lt
  go_wp2_with fail
  clear c3_0 c3_1 c3_2 c3_3 c3_4 c3_5 c3_6 c3_7 c3_8 c3_9 l3_0 l3_1
  refine (specFault_any l true _ _ E F k d m d2 _ HT.two.at_.in_ HT.two.at_.le (by omega) (by omega)).mono ?_
  rw [HF.out]
  rintro e w4 ⟨rfl, hb⟩
  have Z7 := Lib.hid hb.size
  replace HD := HD.below hb
  replace HX1 := HX1.below hb
  replace HW := HW.below hb
  replace HT := HT.below hb
  replace HB := Lib.hid (below_step HB.out hb)
  clear hb
  have c4_0 := HX1.look 0
  have c4_1 := HX1.look 1
  have c4_2 := HX1.look 2
  have c4_3 := HX1.look 3
  have c4_4 := HX1.look 4
  have c4_5 := HX1.look 5
  have c4_6 := HX1.look 6
  have c4_7 := HX1.look 7
  have c4_8 := HX1.look 8
  have c4_9 := HX1.look 9
  have f4_0 := HX1.free 0
  have f4_1 := HX1.free 1
  have f4_2 := HX1.free 2
  have f4_3 := HX1.free 3
  have f4_4 := HX1.free 4
  have f4_5 := HX1.free 5
  have f4_6 := HX1.free 6
  have f4_7 := HX1.free 7
  have f4_8 := HX1.free 8
  have f4_9 := HX1.free 9
  have l4_0 := HX1.bx.lt
  have l4_1 := HW.bx.lt
  go_wp2
  clear c4_0 c4_1 c4_2 c4_3 c4_4 c4_5 c4_6 c4_7 c4_8 c4_9 f4_0 f4_1 f4_2 f4_3 f4_4 f4_5 f4_6 f4_7 f4_8 f4_9 l4_0 l4_1
  obtain ⟨U5, hU5⟩ : ∃ W : World, W = ((((((((((w4.setCell ⟨w.heap.size, 0, none⟩ (.int .i64 0)).setCell ⟨w.heap.size, 1, none⟩ (.int .i64 0)).setCell ⟨w.heap.size, 2, none⟩ (.int .i64 0)).setCell ⟨w.heap.size, 3, none⟩ (.int .i64 0)).setCell ⟨w.heap.size, 4, none⟩ (.int .i64 0)).setCell ⟨w.heap.size, 5, none⟩ (.int .i64 0)).setCell ⟨w.heap.size, 6, none⟩ (.slice none 0 0)).setCell ⟨w.heap.size, 7, none⟩ (.slice none 0 0)).setCell ⟨w.heap.size, 8, none⟩ (.int .i64 0)).setCell ⟨w.heap.size, 9, none⟩ (.int .i64 0)) := ⟨_, rfl⟩
  have ho : Only w.heap.size (w.heap.size + 1) w4 U5 := by rw [hU5]; exact (((((((((((Only.refl _ _ _).set (p := ⟨w.heap.size, 0, none⟩) (Nat.le_refl _) (Nat.lt_succ_self _) _).set (p := ⟨w.heap.size, 1, none⟩) (Nat.le_refl _) (Nat.lt_succ_self _) _).set (p := ⟨w.heap.size, 2, none⟩) (Nat.le_refl _) (Nat.lt_succ_self _) _).set (p := ⟨w.heap.size, 3, none⟩) (Nat.le_refl _) (Nat.lt_succ_self _) _).set (p := ⟨w.heap.size, 4, none⟩) (Nat.le_refl _) (Nat.lt_succ_self _) _).set (p := ⟨w.heap.size, 5, none⟩) (Nat.le_refl _) (Nat.lt_succ_self _) _).set (p := ⟨w.heap.size, 6, none⟩) (Nat.le_refl _) (Nat.lt_succ_self _) _).set (p := ⟨w.heap.size, 7, none⟩) (Nat.le_refl _) (Nat.lt_succ_self _) _).set (p := ⟨w.heap.size, 8, none⟩) (Nat.le_refl _) (Nat.lt_succ_self _) _).set (p := ⟨w.heap.size, 9, none⟩) (Nat.le_refl _) (Nat.lt_succ_self _) _)
  replace HX1 : Kept w.heap.size (w.heap.size + 1) (BoxK w.heap.size 29 #[.int .i64 0, .int .i64 0, .int .i64 0, .int .i64 0, .int .i64 0, .int .i64 0, .slice none 0 0, .slice none 0 0, .int .i64 0, .int .i64 0]) U5 := by rw [hU5]; exact Kept.box ((((((((((HX1.bx.puts 0 (.int .i64 0) (cs' := #[.int .i64 0, .int .i64 0, .int .i64 0, .int .i64 0, .int .i64 0, .int .i64 0, .slice none 0 0, .slice none 0 0, .int .i64 0, .int .i64 0]) rfl).puts 1 (.int .i64 0) (cs' := #[.int .i64 0, .int .i64 0, .int .i64 0, .int .i64 0, .int .i64 0, .int .i64 0, .slice none 0 0, .slice none 0 0, .int .i64 0, .int .i64 0]) rfl).puts 2 (.int .i64 0) (cs' := #[.int .i64 0, .int .i64 0, .int .i64 0, .int .i64 0, .int .i64 0, .int .i64 0, .slice none 0 0, .slice none 0 0, .int .i64 0, .int .i64 0]) rfl).puts 3 (.int .i64 0) (cs' := #[.int .i64 0, .int .i64 0, .int .i64 0, .int .i64 0, .int .i64 0, .int .i64 0, .slice none 0 0, .slice none 0 0, .int .i64 0, .int .i64 0]) rfl).puts 4 (.int .i64 0) (cs' := #[.int .i64 0, .int .i64 0, .int .i64 0, .int .i64 0, .int .i64 0, .int .i64 0, .slice none 0 0, .slice none 0 0, .int .i64 0, .int .i64 0]) rfl).puts 5 (.int .i64 0) (cs' := #[.int .i64 0, .int .i64 0, .int .i64 0, .int .i64 0, .int .i64 0, .int .i64 0, .slice none 0 0, .slice none 0 0, .int .i64 0, .int .i64 0]) rfl).puts 6 (.slice none 0 0) (cs' := #[.int .i64 0, .int .i64 0, .int .i64 0, .int .i64 0, .int .i64 0, .int .i64 0, .slice none 0 0, .slice none 0 0, .int .i64 0, .int .i64 0]) rfl).puts 7 (.slice none 0 0) (cs' := #[.int .i64 0, .int .i64 0, .int .i64 0, .int .i64 0, .int .i64 0, .int .i64 0, .slice none 0 0, .slice none 0 0, .int .i64 0, .int .i64 0]) rfl).puts 8 (.int .i64 0) (cs' := #[.int .i64 0, .int .i64 0, .int .i64 0, .int .i64 0, .int .i64 0, .int .i64 0, .slice none 0 0, .slice none 0 0, .int .i64 0, .int .i64 0]) rfl).puts 9 (.int .i64 0) (cs' := #[.int .i64 0, .int .i64 0, .int .i64 0, .int .i64 0, .int .i64 0, .int .i64 0, .slice none 0 0, .slice none 0 0, .int .i64 0, .int .i64 0]) rfl)
  replace HD := HD.only ho (by have := Z1.out; have := Z2.out; have := Z3.out; have := Z4.out; have := Z5.out; have := Z6.out; have := Z7.out; omega)
  replace HW := HW.only ho (by have := Z1.out; have := Z2.out; have := Z3.out; have := Z4.out; have := Z5.out; have := Z6.out; have := Z7.out; omega)
  replace HT := HT.only ho (by have := Z1.out; have := Z2.out; have := Z3.out; have := Z4.out; have := Z5.out; have := Z6.out; have := Z7.out; omega)
  replace HB := Lib.hid (Below.only HB.out ho (by have := Z1.out; have := Z2.out; have := Z3.out; have := Z4.out; have := Z5.out; have := Z6.out; have := Z7.out; omega) HB.out.size)
  have Z8 := Lib.hid ho.size; clear ho
  have fin : DecNo w (.returned (.tuple #[.agg (lsaCells zeroM none none 0 0 0 0), .bool false])) U5 := ⟨zeroM, none, none, 0, 0, 0, 0, rfl, HB.out⟩
  have q_0 := HX1.look 0
  have q_1 := HX1.look 1
  have q_2 := HX1.look 2
  have q_3 := HX1.look 3
  have q_4 := HX1.look 4
  have q_5 := HX1.look 5
  have q_6 := HX1.look 6
  have q_7 := HX1.look 7
  have q_8 := HX1.look 8
  have q_9 := HX1.look 9
  subst hU5
  exact bodyPost_ret (v := .tuple #[.agg (lsaCells zeroM none none 0 0 0 0), .bool false]) (by simp [results, Try.results77, go_sem, zeroM, q_0, q_1, q_2, q_3, q_4, q_5, q_6, q_7, q_8, q_9]) rfl fin

set_option maxRecDepth 100000 in
set_option maxHeartbeats 6400000 in
theorem l2Decode_fault_0 (b off n c : Nat) (xs : List Int) (w : World) (ha : BIn w (some ⟨b, off, none⟩) n xs) (hb : Bytes xs) (hnc : n ≤ c) (hn0 : 20 ≤ n) (hn : n ≤ 400) (hsq : ¬ 2147483647 < rval n xs 12 4) (h : rdB n xs) (hf : ¬ faultOf (readM n xs) = 0) :
    Calls Try.prog 77 #[.slice (some ⟨b, off, none⟩) n c] w fun e w' => DecNo w e w' := by
  have h24 := h.1
  have HRD := Lib.hid h
  clear h
  have h20 : ¬ c = 20 := by omega
  obtain ⟨r, hr⟩ : ∃ z, faultOf (readM n xs) = z := ⟨_, rfl⟩
  rw [hr] at hf
  have hrn : (r != 0) = true := by rw [bne_iff_ne]; exact hf
  have HF := Lib.hid hr
  clear hr hf
  obtain ⟨l, hl⟩ : ∃ z, readM n xs = z := ⟨_, rfl⟩
  have HRM := Lib.hid hl
  rw [hl] at HF
  clear hl
  have HD := ha.kept
  have HBY := Lib.hid hb
  have hlen := ha.1
  obtain ⟨z0, hz0⟩ : ∃ z, rval n xs 0 2 = z := ⟨_, rfl⟩
  obtain ⟨z1, hz1⟩ : ∃ z, rval n xs 2 1 = z := ⟨_, rfl⟩
  obtain ⟨z2, hz2⟩ : ∃ z, rval n xs 3 1 = z := ⟨_, rfl⟩
  obtain ⟨z3, hz3⟩ : ∃ z, rval n xs 4 4 = z := ⟨_, rfl⟩
  obtain ⟨z4, hz4⟩ : ∃ z, rval n xs 8 4 = z := ⟨_, rfl⟩
  obtain ⟨z5, hz5⟩ : ∃ z, rval n xs 12 4 = z := ⟨_, rfl⟩
  have hbd := rval_bd n xs 12 4 hb ha.1
  rw [hz5] at hbd hsq
  obtain ⟨hbd1, hbd2⟩ := hbd
  have r2_ : rval n xs 2 1 = xs.getD 2 0 := rval_one (a := 2) hlen (by omega)
  have r3_ : rval n xs 3 1 = xs.getD 3 0 := rval_one (a := 3) hlen (by omega)
  have c2 : w.cell? ⟨b, off + 2, none⟩ = some (.int .u8 z1) := by obtain ⟨b', o', e, h⟩ := ha.at_ (k := 2) (by omega); injection e with e; injection e with e1 e2; subst e1 e2; rw [h, ← hz1, r2_]
  have c3 : w.cell? ⟨b, off + 3, none⟩ = some (.int .u8 z2) := by obtain ⟨b', o', e, h⟩ := ha.at_ (k := 3) (by omega); injection e with e; injection e with e1 e2; subst e1 e2; rw [h, ← hz2, r3_]
  have hbz1 : 0 ≤ z1 ∧ z1 < 256 := by rw [← hz1, r2_]; exact hb.at_ 2
  have hbz2 : 0 ≤ z2 ∧ z2 < 256 := by rw [← hz2, r3_]; exact hb.at_ 3
  obtain ⟨y1, y2⟩ := hbz1
  obtain ⟨y3, y4⟩ := hbz2
  have HSQ : Hid (seqR n xs = z5) := Lib.hid (by unfold seqR; rw [hz5, if_neg hsq])
  have HHD := Lib.hid (headR_eq hz0 hz1 hz2 hz3 hz4 HSQ.out)
  have Hz0 := Lib.hid hz0
  have Hz1 := Lib.hid hz1
  have Hz2 := Lib.hid hz2
  have Hz3 := Lib.hid hz3
  have Hz4 := Lib.hid hz4
  have Hz5 := Lib.hid hz5
  have HLEN := Lib.hid hlen
  have i2 : (2 : Int) < n := by omega
  have i3 : (3 : Int) < n := by omega
  have lb := World.block_lt_of_cell? w _ c2
  have HC2 := Lib.hid c2
  have HC3 := Lib.hid c3
  clear r2_ r3_ ha hb hz0 hz1 hz2 hz3 hz4 hz5 hlen c2 c3
  have HB := Lib.hid (Below.refl w.heap.size w)
  go_enter Try.func77, Try.ntmps77
  go_wp2
  refine Code.wp_name ?_
  intro U1 hU1
  have hb : Below w.heap.size w U1 := by rw [hU1]; exact ((Below.refl _ _).alloc (Nat.le_refl _) _)
  have zz : Hid (w.heap.size + 1 = U1.heap.size) := Lib.hid (by rw [hU1]; simp)
  have HX1 : Kept w.heap.size (w.heap.size + 1) (BoxK w.heap.size 29 #[.int .i64 0, .int .i64 0, .int .i64 0, .int .i64 0, .int .i64 0, .int .i64 0, .slice none 0 0, .slice none 0 0, .int .i64 0, .int .i64 0]) U1 := by rw [hU1]; exact Kept.box (Box.made_at _ _ _ rfl)
  have hbU := Lib.hid hb
  replace HD := HD.below hb
  replace HB := Lib.hid (below_step HB.out hb)
  clear hb
  have Z1 := zz; clear zz
  clear hU1
  have lb2 : b < U1.heap.size := by have := Z1.out; omega
  have D2 : U1.cell? ⟨b, off + 2, none⟩ = some (.int .u8 z1) := (hbU.out.cell (p := ⟨b, off + 2, none⟩) lb).trans HC2.out
  have D3 : U1.cell? ⟨b, off + 3, none⟩ = some (.int .u8 z2) := (hbU.out.cell (p := ⟨b, off + 3, none⟩) lb).trans HC3.out
  have SB : Hid (∀ W, Hid (Below U1.heap.size U1 W) → (fun W => W.cell? ⟨b, off + 2, none⟩ = some (.int .u8 z1) ∧ W.cell? ⟨b, off + 3, none⟩ = some (.int .u8 z2)) W) := fun W h => ⟨(h.out.cell (p := ⟨b, off + 2, none⟩) lb2).trans D2, (h.out.cell (p := ⟨b, off + 3, none⟩) lb2).trans D3⟩
  have V0 : Hid (Below U1.heap.size U1 U1.drew) := (Below.refl _ _).drew
  have VA0 : ∀ o, Hid (Below U1.heap.size U1 (U1.alloc o).drew) := fun o => ((Below.refl _ _).alloc (Nat.le_refl _) o).drew
  clear D2 D3
  have hw1 : IntKind.i64.wrap z1 = z1 := by simp [IntKind.wrap, IntKind.bits]; omega
  have hw2 : IntKind.i64.wrap z2 = z2 := by simp [IntKind.wrap, IntKind.bits]; omega
  go_upto_region 1 with (fail)
  go_cut [4] (fun s4 wx => ∃ g, s4 = .pointer (some ⟨g, 0, none⟩) ∧ Hid (U1.heap.size ≤ g) ∧ Kept g (g + 1) (BoxK g 29 #[.int .i64 z0, .int .i64 z1, .int .i64 z2, .int .i64 z3, .int .i64 z4, .int .i64 z5, .slice none 0 0, .slice none 0 0, .int .i64 0, .int .i64 0]) wx ∧ Hid (Below U1.heap.size U1 wx))
  case first =>
    go_region_held3 (fun W => W.cell? ⟨b, off + 2, none⟩ = some (.int .u8 z1) ∧ W.cell? ⟨b, off + 3, none⟩ = some (.int .u8 z2)) (first | (with_reducible exact SB.out _ V0) | (with_reducible exact SB.out _ (VA0 _)))
      (first
        | (go_at_call 75; ((with_reducible refine (l1ReadI (some ⟨b, off, none⟩) n c xs 0 2 _ (HD.below V0.out).out HBY.out (by omega) (by omega) (by omega) (by omega)).mono ?_); rw [Hz0.out]; rintro e u ⟨rfl, rfl⟩))
        | (go_at_call 75; ((with_reducible refine (l1ReadI (some ⟨b, off, none⟩) n c xs 0 2 _ (HD.below (VA0 _).out).out HBY.out (by omega) (by omega) (by omega) (by omega)).mono ?_); rw [Hz0.out]; rintro e u ⟨rfl, rfl⟩))
        | (go_at_call 75; ((with_reducible refine (l1ReadI (some ⟨b, off, none⟩) n c xs 4 4 _ (HD.below V0.out).out HBY.out (by omega) (by omega) (by omega) (by omega)).mono ?_); rw [Hz3.out]; rintro e u ⟨rfl, rfl⟩))
        | (go_at_call 75; ((with_reducible refine (l1ReadI (some ⟨b, off, none⟩) n c xs 4 4 _ (HD.below (VA0 _).out).out HBY.out (by omega) (by omega) (by omega) (by omega)).mono ?_); rw [Hz3.out]; rintro e u ⟨rfl, rfl⟩))
        | (go_at_call 75; ((with_reducible refine (l1ReadI (some ⟨b, off, none⟩) n c xs 8 4 _ (HD.below V0.out).out HBY.out (by omega) (by omega) (by omega) (by omega)).mono ?_); rw [Hz4.out]; rintro e u ⟨rfl, rfl⟩))
        | (go_at_call 75; ((with_reducible refine (l1ReadI (some ⟨b, off, none⟩) n c xs 8 4 _ (HD.below (VA0 _).out).out HBY.out (by omega) (by omega) (by omega) (by omega)).mono ?_); rw [Hz4.out]; rintro e u ⟨rfl, rfl⟩))
        | (go_at_call 75; ((with_reducible refine (l1ReadI (some ⟨b, off, none⟩) n c xs 12 4 _ (HD.below V0.out).out HBY.out (by omega) (by omega) (by omega) (by omega)).mono ?_); rw [Hz5.out]; rintro e u ⟨rfl, rfl⟩))
        | (go_at_call 75; ((with_reducible refine (l1ReadI (some ⟨b, off, none⟩) n c xs 12 4 _ (HD.below (VA0 _).out).out HBY.out (by omega) (by omega) (by omega) (by omega)).mono ?_); rw [Hz5.out]; rintro e u ⟨rfl, rfl⟩)))
    all_goals (go_wp2_with fail; go_meet; exact ⟨_, rfl, Lib.hid (Nat.le_refl _), Kept.box (show Box _ _ _ _ from Box.made _ _ _), VA0 _⟩)
  obtain ⟨g, rfl, hg, HW, HC⟩ := hcut
  obtain ⟨wx, rfl⟩ : ∃ W : World, W = wc := ⟨_, rfl⟩
  have hb := HC.out
  clear HC SB V0 VA0 HC2 HC3 hw1 hw2
  have Z2 := hg
  have Z3 := Lib.hid hb.size
  have Z4 := Lib.hid HW.le
  clear hg hbU
  replace HD := HD.below hb
  replace HX1 := HX1.below hb
  replace HB := Lib.hid (below_step HB.out hb)
  clear hb
  have hi20 : (20 : Int) ≤ n := by omega
  have hi21 : (n : Int) ≤ c := by omega
  have c2_0 := HW.look 5
  have l2_0 := HX1.bx.lt
  have l2_1 := HW.bx.lt
  go_wp2_with fail
  clear c2_0 l2_0 l2_1
  have hX : Box wx g 29 (lsaCells (headR n xs) none none 0 0 0 0) := by rw [HHD.out]; exact HW.bx
  have hP : BIn wx (some ⟨b, off + 20, none⟩) (n - 20) (xs.drop 20) := by
    have h := HD.out.part (a := 20) (s := n - 20) (by omega)
    rw [List.take_of_length_le (by rw [List.length_drop, HLEN.out]; exact Nat.le_refl _)] at h
    exact h
  have hNE : ∀ r, Option.map (fun x : Addr => x.block) (some ⟨b, off + 20, none⟩) = some r → r ≠ g := fun r hr => by simp only [Option.map_some, Option.some.injEq] at hr; have := Z1.out; have := Z2.out; have := Z3.out; have := Z4.out; omega
  refine (l2Read_yes g (some ⟨b, off + 20, none⟩) n (c - 20) xs _ hX hP HLEN.out HBY.out (by omega) hNE HRD.out).mono ?_
  rintro e w2 ⟨E, F, k, d, m, d2, rfl, hx, ht, hk, hm, hg⟩
  rw [HRM.out] at hx ht
  clear hX hP hNE
  have ho : Only g (g + 1) wx w2 := Only.of_grown hg (fun r hr => by injection hr with hr; omega)
  have Z5 := Lib.hid hg.size
  replace HD := HD.only ho (by have := Z1.out; have := Z2.out; have := Z3.out; have := Z4.out; have := Z5.out; omega)
  replace HX1 := HX1.only ho (by have := Z1.out; have := Z2.out; have := Z3.out; have := Z4.out; have := Z5.out; omega)
  replace HB := Lib.hid (Below.only HB.out ho (by have := Z1.out; have := Z2.out; have := Z3.out; have := Z4.out; have := Z5.out; omega) HB.out.size)
  clear HW ho hg
  have HW := Kept.box hx; clear hx
  have HT := ht.kept; clear ht
  have c3_0 := HW.look 0
  have c3_1 := HW.look 1
  have c3_2 := HW.look 2
  have c3_3 := HW.look 3
  have c3_4 := HW.look 4
  have c3_5 := HW.look 5
  have c3_6 := HW.look 6
  have c3_7 := HW.look 7
  have c3_8 := HW.look 8
  have c3_9 := HW.look 9
  have l3_0 := HX1.bx.lt
  have l3_1 := HW.bx.lt
  go_wp2_with fail
  clear c3_0 c3_1 c3_2 c3_3 c3_4 c3_5 c3_6 c3_7 c3_8 c3_9 l3_0 l3_1
  refine (specFault_any l true _ _ E F k d m d2 _ HT.two.at_.in_ HT.two.at_.le (by omega) (by omega)).mono ?_
  rw [HF.out]
  rintro e w3 ⟨rfl, hb⟩
  have Z6 := Lib.hid hb.size
  replace HD := HD.below hb
  replace HX1 := HX1.below hb
  replace HW := HW.below hb
  replace HT := HT.below hb
  replace HB := Lib.hid (below_step HB.out hb)
  clear hb
  have c4_0 := HX1.look 0
  have c4_1 := HX1.look 1
  have c4_2 := HX1.look 2
  have c4_3 := HX1.look 3
  have c4_4 := HX1.look 4
  have c4_5 := HX1.look 5
  have c4_6 := HX1.look 6
  have c4_7 := HX1.look 7
  have c4_8 := HX1.look 8
  have c4_9 := HX1.look 9
  have f4_0 := HX1.free 0
  have f4_1 := HX1.free 1
  have f4_2 := HX1.free 2
  have f4_3 := HX1.free 3
  have f4_4 := HX1.free 4
  have f4_5 := HX1.free 5
  have f4_6 := HX1.free 6
  have f4_7 := HX1.free 7
  have f4_8 := HX1.free 8
  have f4_9 := HX1.free 9
  have l4_0 := HX1.bx.lt
  have l4_1 := HW.bx.lt
  go_wp2
  clear c4_0 c4_1 c4_2 c4_3 c4_4 c4_5 c4_6 c4_7 c4_8 c4_9 f4_0 f4_1 f4_2 f4_3 f4_4 f4_5 f4_6 f4_7 f4_8 f4_9 l4_0 l4_1
  obtain ⟨U4, hU4⟩ : ∃ W : World, W = ((((((((((w3.setCell ⟨w.heap.size, 0, none⟩ (.int .i64 0)).setCell ⟨w.heap.size, 1, none⟩ (.int .i64 0)).setCell ⟨w.heap.size, 2, none⟩ (.int .i64 0)).setCell ⟨w.heap.size, 3, none⟩ (.int .i64 0)).setCell ⟨w.heap.size, 4, none⟩ (.int .i64 0)).setCell ⟨w.heap.size, 5, none⟩ (.int .i64 0)).setCell ⟨w.heap.size, 6, none⟩ (.slice none 0 0)).setCell ⟨w.heap.size, 7, none⟩ (.slice none 0 0)).setCell ⟨w.heap.size, 8, none⟩ (.int .i64 0)).setCell ⟨w.heap.size, 9, none⟩ (.int .i64 0)) := ⟨_, rfl⟩
  have ho : Only w.heap.size (w.heap.size + 1) w3 U4 := by rw [hU4]; exact (((((((((((Only.refl _ _ _).set (p := ⟨w.heap.size, 0, none⟩) (Nat.le_refl _) (Nat.lt_succ_self _) _).set (p := ⟨w.heap.size, 1, none⟩) (Nat.le_refl _) (Nat.lt_succ_self _) _).set (p := ⟨w.heap.size, 2, none⟩) (Nat.le_refl _) (Nat.lt_succ_self _) _).set (p := ⟨w.heap.size, 3, none⟩) (Nat.le_refl _) (Nat.lt_succ_self _) _).set (p := ⟨w.heap.size, 4, none⟩) (Nat.le_refl _) (Nat.lt_succ_self _) _).set (p := ⟨w.heap.size, 5, none⟩) (Nat.le_refl _) (Nat.lt_succ_self _) _).set (p := ⟨w.heap.size, 6, none⟩) (Nat.le_refl _) (Nat.lt_succ_self _) _).set (p := ⟨w.heap.size, 7, none⟩) (Nat.le_refl _) (Nat.lt_succ_self _) _).set (p := ⟨w.heap.size, 8, none⟩) (Nat.le_refl _) (Nat.lt_succ_self _) _).set (p := ⟨w.heap.size, 9, none⟩) (Nat.le_refl _) (Nat.lt_succ_self _) _)
  replace HX1 : Kept w.heap.size (w.heap.size + 1) (BoxK w.heap.size 29 #[.int .i64 0, .int .i64 0, .int .i64 0, .int .i64 0, .int .i64 0, .int .i64 0, .slice none 0 0, .slice none 0 0, .int .i64 0, .int .i64 0]) U4 := by rw [hU4]; exact Kept.box ((((((((((HX1.bx.puts 0 (.int .i64 0) (cs' := #[.int .i64 0, .int .i64 0, .int .i64 0, .int .i64 0, .int .i64 0, .int .i64 0, .slice none 0 0, .slice none 0 0, .int .i64 0, .int .i64 0]) rfl).puts 1 (.int .i64 0) (cs' := #[.int .i64 0, .int .i64 0, .int .i64 0, .int .i64 0, .int .i64 0, .int .i64 0, .slice none 0 0, .slice none 0 0, .int .i64 0, .int .i64 0]) rfl).puts 2 (.int .i64 0) (cs' := #[.int .i64 0, .int .i64 0, .int .i64 0, .int .i64 0, .int .i64 0, .int .i64 0, .slice none 0 0, .slice none 0 0, .int .i64 0, .int .i64 0]) rfl).puts 3 (.int .i64 0) (cs' := #[.int .i64 0, .int .i64 0, .int .i64 0, .int .i64 0, .int .i64 0, .int .i64 0, .slice none 0 0, .slice none 0 0, .int .i64 0, .int .i64 0]) rfl).puts 4 (.int .i64 0) (cs' := #[.int .i64 0, .int .i64 0, .int .i64 0, .int .i64 0, .int .i64 0, .int .i64 0, .slice none 0 0, .slice none 0 0, .int .i64 0, .int .i64 0]) rfl).puts 5 (.int .i64 0) (cs' := #[.int .i64 0, .int .i64 0, .int .i64 0, .int .i64 0, .int .i64 0, .int .i64 0, .slice none 0 0, .slice none 0 0, .int .i64 0, .int .i64 0]) rfl).puts 6 (.slice none 0 0) (cs' := #[.int .i64 0, .int .i64 0, .int .i64 0, .int .i64 0, .int .i64 0, .int .i64 0, .slice none 0 0, .slice none 0 0, .int .i64 0, .int .i64 0]) rfl).puts 7 (.slice none 0 0) (cs' := #[.int .i64 0, .int .i64 0, .int .i64 0, .int .i64 0, .int .i64 0, .int .i64 0, .slice none 0 0, .slice none 0 0, .int .i64 0, .int .i64 0]) rfl).puts 8 (.int .i64 0) (cs' := #[.int .i64 0, .int .i64 0, .int .i64 0, .int .i64 0, .int .i64 0, .int .i64 0, .slice none 0 0, .slice none 0 0, .int .i64 0, .int .i64 0]) rfl).puts 9 (.int .i64 0) (cs' := #[.int .i64 0, .int .i64 0, .int .i64 0, .int .i64 0, .int .i64 0, .int .i64 0, .slice none 0 0, .slice none 0 0, .int .i64 0, .int .i64 0]) rfl)
  replace HD := HD.only ho (by have := Z1.out; have := Z2.out; have := Z3.out; have := Z4.out; have := Z5.out; have := Z6.out; omega)
  replace HW := HW.only ho (by have := Z1.out; have := Z2.out; have := Z3.out; have := Z4.out; have := Z5.out; have := Z6.out; omega)
  replace HT := HT.only ho (by have := Z1.out; have := Z2.out; have := Z3.out; have := Z4.out; have := Z5.out; have := Z6.out; omega)
  replace HB := Lib.hid (Below.only HB.out ho (by have := Z1.out; have := Z2.out; have := Z3.out; have := Z4.out; have := Z5.out; have := Z6.out; omega) HB.out.size)
  have Z7 := Lib.hid ho.size; clear ho
  have fin : DecNo w (.returned (.tuple #[.agg (lsaCells zeroM none none 0 0 0 0), .bool false])) U4 := ⟨zeroM, none, none, 0, 0, 0, 0, rfl, HB.out⟩
  have q_0 := HX1.look 0
  have q_1 := HX1.look 1
  have q_2 := HX1.look 2
  have q_3 := HX1.look 3
  have q_4 := HX1.look 4
  have q_5 := HX1.look 5
  have q_6 := HX1.look 6
  have q_7 := HX1.look 7
  have q_8 := HX1.look 8
  have q_9 := HX1.look 9
  subst hU4
  exact bodyPost_ret (v := .tuple #[.agg (lsaCells zeroM none none 0 0 0 0), .bool false]) (by simp [results, Try.results77, go_sem, zeroM, q_0, q_1, q_2, q_3, q_4, q_5, q_6, q_7, q_8, q_9]) rfl fin


end Go.Proofs.Ytamclkjofojhmaa

