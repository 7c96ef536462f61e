/-
  What the laws' helpers do with configs, and a config that came in. No statement is proved here.
-/
import Derived.Test.YtiffhjofabaflaaWalk
import Derived.Test.YtiffhjofabaflaaOpen
import Derived.Test.YtiffhjofabaflaaLinks
namespace Go.Proofs.Ytiffhjofabaflaa
open Go.RowKit
set_option linter.unusedVariables false

open Go.ChangeShapes Go.WideShapes Go.ChangeAt Go.Deep
set_option maxRecDepth 100000 in
set_option maxHeartbeats 1600000 in
theorem szConfig_any (sh wk : Int) (A : Option Addr) (n c : Nat) (left : Int) (w : World) (hn : n ≤ maxLen) (h0 : 0 ≤ left) (h1 : left ≤ 1048576) :
    Calls Try.prog 59 #[.agg #[.int .i64 sh, .int .i64 wk, .slice A n c], .int .i64 left] w fun e w' => e = .returned (.int .i64 (if left - n < 0 then -1 else left - n)) ∧ Below w.heap.size w w' := by
  by_cases h : left - n < 0
  · have HB := Lib.hid (Below.refl w.heap.size w)
    have HR : Hid ((if left - (n : Int) < 0 then -1 else left - n) = -1) := Lib.hid (if_pos h)
    go_enter Try.func59, Try.ntmps59
    go_wp2_with fail
    refine Calls.name ?_
    intro U1 hU1
    have hb : Below w.heap.size w U1 := by rw [hU1]; exact ((Below.refl _ _).alloc (Nat.le_refl _) _)
    have zz : Hid (w.heap.size + 1 = U1.heap.size) := Lib.hid (by rw [hU1]; simp)
    have HX1 : Kept w.heap.size (w.heap.size + 1) (BoxK w.heap.size 80 #[.int .i64 sh, .int .i64 wk, .slice A n c]) U1 := by rw [hU1]; exact Kept.box (Box.made_at _ _ _ rfl)
    replace HB := Lib.hid (below_step HB.out hb)
    clear hb
    have Z1 := zz; clear zz
    clear hU1
    refine (szInt64S_no A n c left _ (by omega) hn h0 h1).mono ?_
    rintro e w2 ⟨rfl, rfl⟩
    have l2_0 := HX1.bx.lt
    go_wp2
    clear l2_0
    go_ret
    exact ⟨by first | rfl | (rw [HR.out]; rfl) | rw [HR.out], HB.out⟩
  · have HB := Lib.hid (Below.refl w.heap.size w)
    have HR : Hid ((if left - (n : Int) < 0 then -1 else left - n) = left - n) := Lib.hid (if_neg h)
    go_enter Try.func59, Try.ntmps59
    go_wp2_with fail
    refine Calls.name ?_
    intro U1 hU1
    have hb : Below w.heap.size w U1 := by rw [hU1]; exact ((Below.refl _ _).alloc (Nat.le_refl _) _)
    have zz : Hid (w.heap.size + 1 = U1.heap.size) := Lib.hid (by rw [hU1]; simp)
    have HX1 : Kept w.heap.size (w.heap.size + 1) (BoxK w.heap.size 80 #[.int .i64 sh, .int .i64 wk, .slice A n c]) U1 := by rw [hU1]; exact Kept.box (Box.made_at _ _ _ rfl)
    replace HB := Lib.hid (below_step HB.out hb)
    clear hb
    have Z1 := zz; clear zz
    clear hU1
    refine (szInt64S_yes A n c left _ (by omega) h1).mono ?_
    rintro e w2 ⟨rfl, rfl⟩
    have l2_0 := HX1.bx.lt
    go_wp2
    clear l2_0
    go_ret
    exact ⟨by first | rfl | (rw [HR.out]; rfl) | rw [HR.out], HB.out⟩

set_option maxRecDepth 100000 in
set_option maxHeartbeats 1600000 in
theorem toConfig_any (q : Bool) (lo hi : Nat) (sh wk : Int) (A : Option Addr) (n c : Nat) (ys : List Int) (w : World) (ha : Rep.int.Sl q lo hi w A n ys) (hh : hi ≤ w.heap.size) (hn : n ≤ 1048576) :
    Calls Try.prog 61 #[.agg #[.int .i64 sh, .int .i64 wk, .slice A n c]] w fun e w' => ∃ P, e = .returned (.agg #[.int .i64 sh, .int .i64 wk, .slice P n n]) ∧ Kept w.heap.size w'.heap.size (SlK Rep.int true w.heap.size w'.heap.size P n ys) w' ∧ Below w.heap.size w w' := by
  have HB := Lib.hid (Below.refl w.heap.size w)
  have HA := Rep.Sl.kept ha hh
  clear ha
  go_enter Try.func61, Try.ntmps61
  go_wp2_with fail
  refine Calls.name ?_
  intro U1 hU1
  have hb : Below w.heap.size w U1 := by rw [hU1]; exact ((((Below.refl _ _).alloc (Nat.le_refl _) _).alloc (by simp <;> omega) _).alloc (by simp <;> omega) _)
  have zz : Hid (w.heap.size + 3 = U1.heap.size) := Lib.hid (by rw [hU1]; simp)
  have HX1 : Kept w.heap.size (w.heap.size + 1) (BoxK w.heap.size 80 #[.int .i64 sh, .int .i64 wk, .slice A n c]) U1 := by rw [hU1]; exact Kept.box (((Box.made_at _ _ _ rfl).over _).over _)
  have HX2 : Kept (w.heap.size + 1) (w.heap.size + 1 + 1) (BoxK (w.heap.size + 1) 83 #[.int .i64 0, .int .i64 0, .slice none 0 0]) U1 := by rw [hU1]; exact Kept.box ((Box.made_at _ _ _ (by simp <;> omega)).over _)
  have HX3 : Kept (w.heap.size + 1 + 1) (w.heap.size + 1 + 1 + 1) (BoxK (w.heap.size + 1 + 1) 83 #[.int .i64 sh, .int .i64 wk, .slice none 0 0]) U1 := by rw [hU1]; exact Kept.box (Box.made_at _ _ _ (by simp <;> omega))
  replace HA := HA.below hb
  replace HB := Lib.hid (below_step HB.out hb)
  clear hb
  have Z1 := zz; clear zz
  clear hU1
  refine (toInt64S_any q lo hi A n c ys _ HA.sl HA.le hn).mono ?_
  rintro e w2 ⟨rfl, hs, hlt, hb⟩
  have Z2 := Lib.hid hb.size
  replace HA := HA.below hb
  replace HX1 := HX1.below hb
  replace HX2 := HX2.below hb
  replace HX3 := HX3.below hb
  replace HB := Lib.hid (below_step HB.out hb)
  clear hb
  have HS := Rep.Sl.kept hs hlt; clear hs hlt
  have c2_0 := HX2.look 0
  have c2_1 := HX2.look 1
  have c2_2 := HX2.look 2
  have c2_3 := HX3.look 0
  have c2_4 := HX3.look 1
  have c2_5 := HX3.look 2
  have f2_0 := HX2.free 0
  have f2_1 := HX2.free 1
  have f2_2 := HX2.free 2
  have f2_3 := HX3.free 2
  have l2_0 := HX1.bx.lt
  have l2_1 := HX2.bx.lt
  have l2_2 := HX3.bx.lt
  have n2_0_1 : ¬ (w.heap.size + 1) = (w.heap.size + 1 + 1) := (by have := Z1.out; have := Z2.out; omega)
  have m2_0_1 : ¬ (w.heap.size + 1 + 1) = (w.heap.size + 1) := (by have := Z1.out; have := Z2.out; omega)
  go_wp2
  clear c2_0 c2_1 c2_2 c2_3 c2_4 c2_5 f2_0 f2_1 f2_2 f2_3 l2_0 l2_1 l2_2 n2_0_1 m2_0_1
  obtain ⟨U3, hU3⟩ : ∃ W : World, W = (w2.setCell ⟨w.heap.size + 1 + 1, 2, none⟩ (.slice (some ⟨U1.heap.size, 0, none⟩) n n)) := ⟨_, rfl⟩
  have ho : Only (w.heap.size + 1 + 1) (w.heap.size + 1 + 1 + 1) w2 U3 := by rw [hU3]; exact ((Only.refl _ _ _).set (p := ⟨w.heap.size + 1 + 1, 2, none⟩) (Nat.le_refl _) (Nat.lt_succ_self _) _)
  replace HX3 : Kept (w.heap.size + 1 + 1) (w.heap.size + 1 + 1 + 1) (BoxK (w.heap.size + 1 + 1) 83 #[.int .i64 sh, .int .i64 wk, .slice (some ⟨U1.heap.size, 0, none⟩) n n]) U3 := by rw [hU3]; exact Kept.box (HX3.bx.puts 2 (.slice (some ⟨U1.heap.size, 0, none⟩) n n) (cs' := #[.int .i64 sh, .int .i64 wk, .slice (some ⟨U1.heap.size, 0, none⟩) n n]) rfl)
  replace HA := HA.only ho (by have := Z1.out; have := Z2.out; omega)
  replace HX1 := HX1.only ho (by have := Z1.out; have := Z2.out; omega)
  replace HX2 := HX2.only ho (by have := Z1.out; have := Z2.out; omega)
  replace HS := HS.only ho (by have := Z1.out; have := Z2.out; omega)
  replace HB := Lib.hid (Below.only HB.out ho (by have := Z1.out; have := Z2.out; omega) HB.out.size)
  have Z3 : Hid (U3.heap.size = w2.heap.size) := Lib.hid (by rw [hU3]; simp [World.setCell]); clear ho
  obtain ⟨U4, hU4⟩ : ∃ W : World, W = (((U3.setCell ⟨w.heap.size + 1, 0, none⟩ (.int .i64 sh)).setCell ⟨w.heap.size + 1, 1, none⟩ (.int .i64 wk)).setCell ⟨w.heap.size + 1, 2, none⟩ (.slice (some ⟨U1.heap.size, 0, none⟩) n n)) := ⟨_, rfl⟩
  have ho : Only (w.heap.size + 1) (w.heap.size + 1 + 1) U3 U4 := by rw [hU4]; exact ((((Only.refl _ _ _).set (p := ⟨w.heap.size + 1, 0, none⟩) (Nat.le_refl _) (Nat.lt_succ_self _) _).set (p := ⟨w.heap.size + 1, 1, none⟩) (Nat.le_refl _) (Nat.lt_succ_self _) _).set (p := ⟨w.heap.size + 1, 2, none⟩) (Nat.le_refl _) (Nat.lt_succ_self _) _)
  replace HX2 : Kept (w.heap.size + 1) (w.heap.size + 1 + 1) (BoxK (w.heap.size + 1) 83 #[.int .i64 sh, .int .i64 wk, .slice (some ⟨U1.heap.size, 0, none⟩) n n]) U4 := by rw [hU4]; exact Kept.box (((HX2.bx.puts 0 (.int .i64 sh) (cs' := #[.int .i64 sh, .int .i64 0, .slice none 0 0]) rfl).puts 1 (.int .i64 wk) (cs' := #[.int .i64 sh, .int .i64 wk, .slice none 0 0]) rfl).puts 2 (.slice (some ⟨U1.heap.size, 0, none⟩) n n) (cs' := #[.int .i64 sh, .int .i64 wk, .slice (some ⟨U1.heap.size, 0, none⟩) n n]) rfl)
  replace HA := HA.only ho (by have := Z1.out; have := Z2.out; have := Z3.out; omega)
  replace HX1 := HX1.only ho (by have := Z1.out; have := Z2.out; have := Z3.out; omega)
  replace HX3 := HX3.only ho (by have := Z1.out; have := Z2.out; have := Z3.out; omega)
  replace HS := HS.only ho (by have := Z1.out; have := Z2.out; have := Z3.out; omega)
  replace HB := Lib.hid (Below.only HB.out ho (by have := Z1.out; have := Z2.out; have := Z3.out; omega) HB.out.size)
  have Z4 : Hid (U4.heap.size = U3.heap.size) := Lib.hid (by rw [hU4]; simp [World.setCell]); clear ho
  have q_0 := HX2.look 0
  have q_1 := HX2.look 1
  have q_2 := HX2.look 2
  subst hU4 hU3
  exact bodyPost_ret (v := .agg #[.int .i64 sh, .int .i64 wk, .slice (some ⟨U1.heap.size, 0, none⟩) n n]) (by simp [results, Try.results61, go_sem, q_0, q_1, q_2]) rfl ⟨_, rfl, Rep.Sl.kept (HS.sl.mono (by have := Z1.out; have := Z2.out; omega) (by have := HS.le; omega)) (Nat.le_refl _), HB.out⟩

set_option maxRecDepth 100000 in
set_option maxHeartbeats 1600000 in
theorem eqConfig_yes (sh wk : Int) (q1 q2 : Bool) (l1 h1 l2 h2 : Nat) (A B : Option Addr) (n c d : Nat) (ys : List Int) (w : World) (ha : Rep.int.Sl q1 l1 h1 w A n ys) (hb : Rep.int.Sl q2 l2 h2 w B n ys) (hh1 : h1 ≤ w.heap.size) (hh2 : h2 ≤ w.heap.size) (hn : n ≤ 1048576) :
    Calls Try.prog 63 #[.agg #[.int .i64 sh, .int .i64 wk, .slice A n c], .agg #[.int .i64 sh, .int .i64 wk, .slice B n d]] w fun e w' => e = .returned (.bool true) ∧ Below w.heap.size w w' := by
  have HB := Lib.hid (Below.refl w.heap.size w)
  have HA := Rep.Sl.kept ha hh1
  have HC := Rep.Sl.kept hb hh2
  clear ha hb
  go_enter Try.func63, Try.ntmps63
  go_wp2_with fail
  refine Calls.name ?_
  intro U1 hU1
  have hb : Below w.heap.size w U1 := by rw [hU1]; exact (((Below.refl _ _).alloc (Nat.le_refl _) _).alloc (by simp <;> omega) _)
  have zz : Hid (w.heap.size + 2 = U1.heap.size) := Lib.hid (by rw [hU1]; simp)
  have HX1 : Kept w.heap.size (w.heap.size + 1) (BoxK w.heap.size 83 #[.int .i64 sh, .int .i64 wk, .slice A n c]) U1 := by rw [hU1]; exact Kept.box ((Box.made_at _ _ _ rfl).over _)
  have HX2 : Kept (w.heap.size + 1) (w.heap.size + 1 + 1) (BoxK (w.heap.size + 1) 83 #[.int .i64 sh, .int .i64 wk, .slice B n d]) U1 := by rw [hU1]; exact Kept.box (Box.made_at _ _ _ (by simp <;> omega))
  replace HA := HA.below hb
  replace HC := HC.below hb
  replace HB := Lib.hid (below_step HB.out hb)
  clear hb
  have Z1 := zz; clear zz
  clear hU1
  refine (eqInt64S_yes q1 q2 l1 h1 l2 h2 A B n c d ys _ HA.sl HC.sl hn).mono ?_
  rintro e w2 ⟨rfl, hb⟩
  have Z2 := Lib.hid hb.size
  replace HA := HA.below hb
  replace HC := HC.below hb
  replace HX1 := HX1.below hb
  replace HX2 := HX2.below hb
  replace HB := Lib.hid (below_step HB.out hb)
  clear hb
  have l2_0 := HX1.bx.lt
  have l2_1 := HX2.bx.lt
  go_wp2
  clear l2_0 l2_1
  go_ret
  exact ⟨rfl, HB.out⟩

theorem cells_config : Try.prog.cellsOf 80 = 3 := by kernel_rfl

set_option maxRecDepth 20000 in
/-- A config that came in. -/
theorem open_config {H : Type} {enc : TypeId × Value → H} {w : World} {fuel : Nat} {cs : List Value} {x : DataW H × List MemPlace} (h : DataW.trod enc Try.prog w 0 (fun _ => true) true fuel 80 cs = some x) :
    ∃ (sh wk : Int) (A : Option Addr) (n c : Nat) (ys : List Int), cs = [.int .i64 sh, .int .i64 wk, .slice A n c] ∧ Rep.int.Sl false 0 w.heap.size w A n ys ∧ n ≤ maxLen := by
  obtain ⟨xs, k, _, _, hl, hx, hf⟩ := DataW.trod_struct Try.underlying80 h
  rw [cells_config] at hl
  have hx3 : xs.length = 3 := hx
  clear h hx
  match cs, hl with
  | [c0, c1, c2], _ =>
    have f0 : DataW.trod enc Try.prog w 0 (fun _ => true) true k 2 [c0] = xs[0]? := by simpa [cells_i64, cells_i64S] using hf 0 _ rfl
    have f1 : DataW.trod enc Try.prog w 0 (fun _ => true) true k 2 [c1] = xs[1]? := by simpa [cells_i64, cells_i64S] using hf 1 _ rfl
    have f2 : DataW.trod enc Try.prog w 0 (fun _ => true) true k 78 [c2] = xs[2]? := by simpa [cells_i64, cells_i64S] using hf 2 _ rfl
    obtain ⟨z0, rfl⟩ := cell_int (by simp [hx3]) f0
    obtain ⟨z1, rfl⟩ := cell_int (by simp [hx3]) f1
    rw [List.getElem?_eq_getElem (by omega : 2 < xs.length)] at f2
    obtain ⟨ys, A, n, c, e2, hnc, hcm, hL⟩ := opens_slice Try.underlying78 cells_i64 (by decide) (opens_int Try.underlying2) H enc w _ _ _ f2
    injection e2 with e2
    subst e2
    exact ⟨z0, z1, A, n, c, ys, rfl, hL, Nat.le_trans hnc hcm⟩

end Go.Proofs.Ytiffhjofabaflaa
