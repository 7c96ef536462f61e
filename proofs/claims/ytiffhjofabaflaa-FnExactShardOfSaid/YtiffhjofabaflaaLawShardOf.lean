/-
  The walk of the law FnExactShardOf: the program's ShardOf answers as the model's.
-/
import Derived.Test.YtiffhjofabaflaaShardOf
import Derived.Deep.DeepCutAuto
namespace Go.Proofs.Ytiffhjofabaflaa
open Go.RowKit
set_option linter.unusedVariables false

set_option maxRecDepth 100000 in
set_option maxHeartbeats 3200000 in
theorem law_ShardOf (v0 u0 : Int) (ys0 : List Int) (q0 : Bool) (lo0 hi0 : Nat) (A0 : Option Addr) (n0 c0 : Nat) (t1 i1 a1 : Int) (w : World) (ha0 : Rep.int.Sl q0 lo0 hi0 w A0 n0 ys0) (hh0 : hi0 ≤ w.heap.size) (hn0 : n0 ≤ maxLen) :
    Calls Try.prog 9 #[.agg #[.int .i64 v0, .int .i64 u0, .slice A0 n0 c0], .agg #[.int .i64 t1, .int .i64 i1, .int .i64 a1]] w fun e w' => e = .returned (.bool true) ∧ Below w.heap.size w w' := by
  by_cases hbig0 : (1048576 : Int) - (n0 : Int) < 0
  · have HB := Lib.hid (Below.refl w.heap.size w)
    have HA0 := Rep.Sl.kept ha0 hh0
    clear ha0
    have HR0 : Hid ((if (1048576 : Int) - (n0 : Int) < 0 then -1 else (1048576 : Int) - (n0 : Int)) = -1) := Lib.hid (if_pos hbig0)
    clear hbig0
    go_enter Try.func9, Try.ntmps9
    go_wp2_with fail
    refine Calls.name ?_
    intro U1 hU1
    have hb : Below w.heap.size w U1 := by rw [hU1]; exact (((Below.refl _ _).alloc (Nat.le_refl _) _).alloc (by simp <;> omega) _)
    have zz : Hid (w.heap.size + 2 = U1.heap.size) := Lib.hid (by rw [hU1]; simp)
    have HX1 : Kept w.heap.size (w.heap.size + 1) (BoxK w.heap.size 80 #[.int .i64 v0, .int .i64 u0, .slice A0 n0 c0]) U1 := by rw [hU1]; exact Kept.box ((Box.made_at _ _ _ rfl).over _)
    have HX2 : Kept (w.heap.size + 1) (w.heap.size + 1 + 1) (BoxK (w.heap.size + 1) 87 #[.int .i64 t1, .int .i64 i1, .int .i64 a1]) U1 := by rw [hU1]; exact Kept.box (Box.made_at _ _ _ (by simp <;> omega))
    replace HA0 := HA0.below hb
    replace HB := Lib.hid (below_step HB.out hb)
    clear hb
    have Z1 := zz; clear zz
    clear hU1
    refine (szConfig_any v0 u0 A0 n0 c0 1048576 _ hn0 (by omega) (by omega)).mono ?_
    rw [HR0.out]
    rintro e w2 ⟨rfl, hb⟩
    have Z2 := Lib.hid hb.size
    replace HA0 := HA0.below hb
    replace HX1 := HX1.below hb
    replace HX2 := HX2.below hb
    replace HB := Lib.hid (below_step HB.out hb)
    clear hb
    have l2_0 := HX1.bx.lt
    have l2_1 := HX2.bx.lt
    go_wp2
    clear l2_0 l2_1
    go_ret
    exact ⟨rfl, HB.out⟩
  have HR0 : Hid ((if (1048576 : Int) - (n0 : Int) < 0 then -1 else (1048576 : Int) - (n0 : Int)) = (1048576 : Int) - (n0 : Int)) := Lib.hid (if_neg hbig0)
  have hN0 : n0 ≤ 1048576 := by omega
  have hz0 : ¬ ((1048576 : Int) - (n0 : Int) < 0) := hbig0
  clear hbig0
  have HB := Lib.hid (Below.refl w.heap.size w)
  have HA0 := Rep.Sl.kept ha0 hh0
  clear ha0
  obtain ⟨r, hr⟩ : ∃ z, shC v0 u0 ys0 t1 i1 a1 = z := ⟨_, rfl⟩
  have HRR := Lib.hid hr
  clear hr
  obtain ⟨x, hx⟩ : ∃ z, shV v0 u0 ys0 t1 i1 a1 = z := ⟨_, rfl⟩
  have HRX := Lib.hid hx
  clear hx
  go_enter Try.func9, Try.ntmps9
  go_wp2_with fail
  refine Calls.name ?_
  intro U1 hU1
  have hb : Below w.heap.size w U1 := by rw [hU1]; exact (((Below.refl _ _).alloc (Nat.le_refl _) _).alloc (by simp <;> omega) _)
  have zz : Hid (w.heap.size + 2 = U1.heap.size) := Lib.hid (by rw [hU1]; simp)
  have HX1 : Kept w.heap.size (w.heap.size + 1) (BoxK w.heap.size 80 #[.int .i64 v0, .int .i64 u0, .slice A0 n0 c0]) U1 := by rw [hU1]; exact Kept.box ((Box.made_at _ _ _ rfl).over _)
  have HX2 : Kept (w.heap.size + 1) (w.heap.size + 1 + 1) (BoxK (w.heap.size + 1) 87 #[.int .i64 t1, .int .i64 i1, .int .i64 a1]) U1 := by rw [hU1]; exact Kept.box (Box.made_at _ _ _ (by simp <;> omega))
  replace HA0 := HA0.below hb
  replace HB := Lib.hid (below_step HB.out hb)
  clear hb
  have Z1 := zz; clear zz
  clear hU1
  refine (szConfig_any v0 u0 A0 n0 c0 1048576 _ hn0 (by omega) (by omega)).mono ?_
  rw [HR0.out]
  rintro e w2 ⟨rfl, hb⟩
  have Z2 := Lib.hid hb.size
  replace HA0 := HA0.below hb
  replace HX1 := HX1.below hb
  replace HX2 := HX2.below hb
  replace HB := Lib.hid (below_step HB.out hb)
  clear hb
  have l2_0 := HX1.bx.lt
  have l2_1 := HX2.bx.lt
  go_wp2_with fail
  clear l2_0 l2_1
  have SB : Hid (∀ W, Hid (Below w2.heap.size w2 W) → (fun W => W.cell? ⟨w.heap.size, 0, none⟩ = some (.int .i64 v0) ∧ W.cell? ⟨w.heap.size, 1, none⟩ = some (.int .i64 u0) ∧ W.cell? ⟨w.heap.size, 2, none⟩ = some (.slice A0 n0 c0) ∧ W.cell? ⟨w.heap.size + 1, 0, none⟩ = some (.int .i64 t1) ∧ W.cell? ⟨w.heap.size + 1, 1, none⟩ = some (.int .i64 i1) ∧ W.cell? ⟨w.heap.size + 1, 2, none⟩ = some (.int .i64 a1)) W) := fun W h => ⟨(HX1.below h.out).look 0, (HX1.below h.out).look 1, (HX1.below h.out).look 2, (HX2.below h.out).look 0, (HX2.below h.out).look 1, (HX2.below h.out).look 2⟩
  have V0 : Hid (Below w2.heap.size w2 w2.drew) := (Below.refl _ _).drew
  have VA0 : ∀ o, Hid (Below w2.heap.size w2 (w2.alloc o).drew) := fun o => ((Below.refl _ _).alloc (Nat.le_refl _) o).drew
  go_upto_region 5 with (fail)
  go_cut [6] (fun s6 wx => ∃ g, s6 = .pointer (some ⟨g, 0, none⟩) ∧ Hid (w2.heap.size ≤ g) ∧ Kept g (g + 1) (BoxK g 52 #[.int .i64 r, .int .i64 x]) wx ∧ Hid (Below w2.heap.size w2 wx))
  case first =>
    have VN0 : ∀ o, Hid (Below w2.heap.size w2 (w2.alloc o).drew) := VA0
    go_region_held3 (fun W => W.cell? ⟨w.heap.size, 0, none⟩ = some (.int .i64 v0) ∧ W.cell? ⟨w.heap.size, 1, none⟩ = some (.int .i64 u0) ∧ W.cell? ⟨w.heap.size, 2, none⟩ = some (.slice A0 n0 c0) ∧ W.cell? ⟨w.heap.size + 1, 0, none⟩ = some (.int .i64 t1) ∧ W.cell? ⟨w.heap.size + 1, 1, none⟩ = some (.int .i64 i1) ∧ W.cell? ⟨w.heap.size + 1, 2, none⟩ = some (.int .i64 a1)) (first | (with_reducible exact SB.out _ V0) | (with_reducible exact SB.out _ (VA0 _)) | (with_reducible exact SB.out _ V1) | (with_reducible exact SB.out _ (VA1 _)) | (with_reducible exact SB.out _ V2) | (with_reducible exact SB.out _ (VA2 _)) | (with_reducible exact SB.out _ V3) | (with_reducible exact SB.out _ (VA3 _)) | (with_reducible exact SB.out _ (VS _ (by first | exact Nat.le_refl _ | assumption) _ _)))
      (first
        | (go_at_call 61; ((with_reducible refine (toConfig_any q0 lo0 hi0 v0 u0 A0 n0 c0 ys0 _ (HA0.below V0.out).sl (HA0.below V0.out).le hN0).mono ?_); rintro e u1_0 ⟨Ps0, rfl, hk, hb⟩; have V1 := Lib.hid (below_step V0.out hb); (try replace HW := HW.below hb); have VN1 : ∀ o, Hid (Below u1_0.heap.size u1_0 (u1_0.alloc o)) := (fun o => (Below.refl _ _).alloc (Nat.le_refl _) o); have VA1 : ∀ o, Hid (Below w2.heap.size w2 (u1_0.alloc o)) := (fun o => Below.alloc V1.out V1.out.size o); have VQ1 := V1.out.size; clear hb; have HS0 := hk; clear hk))
        | (go_at_call 61; ((with_reducible refine (toConfig_any q0 lo0 hi0 v0 u0 A0 n0 c0 ys0 _ (HA0.below (VA0 _).out).sl (HA0.below (VA0 _).out).le hN0).mono ?_); rintro e u1_0 ⟨Ps0, rfl, hk, hb⟩; have V1 := Lib.hid (below_step (VA0 _).out hb); have HW := ((Kept.box (show Box ((w2.alloc (.cells #[.int .i64 0, .int .i64 0] 52)).drew) w2.heap.size 52 #[.int .i64 0, .int .i64 0] from Box.made _ _ _))).below hb; have VN1 : ∀ o, Hid (Below u1_0.heap.size u1_0 (u1_0.alloc o)) := (fun o => (Below.refl _ _).alloc (Nat.le_refl _) o); have VA1 : ∀ o, Hid (Below w2.heap.size w2 (u1_0.alloc o)) := (fun o => Below.alloc V1.out V1.out.size o); have VQ1 := V1.out.size; clear hb; have HS0 := hk; clear hk))
        | (go_at_call 75; ((with_reducible refine (toKey_any t1 i1 a1 _).mono ?_); rintro e u1_1 ⟨rfl, hb⟩; have V2 := Lib.hid (below_step V1.out hb); replace HS0 := HS0.below hb; (try replace HW := HW.below hb); have VN2 : ∀ o, Hid (Below u1_1.heap.size u1_1 (u1_1.alloc o)) := (fun o => (Below.refl _ _).alloc (Nat.le_refl _) o); have VA2 : ∀ o, Hid (Below w2.heap.size w2 (u1_1.alloc o)) := (fun o => Below.alloc V2.out V2.out.size o); have VQ2 := V2.out.size; clear hb))
        | (go_at_call 75; ((with_reducible refine (toKey_any t1 i1 a1 _).mono ?_); rintro e u1_1 ⟨rfl, hb⟩; have V2 := Lib.hid (below_step (VA1 _).out hb); replace HS0 := (HS0.below (VN1 _).out).below hb; have HW := ((Kept.box (show Box ((u1_0.alloc (.cells #[.int .i64 0, .int .i64 0] 52))) u1_0.heap.size 52 #[.int .i64 0, .int .i64 0] from Box.made _ _ _))).below hb; have VN2 : ∀ o, Hid (Below u1_1.heap.size u1_1 (u1_1.alloc o)) := (fun o => (Below.refl _ _).alloc (Nat.le_refl _) o); have VA2 : ∀ o, Hid (Below w2.heap.size w2 (u1_1.alloc o)) := (fun o => Below.alloc V2.out V2.out.size o); have VQ2 := V2.out.size; clear hb))
        | (go_at_call 74; ((with_reducible refine (specShardOf_any v0 u0 true _ _ Ps0 n0 n0 ys0 t1 i1 a1 _ HS0.sl HS0.le hN0).mono ?_); rw [HRR.out, HRX.out]; rintro e u1_2 ⟨rfl, hb⟩; have V3 := Lib.hid (below_step V2.out hb); replace HS0 := HS0.below hb; (try replace HW := HW.below hb); have VN3 : ∀ o, Hid (Below u1_2.heap.size u1_2 (u1_2.alloc o)) := (fun o => (Below.refl _ _).alloc (Nat.le_refl _) o); have VA3 : ∀ o, Hid (Below w2.heap.size w2 (u1_2.alloc o)) := (fun o => Below.alloc V3.out V3.out.size o); have VQ3 := V3.out.size; clear hb; have VS : ∀ (g : Nat) (hg : w2.heap.size ≤ g) (v0 v1 : Value), Hid (Below w2.heap.size w2 ((u1_2.setCell ⟨g, 0, none⟩ v0).setCell ⟨g, 1, none⟩ v1)) := (fun g hg v0 v1 => (Below.setCell (p := ⟨g, 1, none⟩) (Below.setCell (p := ⟨g, 0, none⟩) V3.out hg v0) hg v1)); (try (have hk0 := HW.look 0; have hf0 := HW.free 0)); (try (have hk1 := HW.look 1; have hf1 := HW.free 1))))
        | (go_at_call 74; ((with_reducible refine (specShardOf_any v0 u0 true _ _ Ps0 n0 n0 ys0 t1 i1 a1 _ (HS0.below (VN2 _).out).sl (HS0.below (VN2 _).out).le hN0).mono ?_); rw [HRR.out, HRX.out]; rintro e u1_2 ⟨rfl, hb⟩; have V3 := Lib.hid (below_step (VA2 _).out hb); replace HS0 := (HS0.below (VN2 _).out).below hb; have HW := ((Kept.box (show Box ((u1_1.alloc (.cells #[.int .i64 0, .int .i64 0] 52))) u1_1.heap.size 52 #[.int .i64 0, .int .i64 0] from Box.made _ _ _))).below hb; have VN3 : ∀ o, Hid (Below u1_2.heap.size u1_2 (u1_2.alloc o)) := (fun o => (Below.refl _ _).alloc (Nat.le_refl _) o); have VA3 : ∀ o, Hid (Below w2.heap.size w2 (u1_2.alloc o)) := (fun o => Below.alloc V3.out V3.out.size o); have VQ3 := V3.out.size; clear hb; have VS : ∀ (g : Nat) (hg : w2.heap.size ≤ g) (v0 v1 : Value), Hid (Below w2.heap.size w2 ((u1_2.setCell ⟨g, 0, none⟩ v0).setCell ⟨g, 1, none⟩ v1)) := (fun g hg v0 v1 => (Below.setCell (p := ⟨g, 1, none⟩) (Below.setCell (p := ⟨g, 0, none⟩) V3.out hg v0) hg v1)); (try (have hk0 := HW.look 0; have hf0 := HW.free 0)); (try (have hk1 := HW.look 1; have hf1 := HW.free 1)))))
    all_goals (go_wp2_with fail; go_meet; first | exact ⟨_, rfl, Lib.hid (by first | exact Nat.le_refl _ | assumption), Kept.box ((HW.bx.puts 0 (.int .i64 r) (cs' := #[.int .i64 r, .int .i64 0]) rfl).puts 1 (.int .i64 x) (cs' := #[.int .i64 r, .int .i64 x]) rfl), VS _ (by first | exact Nat.le_refl _ | assumption) _ _⟩ | exact ⟨_, rfl, Lib.hid VQ3, Kept.box (Box.made _ _ _), VA3 _⟩)
  obtain ⟨g1, rfl, hg, HW1, HC⟩ := hcut
  obtain ⟨wx1, rfl⟩ : ∃ W : World, W = wc := ⟨_, rfl⟩
  have hb := HC.out
  clear HC SB V0 VA0
  have Z3 := hg; clear hg
  have Z4 := Lib.hid hb.size
  have Z5 := Lib.hid HW1.le
  replace HA0 := HA0.below hb
  replace HX1 := HX1.below hb
  replace HX2 := HX2.below hb
  replace HB := Lib.hid (below_step HB.out hb)
  clear hb
  have c3_0 := HX1.look 0
  have c3_1 := HX1.look 1
  have c3_2 := HX1.look 2
  have l3_0 := HX1.bx.lt
  have l3_1 := HX2.bx.lt
  have l3_2 := HW1.bx.lt
  go_wp2_with fail
  clear c3_0 c3_1 c3_2 l3_0 l3_1 l3_2
  refine (toConfig_any q0 lo0 hi0 v0 u0 A0 n0 c0 ys0 _ HA0.sl HA0.le hN0).mono ?_
  rintro e w3 ⟨Px0, rfl, hk, hb⟩
  have Z6 := Lib.hid hb.size
  replace HA0 := HA0.below hb
  replace HX1 := HX1.below hb
  replace HX2 := HX2.below hb
  replace HW1 := HW1.below hb
  replace HB := Lib.hid (below_step HB.out hb)
  clear hb
  have HG0 := hk; clear hk
  have l4_0 := HX1.bx.lt
  have l4_1 := HX2.bx.lt
  have l4_2 := HW1.bx.lt
  go_wp2_with fail
  clear l4_0 l4_1 l4_2
  refine Code.wp_name ?_
  intro U4 hU4
  have hb : Below w3.heap.size w3 U4 := by rw [hU4]; exact ((Below.refl _ _).alloc (Nat.le_refl _) _)
  have zz : Hid (w3.heap.size + 1 = U4.heap.size) := Lib.hid (by rw [hU4]; simp)
  have HX3 : Kept w3.heap.size (w3.heap.size + 1) (BoxK w3.heap.size 83 #[.int .i64 v0, .int .i64 u0, .slice Px0 n0 n0]) U4 := by rw [hU4]; exact Kept.box (Box.made_at _ _ _ rfl)
  replace HA0 := HA0.below hb
  replace HX1 := HX1.below hb
  replace HX2 := HX2.below hb
  replace HW1 := HW1.below hb
  replace HG0 := HG0.below hb
  replace HB := Lib.hid (below_step HB.out hb)
  clear hb
  have Z7 := zz; clear zz
  clear hU4
  have SB : Hid (∀ W, Hid (Below U4.heap.size U4 W) → (fun W => W.cell? ⟨w3.heap.size, 0, none⟩ = some (.int .i64 v0) ∧ W.cell? ⟨w3.heap.size, 1, none⟩ = some (.int .i64 u0) ∧ W.cell? ⟨w3.heap.size, 2, none⟩ = some (.slice Px0 n0 n0) ∧ W.cell? ⟨w.heap.size + 1, 0, none⟩ = some (.int .i64 t1) ∧ W.cell? ⟨w.heap.size + 1, 1, none⟩ = some (.int .i64 i1) ∧ W.cell? ⟨w.heap.size + 1, 2, none⟩ = some (.int .i64 a1)) W) := fun W h => ⟨(HX3.below h.out).look 0, (HX3.below h.out).look 1, (HX3.below h.out).look 2, (HX2.below h.out).look 0, (HX2.below h.out).look 1, (HX2.below h.out).look 2⟩
  have V0 : Hid (Below U4.heap.size U4 U4.drew) := (Below.refl _ _).drew
  have VA0 : ∀ o, Hid (Below U4.heap.size U4 (U4.alloc o).drew) := fun o => ((Below.refl _ _).alloc (Nat.le_refl _) o).drew
  go_upto_region 7 with (fail)
  go_cut [8] (fun s6 wx => ∃ g, s6 = .pointer (some ⟨g, 0, none⟩) ∧ Hid (U4.heap.size ≤ g) ∧ Kept g (g + 1) (BoxK g 52 #[.int .i64 r, .int .i64 x]) wx ∧ Hid (Below U4.heap.size U4 wx))
  case first =>
    have VN0 : ∀ o, Hid (Below U4.heap.size U4 (U4.alloc o).drew) := VA0
    go_region_held3 (fun W => W.cell? ⟨w3.heap.size, 0, none⟩ = some (.int .i64 v0) ∧ W.cell? ⟨w3.heap.size, 1, none⟩ = some (.int .i64 u0) ∧ W.cell? ⟨w3.heap.size, 2, none⟩ = some (.slice Px0 n0 n0) ∧ W.cell? ⟨w.heap.size + 1, 0, none⟩ = some (.int .i64 t1) ∧ W.cell? ⟨w.heap.size + 1, 1, none⟩ = some (.int .i64 i1) ∧ W.cell? ⟨w.heap.size + 1, 2, none⟩ = some (.int .i64 a1)) (first | (with_reducible exact SB.out _ V0) | (with_reducible exact SB.out _ (VA0 _)) | (with_reducible exact SB.out _ V1) | (with_reducible exact SB.out _ (VA1 _)) | (with_reducible exact SB.out _ V2) | (with_reducible exact SB.out _ (VA2 _)) | (with_reducible exact SB.out _ (VS _ (by first | exact Nat.le_refl _ | assumption) _ _)))
      (first
        | (go_at_call 75; ((with_reducible refine (toKey_any t1 i1 a1 _).mono ?_); rintro e u2_0 ⟨rfl, hb⟩; have V1 := Lib.hid (below_step V0.out hb); (try replace HW := HW.below hb); have VN1 : ∀ o, Hid (Below u2_0.heap.size u2_0 (u2_0.alloc o)) := (fun o => (Below.refl _ _).alloc (Nat.le_refl _) o); have VA1 : ∀ o, Hid (Below U4.heap.size U4 (u2_0.alloc o)) := (fun o => Below.alloc V1.out V1.out.size o); have VQ1 := V1.out.size; clear hb))
        | (go_at_call 75; ((with_reducible refine (toKey_any t1 i1 a1 _).mono ?_); rintro e u2_0 ⟨rfl, hb⟩; have V1 := Lib.hid (below_step (VA0 _).out hb); have HW := ((Kept.box (show Box ((U4.alloc (.cells #[.int .i64 0, .int .i64 0] 52)).drew) U4.heap.size 52 #[.int .i64 0, .int .i64 0] from Box.made _ _ _))).below hb; have VN1 : ∀ o, Hid (Below u2_0.heap.size u2_0 (u2_0.alloc o)) := (fun o => (Below.refl _ _).alloc (Nat.le_refl _) o); have VA1 : ∀ o, Hid (Below U4.heap.size U4 (u2_0.alloc o)) := (fun o => Below.alloc V1.out V1.out.size o); have VQ1 := V1.out.size; clear hb))
        | (go_at_call 76; ((with_reducible refine (shardOf_any v0 u0 true _ _ Px0 n0 n0 ys0 t1 i1 a1 _ (HG0.below V1.out).sl (HG0.below V1.out).le hN0).mono ?_); rw [HRR.out, HRX.out]; rintro e u2_1 ⟨rfl, hb⟩; have V2 := Lib.hid (below_step V1.out hb); (try replace HW := HW.below hb); have VN2 : ∀ o, Hid (Below u2_1.heap.size u2_1 (u2_1.alloc o)) := (fun o => (Below.refl _ _).alloc (Nat.le_refl _) o); have VA2 : ∀ o, Hid (Below U4.heap.size U4 (u2_1.alloc o)) := (fun o => Below.alloc V2.out V2.out.size o); have VQ2 := V2.out.size; clear hb; have VS : ∀ (g : Nat) (hg : U4.heap.size ≤ g) (v0 v1 : Value), Hid (Below U4.heap.size U4 ((u2_1.setCell ⟨g, 0, none⟩ v0).setCell ⟨g, 1, none⟩ v1)) := (fun g hg v0 v1 => (Below.setCell (p := ⟨g, 1, none⟩) (Below.setCell (p := ⟨g, 0, none⟩) V2.out hg v0) hg v1)); (try (have hk0 := HW.look 0; have hf0 := HW.free 0)); (try (have hk1 := HW.look 1; have hf1 := HW.free 1))))
        | (go_at_call 76; ((with_reducible refine (shardOf_any v0 u0 true _ _ Px0 n0 n0 ys0 t1 i1 a1 _ (HG0.below (VA1 _).out).sl (HG0.below (VA1 _).out).le hN0).mono ?_); rw [HRR.out, HRX.out]; rintro e u2_1 ⟨rfl, hb⟩; have V2 := Lib.hid (below_step (VA1 _).out hb); have HW := ((Kept.box (show Box ((u2_0.alloc (.cells #[.int .i64 0, .int .i64 0] 52))) u2_0.heap.size 52 #[.int .i64 0, .int .i64 0] from Box.made _ _ _))).below hb; have VN2 : ∀ o, Hid (Below u2_1.heap.size u2_1 (u2_1.alloc o)) := (fun o => (Below.refl _ _).alloc (Nat.le_refl _) o); have VA2 : ∀ o, Hid (Below U4.heap.size U4 (u2_1.alloc o)) := (fun o => Below.alloc V2.out V2.out.size o); have VQ2 := V2.out.size; clear hb; have VS : ∀ (g : Nat) (hg : U4.heap.size ≤ g) (v0 v1 : Value), Hid (Below U4.heap.size U4 ((u2_1.setCell ⟨g, 0, none⟩ v0).setCell ⟨g, 1, none⟩ v1)) := (fun g hg v0 v1 => (Below.setCell (p := ⟨g, 1, none⟩) (Below.setCell (p := ⟨g, 0, none⟩) V2.out hg v0) hg v1)); (try (have hk0 := HW.look 0; have hf0 := HW.free 0)); (try (have hk1 := HW.look 1; have hf1 := HW.free 1)))))
    all_goals (go_wp2_with fail; go_meet; first | exact ⟨_, rfl, Lib.hid (by first | exact Nat.le_refl _ | assumption), Kept.box ((HW.bx.puts 0 (.int .i64 r) (cs' := #[.int .i64 r, .int .i64 0]) rfl).puts 1 (.int .i64 x) (cs' := #[.int .i64 r, .int .i64 x]) rfl), VS _ (by first | exact Nat.le_refl _ | assumption) _ _⟩ | exact ⟨_, rfl, Lib.hid VQ2, Kept.box (Box.made _ _ _), VA2 _⟩)
  obtain ⟨g2, rfl, hg, HW2, HC⟩ := hcut
  obtain ⟨wx2, rfl⟩ : ∃ W : World, W = wc := ⟨_, rfl⟩
  have hb := HC.out
  clear HC SB V0 VA0
  have Z8 := hg; clear hg
  have Z9 := Lib.hid hb.size
  have Z10 := Lib.hid HW2.le
  replace HA0 := HA0.below hb
  replace HX1 := HX1.below hb
  replace HX2 := HX2.below hb
  replace HW1 := HW1.below hb
  replace HG0 := HG0.below hb
  replace HX3 := HX3.below hb
  replace HB := Lib.hid (below_step HB.out hb)
  clear hb
  have c5_0 := HW1.look 0
  have c5_1 := HW1.look 1
  have c5_2 := HW2.look 0
  have c5_3 := HW2.look 1
  have l5_0 := HX1.bx.lt
  have l5_1 := HX2.bx.lt
  have l5_2 := HW1.bx.lt
  have l5_3 := HX3.bx.lt
  have l5_4 := HW2.bx.lt
  go_wp2_with fail
  clear c5_0 c5_1 c5_2 c5_3 l5_0 l5_1 l5_2 l5_3 l5_4
  refine (eqIntResult_yes r x _).mono ?_
  rintro e w5 ⟨rfl, hb⟩
  have Z11 := Lib.hid hb.size
  replace HA0 := HA0.below hb
  replace HX1 := HX1.below hb
  replace HX2 := HX2.below hb
  replace HW1 := HW1.below hb
  replace HG0 := HG0.below hb
  replace HX3 := HX3.below hb
  replace HW2 := HW2.below hb
  replace HB := Lib.hid (below_step HB.out hb)
  clear hb
  have l6_0 := HX1.bx.lt
  have l6_1 := HX2.bx.lt
  have l6_2 := HW1.bx.lt
  have l6_3 := HX3.bx.lt
  have l6_4 := HW2.bx.lt
  go_wp2
  clear l6_0 l6_1 l6_2 l6_3 l6_4
  have SB : Hid (∀ W, Hid (Below w5.heap.size w5 W) → (fun W => W.cell? ⟨w.heap.size, 0, none⟩ = some (.int .i64 v0) ∧ W.cell? ⟨w.heap.size, 1, none⟩ = some (.int .i64 u0) ∧ W.cell? ⟨w.heap.size, 2, none⟩ = some (.slice A0 n0 c0) ∧ W.cell? ⟨w3.heap.size, 0, none⟩ = some (.int .i64 v0) ∧ W.cell? ⟨w3.heap.size, 1, none⟩ = some (.int .i64 u0) ∧ W.cell? ⟨w3.heap.size, 2, none⟩ = some (.slice Px0 n0 n0)) W) := fun W h => ⟨(HX1.below h.out).look 0, (HX1.below h.out).look 1, (HX1.below h.out).look 2, (HX3.below h.out).look 0, (HX3.below h.out).look 1, (HX3.below h.out).look 2⟩
  have V0 : Hid (Below w5.heap.size w5 w5.drew) := (Below.refl _ _).drew
  go_region_held3 (fun W => W.cell? ⟨w.heap.size, 0, none⟩ = some (.int .i64 v0) ∧ W.cell? ⟨w.heap.size, 1, none⟩ = some (.int .i64 u0) ∧ W.cell? ⟨w.heap.size, 2, none⟩ = some (.slice A0 n0 c0) ∧ W.cell? ⟨w3.heap.size, 0, none⟩ = some (.int .i64 v0) ∧ W.cell? ⟨w3.heap.size, 1, none⟩ = some (.int .i64 u0) ∧ W.cell? ⟨w3.heap.size, 2, none⟩ = some (.slice Px0 n0 n0)) (exact SB.out _ (by assumption))
    (first | (go_at_call 61; ((with_reducible refine (toConfig_any q0 lo0 hi0 v0 u0 A0 n0 c0 ys0 _ (HA0.below V0.out).sl (HA0.below V0.out).le hN0).mono ?_); rintro e u3_0 ⟨Pz0, rfl, hk, hb⟩; have V1 := Lib.hid (below_step V0.out hb); clear hb; have HZ0 := hk; clear hk)) | (go_at_call 63; ((with_reducible refine (eqConfig_yes v0 u0 true true _ _ _ _ Px0 _ n0 n0 n0 ys0 _ (HG0.below V1.out).sl HZ0.sl (HG0.below V1.out).le HZ0.le hN0).mono ?_); rintro e u3_1 ⟨rfl, hb⟩; have V2 := Lib.hid (below_step V1.out hb); clear hb)))
  have hb := V2.out
  clear SB V0 V1 V2
  have Z12 := Lib.hid hb.size
  replace HA0 := HA0.below hb
  replace HX1 := HX1.below hb
  replace HX2 := HX2.below hb
  replace HW1 := HW1.below hb
  replace HG0 := HG0.below hb
  replace HX3 := HX3.below hb
  replace HW2 := HW2.below hb
  replace HB := Lib.hid (below_step HB.out hb)
  clear hb
  clear HZ0
  have l7_0 := HX1.bx.lt
  have l7_1 := HX2.bx.lt
  have l7_2 := HW1.bx.lt
  have l7_3 := HX3.bx.lt
  have l7_4 := HW2.bx.lt
  go_wp2
  clear l7_0 l7_1 l7_2 l7_3 l7_4
  go_ret
  exact ⟨rfl, HB.out⟩

end Go.Proofs.Ytiffhjofabaflaa
