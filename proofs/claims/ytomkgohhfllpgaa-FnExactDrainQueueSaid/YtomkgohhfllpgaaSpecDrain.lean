/-
  The model's DrainQueue. No statement is proved here.
-/
import Derived.Test.YtomkgohhfllpgaaSpecCopy
namespace Go.Proofs.Ytomkgohhfllpgaa
open Go.RowKit
set_option linter.unusedVariables false

set_option maxRecDepth 100000 in
set_option maxHeartbeats 3200000 in
theorem specDrainQueue_any (cap : Int) (mk : Bool) (q : Bool) (lo hi : Nat) (A : Option Addr) (n c : Nat) (ys : List Tmr) (w : World) (ha : Rep.timer.Sl q lo hi w A n ys) (hh : hi ≤ w.heap.size) (hn : n ≤ 1048576) :
    Calls Try.prog 33 #[.agg #[.int .i64 cap, .bool mk, .slice A n c]] w fun e w' => ∃ O j k E m d, e = .returned (.agg #[.int .i64 (qf cap ys), .int .i64 (dqX cap ys), .bool (ppP ys), .slice O j k, .bool (dqT cap mk ys), .slice E m d]) ∧ Kept w.heap.size w'.heap.size (QK w.heap.size w'.heap.size O j (dqU ys) E m (dqZ cap ys)) w' ∧ Below w.heap.size w w' := by
  have hl := ha.1
  by_cases h0 : ¬ qf cap ys = 0
  · have HB := Lib.hid (Below.refl w.heap.size w)
    have HA := Rep.Sl.kept ha hh
    have Zh := Lib.hid hh
    obtain ⟨r, hr⟩ : ∃ z, qf cap ys = z := ⟨_, rfl⟩
    have HR := Lib.hid hr
    have h0r : ¬ r = 0 := by rw [← hr]; exact h0
    have hr0 : (r != 0) = true := by simpa using h0r
    have HV : Hid (qf cap ys = r ∧ dqX cap ys = 0 ∧ ppP ys = false ∧ dqU ys = [] ∧ dqT cap mk ys = false ∧ dqZ cap ys = []) := Lib.hid (by refine ⟨?_, ?_, ?_, ?_, ?_, ?_⟩ <;> simp [dqT, dqU, dqX, dqZ, ppP, hr, h0r])
    clear h0 hr h0r
    clear ha hl hh
    go_enter Try.func33, Try.ntmps33
    go_wp2_with fail
    refine Calls.name ?_
    intro U1 hU1
    have hb : Below w.heap.size w U1 := by rw [hU1]; exact (((Below.refl _ _).alloc (Nat.le_refl _) _).alloc (by simp <;> omega) _)
    have zz : Hid (w.heap.size + 2 = U1.heap.size) := Lib.hid (by rw [hU1]; simp)
    have HX1 : Kept w.heap.size (w.heap.size + 1) (BoxK w.heap.size 26 #[.int .i64 cap, .bool mk, .slice A n c]) U1 := by rw [hU1]; exact Kept.box ((Box.made_at _ _ _ rfl).over _)
    have HX2 : Kept (w.heap.size + 1) (w.heap.size + 1 + 1) (BoxK (w.heap.size + 1) 30 #[.int .i64 0, .int .i64 0, .bool false, .slice none 0 0, .bool false, .slice none 0 0]) U1 := by rw [hU1]; exact Kept.box (Box.made_at _ _ _ (by simp <;> omega))
    replace HA := HA.below hb
    replace HB := Lib.hid (below_step HB.out hb)
    clear hb
    have Z1 := zz; clear zz
    clear hU1
    refine (specQueueFault_any cap mk q lo hi A n c ys _ HA.sl HA.le hn).mono ?_
    rw [HR.out]
    rintro e w2 ⟨rfl, hb⟩
    have Z2 := Lib.hid hb.size
    replace HA := HA.below hb
    replace HX1 := HX1.below hb
    replace HX2 := HX2.below hb
    replace HB := Lib.hid (below_step HB.out hb)
    clear hb
    have c2_0 := HX2.look 0
    have c2_1 := HX2.look 1
    have c2_2 := HX2.look 2
    have c2_3 := HX2.look 3
    have c2_4 := HX2.look 4
    have c2_5 := HX2.look 5
    have f2_0 := HX2.free 0
    have f2_1 := HX2.free 1
    have f2_2 := HX2.free 2
    have f2_3 := HX2.free 3
    have f2_4 := HX2.free 4
    have f2_5 := HX2.free 5
    have l2_0 := HX1.bx.lt
    have l2_1 := HX2.bx.lt
    go_wp2
    clear c2_0 c2_1 c2_2 c2_3 c2_4 c2_5 f2_0 f2_1 f2_2 f2_3 f2_4 f2_5 l2_0 l2_1
    obtain ⟨U3, hU3⟩ : ∃ W : World, W = ((((((w2.setCell ⟨w.heap.size + 1, 0, none⟩ (.int .i64 r)).setCell ⟨w.heap.size + 1, 1, none⟩ (.int .i64 0)).setCell ⟨w.heap.size + 1, 2, none⟩ (.bool false)).setCell ⟨w.heap.size + 1, 3, none⟩ (.slice none 0 0)).setCell ⟨w.heap.size + 1, 4, none⟩ (.bool false)).setCell ⟨w.heap.size + 1, 5, none⟩ (.slice none 0 0)) := ⟨_, rfl⟩
    have ho : Only (w.heap.size + 1) (w.heap.size + 1 + 1) w2 U3 := by rw [hU3]; exact (((((((Only.refl _ _ _).set (p := ⟨w.heap.size + 1, 0, none⟩) (Nat.le_refl _) (Nat.lt_succ_self _) _).set (p := ⟨w.heap.size + 1, 1, none⟩) (Nat.le_refl _) (Nat.lt_succ_self _) _).set (p := ⟨w.heap.size + 1, 2, none⟩) (Nat.le_refl _) (Nat.lt_succ_self _) _).set (p := ⟨w.heap.size + 1, 3, none⟩) (Nat.le_refl _) (Nat.lt_succ_self _) _).set (p := ⟨w.heap.size + 1, 4, none⟩) (Nat.le_refl _) (Nat.lt_succ_self _) _).set (p := ⟨w.heap.size + 1, 5, none⟩) (Nat.le_refl _) (Nat.lt_succ_self _) _)
    replace HX2 : Kept (w.heap.size + 1) (w.heap.size + 1 + 1) (BoxK (w.heap.size + 1) 30 #[.int .i64 r, .int .i64 0, .bool false, .slice none 0 0, .bool false, .slice none 0 0]) U3 := by rw [hU3]; exact Kept.box ((((((HX2.bx.puts 0 (.int .i64 r) (cs' := #[.int .i64 r, .int .i64 0, .bool false, .slice none 0 0, .bool false, .slice none 0 0]) rfl).puts 1 (.int .i64 0) (cs' := #[.int .i64 r, .int .i64 0, .bool false, .slice none 0 0, .bool false, .slice none 0 0]) rfl).puts 2 (.bool false) (cs' := #[.int .i64 r, .int .i64 0, .bool false, .slice none 0 0, .bool false, .slice none 0 0]) rfl).puts 3 (.slice none 0 0) (cs' := #[.int .i64 r, .int .i64 0, .bool false, .slice none 0 0, .bool false, .slice none 0 0]) rfl).puts 4 (.bool false) (cs' := #[.int .i64 r, .int .i64 0, .bool false, .slice none 0 0, .bool false, .slice none 0 0]) rfl).puts 5 (.slice none 0 0) (cs' := #[.int .i64 r, .int .i64 0, .bool false, .slice none 0 0, .bool false, .slice none 0 0]) rfl)
    replace HA := HA.only ho (by have := Zh.out; have := Z1.out; have := Z2.out; omega)
    replace HX1 := HX1.only ho (by have := Zh.out; have := Z1.out; have := Z2.out; omega)
    replace HB := Lib.hid (Below.only HB.out ho (by have := Zh.out; have := Z1.out; have := Z2.out; omega) HB.out.size)
    have Z3 : Hid (U3.heap.size = w2.heap.size) := Lib.hid (by rw [hU3]; simp [World.setCell]); clear ho
    have q_0 := HX2.look 0
    have q_1 := HX2.look 1
    have q_2 := HX2.look 2
    have q_3 := HX2.look 3
    have q_4 := HX2.look 4
    have q_5 := HX2.look 5
    subst hU3
    exact bodyPost_ret (v := .agg #[.int .i64 r, .int .i64 0, .bool false, .slice none 0 0, .bool false, .slice none 0 0]) (by simp [results, Try.results33, go_sem, q_0, q_1, q_2, q_3, q_4, q_5]) rfl ⟨none, 0, 0, none, 0, 0, by rw [HV.out.1, HV.out.2.1, HV.out.2.2.1, HV.out.2.2.2.2.1], by rw [HV.out.2.2.2.1, HV.out.2.2.2.2.2]; exact QK.kept (QK.nil _ _ _ _ _) (Nat.le_refl _), HB.out⟩
  have h0 : qf cap ys = 0 := Classical.byContradiction h0
  · have HB := Lib.hid (Below.refl w.heap.size w)
    have HA := Rep.Sl.kept ha hh
    have Zh := Lib.hid hh
    have HR := Lib.hid h0
    have hq8 := qf_ok h0
    have hn8 : n ≤ 1000 := by have := hq8.2.2.1; omega
    have HV : Hid (qf cap ys = 0 ∧ dqX cap ys = cap ∧ ppP ys = false ∧ dqU ys = [] ∧ dqT cap mk ys = mk ∧ dqZ cap ys = ys) := Lib.hid (by refine ⟨?_, ?_, ?_, ?_, ?_, ?_⟩ <;> simp [dqX, ppP, dqU, dqT, dqZ, h0])
    clear h0 hq8
    clear ha hl hh
    go_enter Try.func33, Try.ntmps33
    go_wp2_with fail
    refine Calls.name ?_
    intro U1 hU1
    have hb : Below w.heap.size w U1 := by rw [hU1]; exact (((Below.refl _ _).alloc (Nat.le_refl _) _).alloc (by simp <;> omega) _)
    have zz : Hid (w.heap.size + 2 = U1.heap.size) := Lib.hid (by rw [hU1]; simp)
    have HX1 : Kept w.heap.size (w.heap.size + 1) (BoxK w.heap.size 26 #[.int .i64 cap, .bool mk, .slice A n c]) U1 := by rw [hU1]; exact Kept.box ((Box.made_at _ _ _ rfl).over _)
    have HX2 : Kept (w.heap.size + 1) (w.heap.size + 1 + 1) (BoxK (w.heap.size + 1) 30 #[.int .i64 0, .int .i64 0, .bool false, .slice none 0 0, .bool false, .slice none 0 0]) U1 := by rw [hU1]; exact Kept.box (Box.made_at _ _ _ (by simp <;> omega))
    replace HA := HA.below hb
    replace HB := Lib.hid (below_step HB.out hb)
    clear hb
    have Z1 := zz; clear zz
    clear hU1
    refine (specQueueFault_any cap mk q lo hi A n c ys _ HA.sl HA.le hn).mono ?_
    rw [HR.out]
    rintro e w2 ⟨rfl, hb⟩
    have Z2 := Lib.hid hb.size
    replace HA := HA.below hb
    replace HX1 := HX1.below hb
    replace HX2 := HX2.below hb
    replace HB := Lib.hid (below_step HB.out hb)
    clear hb
    have l2_0 := HX1.bx.lt
    have l2_1 := HX2.bx.lt
    go_wp2_with fail
    clear l2_0 l2_1
    have hbE : Below w2.heap.size w2 (w2.alloc (.cells #[] 35)).drew := ((Below.refl _ _).alloc (Nat.le_refl _) _).drew
    have HBE := Lib.hid hbE
    have HIN : Hid (InF 4 tcell (w2.alloc (.cells #[] 35)).drew A n ys) := Lib.hid (Rep.timer_inF (HA.below hbE).sl)
    have HEM : Hid (OwnF 35 4 tcell (w2.alloc (.cells #[] 35)).drew w2.heap.size (some ⟨w2.heap.size, 0, none⟩) 0 0 []) := Lib.hid (emptyF 35 4 tcell w2)
    clear hbE
    have s0 := HX1.look 0
    have s1 := HX1.look 1
    have s2 := HX1.look 2
    have lHX2 := HX2.bx.lt
    have lHX1 := HX1.bx.lt
    go_region_law (first | ((show (if Region.wanted (Oper.mk (some 18) _ _ _ _ _) _ = true then _ else _)); refine step_appI0 tcell_len tcell_one Try.underlying24 itemInfo rfl (by decide) (by decide) (by rfl) (.tmp 15) (.tmp 17) (by rfl) (B := w2.heap.size) (by rfl) HEM.out (by rfl) HIN.out (by omega) HBE.out.size ?_; intro E d u1 ho hgr; have HO := Lib.hid ho; have HU : Hid (Below w2.heap.size w2 u1) := Lib.hid (HBE.out.grown hgr HBE.out.size (fun r hr => by injection hr with hr; exact Nat.le_of_eq hr)); have HR1 := HX2.below HU.out; have HG1 := HX1.below HU.out; have x0 := HR1.look 0; have y0 := HR1.free 0; have x1 := HR1.look 1; have y1 := HR1.free 1; have x2 := HR1.look 2; have y2 := HR1.free 2; have x3 := HR1.look 3; have y3 := HR1.free 3; have x4 := HR1.look 4; have y4 := HR1.free 4; have x5 := HR1.look 5; have y5 := HR1.free 5; have xl := HR1.bx.lt; have k0 := HG1.look 0; have k1 := HG1.look 1; have k2 := HG1.look 2; clear ho hgr))
    all_goals
      have HO2 : Hid (OwnF 35 4 tcell u1 w2.heap.size E n d ys) := Lib.hid (by have h := HO.out; rwa [Nat.zero_add, List.nil_append] at h)
      clear HO s0 s1 s2 k0 k1 k2 xl HR1 HG1 x0 y0 x1 y1 x2 y2 x3 y3 x4 y4 x5 y5
      clear lHX2
      clear lHX1
      have hb : Below w2.heap.size w2 u1 := HU.out
      have Z3 := Lib.hid hb.size
      replace HA := HA.below hb
      replace HX1 := HX1.below hb
      replace HX2 := HX2.below hb
      replace HB := Lib.hid (below_step HB.out hb)
      clear hb
      have HO := HO2.out.kept rfl
      have l3_0 := HX1.bx.lt
      have l3_1 := HX2.bx.lt
      go_wp2
      clear l3_0 l3_1
      obtain ⟨U3, hU3⟩ : ∃ W : World, W = ((((((u1.setCell ⟨w.heap.size + 1, 0, none⟩ (.int .i64 0)).setCell ⟨w.heap.size + 1, 1, none⟩ (.int .i64 cap)).setCell ⟨w.heap.size + 1, 2, none⟩ (.bool false)).setCell ⟨w.heap.size + 1, 3, none⟩ (.slice none 0 0)).setCell ⟨w.heap.size + 1, 4, none⟩ (.bool mk)).setCell ⟨w.heap.size + 1, 5, none⟩ (.slice E n d)) := ⟨_, rfl⟩
      have ho : Only (w.heap.size + 1) (w.heap.size + 1 + 1) u1 U3 := by rw [hU3]; exact (((((((Only.refl _ _ _).set (p := ⟨w.heap.size + 1, 0, none⟩) (Nat.le_refl _) (Nat.lt_succ_self _) _).set (p := ⟨w.heap.size + 1, 1, none⟩) (Nat.le_refl _) (Nat.lt_succ_self _) _).set (p := ⟨w.heap.size + 1, 2, none⟩) (Nat.le_refl _) (Nat.lt_succ_self _) _).set (p := ⟨w.heap.size + 1, 3, none⟩) (Nat.le_refl _) (Nat.lt_succ_self _) _).set (p := ⟨w.heap.size + 1, 4, none⟩) (Nat.le_refl _) (Nat.lt_succ_self _) _).set (p := ⟨w.heap.size + 1, 5, none⟩) (Nat.le_refl _) (Nat.lt_succ_self _) _)
      replace HX2 : Kept (w.heap.size + 1) (w.heap.size + 1 + 1) (BoxK (w.heap.size + 1) 30 #[.int .i64 0, .int .i64 cap, .bool false, .slice none 0 0, .bool mk, .slice E n d]) U3 := by rw [hU3]; exact Kept.box ((((((HX2.bx.puts 0 (.int .i64 0) (cs' := #[.int .i64 0, .int .i64 0, .bool false, .slice none 0 0, .bool false, .slice none 0 0]) rfl).puts 1 (.int .i64 cap) (cs' := #[.int .i64 0, .int .i64 cap, .bool false, .slice none 0 0, .bool false, .slice none 0 0]) rfl).puts 2 (.bool false) (cs' := #[.int .i64 0, .int .i64 cap, .bool false, .slice none 0 0, .bool false, .slice none 0 0]) rfl).puts 3 (.slice none 0 0) (cs' := #[.int .i64 0, .int .i64 cap, .bool false, .slice none 0 0, .bool false, .slice none 0 0]) rfl).puts 4 (.bool mk) (cs' := #[.int .i64 0, .int .i64 cap, .bool false, .slice none 0 0, .bool mk, .slice none 0 0]) rfl).puts 5 (.slice E n d) (cs' := #[.int .i64 0, .int .i64 cap, .bool false, .slice none 0 0, .bool mk, .slice E n d]) rfl)
      replace HA := HA.only ho (by have := Zh.out; have := Z1.out; have := Z2.out; have := Z3.out; omega)
      replace HX1 := HX1.only ho (by have := Zh.out; have := Z1.out; have := Z2.out; have := Z3.out; omega)
      replace HO := HO.only ho (by have := Zh.out; have := Z1.out; have := Z2.out; have := Z3.out; omega)
      replace HB := Lib.hid (Below.only HB.out ho (by have := Zh.out; have := Z1.out; have := Z2.out; have := Z3.out; omega) HB.out.size)
      have Z4 : Hid (U3.heap.size = u1.heap.size) := Lib.hid (by rw [hU3]; simp [World.setCell]); clear ho
      have q_0 := HX2.look 0
      have q_1 := HX2.look 1
      have q_2 := HX2.look 2
      have q_3 := HX2.look 3
      have q_4 := HX2.look 4
      have q_5 := HX2.look 5
      subst hU3
      exact bodyPost_ret (v := .agg #[.int .i64 0, .int .i64 cap, .bool false, .slice none 0 0, .bool mk, .slice E n d]) (by simp [results, Try.results33, go_sem, q_0, q_1, q_2, q_3, q_4, q_5]) rfl ⟨none, 0, 0, E, n, d, by rw [HV.out.1, HV.out.2.1, HV.out.2.2.1, HV.out.2.2.2.2.1], by rw [HV.out.2.2.2.1, HV.out.2.2.2.2.2]; exact QK.kept (QK.of_own (OwnF.nil_ _ _ _ _ _) (HO.ownF.mono (by have := Zh.out; have := Z1.out; have := Z2.out; have := Z3.out; have := Z4.out; omega)) (fun r h => by cases h)) (Nat.le_refl _), HB.out⟩

end Go.Proofs.Ytomkgohhfllpgaa
