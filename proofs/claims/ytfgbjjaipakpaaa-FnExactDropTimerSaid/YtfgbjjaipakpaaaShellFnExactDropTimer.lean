/-
  The program's DropTimer answers as the model's, writes into no argument, and its answer owns its memory. No condition.
-/
import Derived.Test.YtfgbjjaipakpaaaDropMath
import Derived.Test.YtfgbjjaipakpaaaSpecTimers
import Derived.Deep.DeepCutAuto
import Derived.Test.YtfgbjjaipakpaaaRows
import Derived.WalkKit
import Derived.ProofKit
import Derived.OpenShut
import Derived.ShutString
import Derived.ChangeOld
import Derived.Below
import Derived.Test.YtfgbjjaipakpaaaOpenWheel
namespace Go.Proofs.Ytfgbjjaipakpaaa
open Go.RowKit Go.Shelf
set_option linter.unusedVariables false

/-- What DropTimer answers. -/
def dtC (now : Int) (ys : List (List Tmr)) (k : Tmr) : Int := if faultW now ys ≠ 0 then faultW now ys else if (ys.flatten.any fun t => keyT t k) = true then 0 else 4
def dtN (now : Int) (ys : List (List Tmr)) (k : Tmr) : Int := if dtC now ys k = 0 then now else 0
def dtR (now : Int) (ys : List (List Tmr)) (k : Tmr) : List (List Tmr) := if dtC now ys k = 0 then ys.map (fun y => y.filter fun t => !keyT t k) else []
theorem dtC_ok {now : Int} {ys : List (List Tmr)} {k : Tmr} (h : dtC now ys k = 0) : faultW now ys = 0 := by
  unfold dtC at h
  by_cases hf : faultW now ys = 0
  · exact hf
  · rw [if_pos hf] at h; exact absurd h hf
theorem tot_map_filter (p : Tmr → Bool) (ys : List (List Tmr)) : tot (ys.map fun y => y.filter p) ≤ tot ys := by
  induction ys with
  | nil => simp [tot]
  | cons y r ih =>
    have := List.length_filter_le p y
    simp only [tot, List.map_cons, List.map_map, List.sum_cons, Function.comp_def] at ih ⊢
    omega
theorem dt_bd (now : Int) (ys : List (List Tmr)) (k : Tmr) : (dtR now ys k).length ≤ 1048576 ∧ (∀ y ∈ dtR now ys k, y.length ≤ 1048576) ∧ tot (dtR now ys k) ≤ 1048576 ∧ ([] : List Tmr).length ≤ 1048576 := by
  unfold dtR
  by_cases h : dtC now ys k = 0
  · obtain ⟨_, h1, h2⟩ := fault_ok (dtC_ok h)
    rw [if_pos h]
    have h3 := tot_map_filter (fun t => !keyT t k) ys
    refine ⟨by simp; omega, fun y hy => ?_, by omega, by simp⟩
    obtain ⟨i, hi, rfl⟩ := List.getElem_of_mem hy
    have := tot_at _ i _ (List.getElem?_eq_getElem hi)
    omega
  · rw [if_neg h]
    exact ⟨by simp, fun y hy => (by cases hy), by simp [tot], by simp⟩

section
attribute [local go_sem] Oper.semAt_some

set_option maxRecDepth 100000 in
set_option maxHeartbeats 4000000 in
theorem dropTimer_any (now : Int) (k : Tmr) (q : Bool) (lo hi : Nat) (A : Option Addr) (n c : Nat) (ys : List (List Tmr)) (w : World) (ha : Rep.timer.rows.Sl q lo hi w A n ys) (hh : hi ≤ w.heap.size) (hn : n ≤ 1048576) (hm : ∀ y ∈ ys, y.length ≤ 1048576) (hc : n ≤ c) :
    Calls Try.prog 20 #[.agg #[.int .i64 now, .slice A n c], .agg #[.int .i64 k.typ, .int .i64 k.id, .int .i64 k.adv]] w (WOut w (dtC now ys k) (dtN now ys k) (dtR now ys k) []) := by
  have HA := Rep.Sl.kept ha hh
  have hl := ha.1
  have HM := Lib.hid hm
  obtain ⟨r, hr⟩ : ∃ r, faultW now ys = r := ⟨_, rfl⟩
  have HRR := Lib.hid hr
  clear ha hm hr
  go_enter Try.func20, Try.ntmps20
  go_upto_region 1 with (fail)
  refine Code.wp_name ?_
  intro V hV
  have HX : Hid (Box V w.heap.size 26 #[.int .i64 now, .slice A n c]) := Lib.hid (by rw [hV]; exact ((Box.made _ _ _).over _).over _)
  have HK : Hid (Box V (w.heap.size + 1) 34 #[.int .i64 k.typ, .int .i64 k.id, .int .i64 k.adv]) := Lib.hid (by rw [hV]; exact (Box.made_at _ _ _ (by simp)).over _)
  have HR : Hid (Box V (w.heap.size + 2) 31 #[.int .i64 0, .int .i64 0, .slice none 0 0, .slice none 0 0]) := Lib.hid (by rw [hV]; exact Box.made_at _ _ _ (by simp))
  have HB : Hid (Below w.heap.size w V) := Lib.hid (by rw [hV]; exact (((Below.refl _ _).alloc (Nat.le_refl _) _).alloc (by simp) _).alloc (by simp; omega) _)
  have HZ : Hid (w.heap.size + 3 = V.heap.size) := Lib.hid (by rw [hV]; simp)
  clear hV
  have c0 := HX.out.look 0
  have c1 := HX.out.look 1
  have hxl := HX.out.lt
  go_wp2_with fail
  refine (wheelFault_any now q lo hi A n c ys _ (HA.below HB.out).sl (HA.below HB.out).le hn HM.out hc).mono ?_
  rw [HRR.out]
  rintro e w1 ⟨rfl, hb1⟩
  have HX1 := Lib.hid (HX.out.below hb1)
  have HK1 := Lib.hid (HK.out.below hb1)
  have HR1 := Lib.hid (HR.out.below hb1)
  have HB1 := Lib.hid (below_step HB.out hb1)
  have HZ1 : Hid (w.heap.size + 3 ≤ w1.heap.size) := Lib.hid (by have := HZ.out; have := hb1.size; omega)
  clear hb1 HX HR HB HZ HK c0 c1 hxl
  have c0 := HX1.out.look 0
  have c1 := HX1.out.look 1
  have hxl := HX1.out.lt
  by_cases hr0 : r = 0
  · subst hr0
    obtain ⟨hok, h24, h60⟩ := fault_ok HRR.out
    obtain rfl : n = 24 := by omega
    go_wp2_with fail
    refine (dialOf_rows now q lo hi A c ys _ (HA.below HB1.out).sl (HA.below HB1.out).le hc).mono ?_
    rintro e w2 ⟨s, rfl, hds, hb2⟩
    have HR2 := Lib.hid (HR1.out.below hb2)
    have HK2 := Lib.hid (HK1.out.below hb2)
    have HB2 := Lib.hid (below_step HB1.out hb2)
    have HZ2 : Hid (w.heap.size + 3 ≤ w2.heap.size) := Lib.hid (by have := HZ1.out; have := hb2.size; omega)
    have HS2 := Lib.hid (hds.below hb2 (HA.below HB1.out).le)
    have HONE : Hid (∀ k, k < 24 → (s k).oneCell' = true) := Lib.hid (fun k hk => by obtain ⟨E, d, e, _⟩ := hds k hk; rw [e]; rfl)
    clear hds hb2 HX1 HR1 HB1 HK1 c0 c1 hxl
    go_upto_region 5 with (refine wpList_store_dial (now := 0) (now' := now) (s := fun _ => .slice none 0 0) (s' := s) rfl _ _ rfl rfl rfl (Box.made w2 87 (dialCells 0 fun _ => .slice none 0 0)) HONE.out ?_)
    refine Code.wp_name ?_
    intro V3 hV3
    have HR3 : Hid (Box V3 (w.heap.size + 2) 31 #[.int .i64 0, .int .i64 0, .slice none 0 0, .slice none 0 0]) := Lib.hid (by rw [hV3]; exact (HR2.out.over _).grown (setRow_grown _ _ _) (by have := HZ2.out; simp; omega))
    have HK3 : Hid (Box V3 (w.heap.size + 1) 34 #[.int .i64 k.typ, .int .i64 k.id, .int .i64 k.adv]) := Lib.hid (by rw [hV3]; exact (HK2.out.over _).grown (setRow_grown _ _ _) (by have := HZ2.out; simp; omega))
    have HD3 : Hid (Box V3 w2.heap.size 87 (dialCells now s)) := Lib.hid (by rw [hV3]; exact (Box.made w2 _ _).setRow)
    have hb3 : Below w2.heap.size w2 V3 := by rw [hV3]; exact ((Below.refl _ _).alloc (Nat.le_refl _) _).grown (setRow_grown _ _ _) (by simp) (fun k e => by injection e with e; omega)
    have HB3 := Lib.hid (below_step HB2.out hb3)
    have HHI : Hid (hi ≤ w2.heap.size) := Lib.hid (Nat.le_trans hh HB2.out.size)
    have HS3 := Lib.hid (HS2.out.below hb3 HHI.out)
    have HZ3 : Hid (w2.heap.size + 1 = V3.heap.size) := Lib.hid (by rw [hV3]; simp [World.setRow])
    have HT : Hid (∀ k, k < 24 → (ys.getD k []).length ≤ 40000) := Lib.hid (fun k hk => by have := getD_tot (ys := ys) k; omega)
    have HH3 : Hid (hi ≤ V3.heap.size) := Lib.hid (by have := HHI.out; have := HZ3.out; omega)
    clear hV3 HR2 HB2 HS2 hb3 HK2
    obtain ⟨z, hz⟩ : ∃ z, (ys.flatten.any fun t => keyT t k) = z := ⟨_, rfl⟩
    have HZZ := Lib.hid hz
    clear hz
    have k0 := HK3.out.look 0
    have k1 := HK3.out.look 1
    have k2 := HK3.out.look 2
    have hkl := HK3.out.lt
    go_wp2_with (refine wpList_load_dial rfl _ rfl rfl HD3.out ?_)
    refine (has_any now s (fun k => ys.getD k []) lo hi k _ HS3.out HH3.out HT.out).mono ?_
    rw [rows24 hl, HZZ.out]
    rintro e w4 ⟨rfl, hb4⟩
    have HR4 := Lib.hid (HR3.out.below hb4)
    have HK4 := Lib.hid (HK3.out.below hb4)
    have HD4 := Lib.hid (HD3.out.below hb4)
    have HB4 := Lib.hid (below_step HB3.out hb4)
    have HS4 := Lib.hid (HS3.out.below hb4 HH3.out)
    have HH4 : Hid (hi ≤ w4.heap.size) := Lib.hid (Nat.le_trans HH3.out hb4.size)
    have HZ4 : Hid (w.heap.size + 3 ≤ w4.heap.size) := Lib.hid (by have := HZ3.out; have := HZ2.out; have := hb4.size; omega)
    clear hb4 HR3 HK3 HD3 HB3 HS3 k0 k1 k2 hkl HONE
    cases z with
    | true =>
      have hC : dtC now ys k = 0 := by unfold dtC; rw [if_neg (fun e => e HRR.out), if_pos HZZ.out]
      have HWO : Hid (dtC now ys k = 0 ∧ dtN now ys k = now ∧ dtR now ys k = ys.map (fun y => y.filter fun t => !keyT t k)) := Lib.hid ⟨hC, if_pos hC, if_pos hC⟩
      clear hC
      have k0 := HK4.out.look 0
      have k1 := HK4.out.look 1
      have k2 := HK4.out.look 2
      have hkl := HK4.out.lt
      go_wp2_with (refine wpList_load_dial rfl _ rfl rfl HD4.out ?_)
      refine (without_any now s (fun k => ys.getD k []) lo hi k _ HS4.out HH4.out (by rw [rows24 hl, show ys.flatten.length = tot ys by simp [tot]]; omega) HT.out (by rw [rows24 hl]; exact fault_in HRR.out)).mono ?_
      rw [rows24 hl]
      rintro e w5 ⟨s5, rfl, hdc, hb5⟩
      have HDC := Lib.hid hdc
      have HR5 := Lib.hid (HR4.out.below hb5)
      have HB5 := Lib.hid (below_step HB4.out hb5)
      have HZ5 : Hid (w.heap.size + 3 ≤ w5.heap.size) := Lib.hid (by have := HZ4.out; have := hb5.size; omega)
      clear hdc hb5 HR4 HK4 HD4 HB4 HS4 k0 k1 k2 hkl
      go_wp2_with fail
      refine (wheel_any now s5 _ _ _ _ HDC.out.din (Nat.le_refl _) (fun i _ => by
        have h1 := withAll_le now (ys.flatten.filter fun t => !keyT t k) i
        have h2 := List.length_filter_le (fun t => !keyT t k) ys.flatten
        have h3 : ys.flatten.length = tot ys := by simp [tot]
        omega)).mono ?_
      rw [rows_filter HRR.out]
      rintro e w6 ⟨P, pc, vs, rfl, hor, hrr, hb6⟩
      have HK0 := RowsO.resK hrr hor
      have HK6 := ResK.kept HK0 (Nat.le_refl _)
      have HR6 := HR5.out.below hb6
      have HB6 := below_step HB5.out hb6
      clear hb6 hor hrr HK0
      obtain ⟨hbx, hres⟩ := res_stored (g := w.heap.size + 2) HR6 (by omega) (by have := HZ5.out; omega) HB6 HK6 0 now pc 0
      have r0 := HR6.look 0
      have r1 := HR6.look 1
      have r2 := HR6.look 2
      have r3 := HR6.look 3
      have f0 := HR6.free 0
      have f1 := HR6.free 1
      have f2 := HR6.free 2
      have f3 := HR6.free 3
      have hrl := HR6.lt
      go_wp2
      clear r0 r1 r2 r3 f0 f1 f2 f3 hrl
      have q0 := hbx.look 0
      have q1 := hbx.look 1
      have q2 := hbx.look 2
      have q3 := hbx.look 3
      exact bodyPost_ret (v := .agg #[.int .i64 0, .int .i64 now, .slice P 24 pc, .slice none 0 0]) (by simp [results, Try.results20, go_sem, q0, q1, q2, q3]) rfl (by rw [HWO.out.1, HWO.out.2.1, HWO.out.2.2]; exact hres)
    | false =>
      have hC : dtC now ys k = 4 := by unfold dtC; rw [if_neg (fun e => e HRR.out), if_neg (by rw [HZZ.out]; simp)]
      have hC' : ¬ dtC now ys k = 0 := by rw [hC]; omega
      have HWO : Hid (dtC now ys k = 4 ∧ dtN now ys k = 0 ∧ dtR now ys k = []) := Lib.hid ⟨hC, if_neg hC', if_neg hC'⟩
      clear hC hC'
      have r0 := HR4.out.look 0
      have r1 := HR4.out.look 1
      have r2 := HR4.out.look 2
      have r3 := HR4.out.look 3
      have f0 := HR4.out.free 0
      have f1 := HR4.out.free 1
      have f2 := HR4.out.free 2
      have f3 := HR4.out.free 3
      have hrl := HR4.out.lt
      go_wp2
      clear r0 r1 r2 r3 f0 f1 f2 f3 hrl
      have hbx := (((HR4.out.puts 0 (.int .i64 4) (cs' := #[.int .i64 4, .int .i64 0, .slice none 0 0, .slice none 0 0]) rfl).puts 1 (.int .i64 0) (cs' := #[.int .i64 4, .int .i64 0, .slice none 0 0, .slice none 0 0]) rfl).puts 2 (.slice none 0 0) (cs' := #[.int .i64 4, .int .i64 0, .slice none 0 0, .slice none 0 0]) rfl).puts 3 (.slice none 0 0) (cs' := #[.int .i64 4, .int .i64 0, .slice none 0 0, .slice none 0 0]) rfl
      have q0 := hbx.look 0
      have q1 := hbx.look 1
      have q2 := hbx.look 2
      have q3 := hbx.look 3
      exact bodyPost_ret (v := .agg #[.int .i64 4, .int .i64 0, .slice none 0 0, .slice none 0 0]) (by simp [results, Try.results20, go_sem, q0, q1, q2, q3]) rfl (by rw [HWO.out.1, HWO.out.2.1, HWO.out.2.2]; refine WOut.zero ?_; exact (((HB4.out.setCell (by simp; try omega) _).setCell (by simp; try omega) _).setCell (by simp; try omega) _).setCell (by simp; try omega) _)
  · have hC : dtC now ys k = r := by unfold dtC; rw [HRR.out, if_pos hr0]
    have hC' : ¬ dtC now ys k = 0 := by rw [hC]; exact hr0
    have HWO : Hid (dtC now ys k = r ∧ dtN now ys k = 0 ∧ dtR now ys k = []) := Lib.hid ⟨hC, if_neg hC', if_neg hC'⟩
    have hr0' : (r != 0) = true := by rw [bne_iff_ne]; exact hr0
    clear hr0 hC hC'
    have r0 := HR1.out.look 0
    have r1 := HR1.out.look 1
    have r2 := HR1.out.look 2
    have r3 := HR1.out.look 3
    have f0 := HR1.out.free 0
    have f1 := HR1.out.free 1
    have f2 := HR1.out.free 2
    have f3 := HR1.out.free 3
    have hrl := HR1.out.lt
    go_wp2
    clear r0 r1 r2 r3 f0 f1 f2 f3 hrl
    have hbx := (((HR1.out.puts 0 (.int .i64 r) (cs' := #[.int .i64 r, .int .i64 0, .slice none 0 0, .slice none 0 0]) rfl).puts 1 (.int .i64 0) (cs' := #[.int .i64 r, .int .i64 0, .slice none 0 0, .slice none 0 0]) rfl).puts 2 (.slice none 0 0) (cs' := #[.int .i64 r, .int .i64 0, .slice none 0 0, .slice none 0 0]) rfl).puts 3 (.slice none 0 0) (cs' := #[.int .i64 r, .int .i64 0, .slice none 0 0, .slice none 0 0]) rfl
    have q0 := hbx.look 0
    have q1 := hbx.look 1
    have q2 := hbx.look 2
    have q3 := hbx.look 3
    exact bodyPost_ret (v := .agg #[.int .i64 r, .int .i64 0, .slice none 0 0, .slice none 0 0]) (by simp [results, Try.results20, go_sem, q0, q1, q2, q3]) rfl (by rw [HWO.out.1, HWO.out.2.1, HWO.out.2.2]; refine WOut.zero ?_; exact (((HB1.out.setCell (by simp; try omega) _).setCell (by simp; try omega) _).setCell (by simp; try omega) _).setCell (by simp; try omega) _)

end
end Go.Proofs.Ytfgbjjaipakpaaa

namespace Go.Proofs.Ytfgbjjaipakpaaa
open Go.RowKit Go.Shelf
set_option linter.unusedVariables false

theorem InF.take {w : World} {A : Option Addr} {n : Nat} {ys : List Tmr} (h : InF 4 tcell w A n ys) (j : Nat) (hj : j ≤ n) : InF 4 tcell w A j (ys.take j) := by
  refine ⟨by simp [h.1]; omega, fun hp => ?_⟩
  obtain ⟨b, o, e, h2⟩ := h.2 (by omega)
  refine ⟨b, o, e, fun i u hu => h2 i u ?_⟩
  have hs : ys.flatMap tcell = (ys.take j).flatMap tcell ++ (ys.drop j).flatMap tcell := by rw [← List.flatMap_append, List.take_append_drop]
  rw [hs, List.getElem?_append_left (List.getElem?_eq_some_iff.1 hu).1]
  exact hu
theorem InF.drop {w : World} {b o n : Nat} {ys : List Tmr} (h : InF 4 tcell w (some ⟨b, o, none⟩) n ys) (j : Nat) (hj : j ≤ n) : InF 4 tcell w (some ⟨b, o + j * 4, none⟩) (n - j) (ys.drop j) := by
  refine ⟨by simp [h.1], fun hp => ?_⟩
  obtain ⟨b', o', e, h2⟩ := h.2 (by omega)
  injection e with e
  injection e with e1 e2
  subst e1 e2
  refine ⟨b, o + j * 4, rfl, fun i u hu => ?_⟩
  have hs : ys.flatMap tcell = (ys.take j).flatMap tcell ++ (ys.drop j).flatMap tcell := by rw [← List.flatMap_append, List.take_append_drop]
  have hl : ((ys.take j).flatMap tcell).length = j * 4 := by rw [flat_len tcell_len, List.length_take]; have := h.1; rw [Nat.min_eq_left (by omega)]
  have := h2 (j * 4 + i) u (by rw [hs, List.getElem?_append_right (by omega), hl, Nat.add_sub_cancel_left]; exact hu)
  rwa [← Nat.add_assoc] at this
/-- What l4Drop leaves of a slot. -/
def dropK (k : Tmr) (y : List Tmr) : List Tmr := if 0 ≤ findV y k then y.take (findV y k).toNat ++ y.drop ((findV y k).toNat + 1) else y
theorem findV_cases (y : List Tmr) (k : Tmr) : findV y k = -1 ∨ ∃ j : Nat, j < y.length ∧ findV y k = j := by
  unfold findV
  by_cases h : y.any (fun t => keyT t k) = true
  · rw [if_pos h]
    obtain ⟨t, ht, hk⟩ := List.any_eq_true.1 h
    exact .inr ⟨_, List.findIdx_lt_length_of_exists ⟨t, ht, hk⟩, rfl⟩
  · rw [if_neg h]; exact .inl rfl
theorem rows_at_i {k : Tmr} {ys : List (List Tmr)} {i : Nat} {y : List Tmr} (hy : ys[i]? = some y) : ((ys.take i).map (dropK k) ++ ys.drop i)[i]? = some y := by
  have hi := (List.getElem?_eq_some_iff.1 hy).1
  have hl : ((ys.take i).map (dropK k)).length = i := by simp; omega
  rw [List.getElem?_append_right (by omega), hl, Nat.sub_self, List.getElem?_drop]
  simpa using hy
theorem rows_set_i {k : Tmr} {ys : List (List Tmr)} {i : Nat} {y : List Tmr} (hy : ys[i]? = some y) : ((ys.take i).map (dropK k) ++ ys.drop i).set i (dropK k y) = (ys.take (i + 1)).map (dropK k) ++ ys.drop (i + 1) := by
  have hi := (List.getElem?_eq_some_iff.1 hy).1
  have hl : ((ys.take i).map (dropK k)).length = i := by simp; omega
  rw [List.set_append_right _ _ (by omega), hl, Nat.sub_self, List.drop_eq_getElem_cons hi, List.set_cons_zero, List.take_succ_eq_append_getElem hi, List.map_append, (List.getElem?_eq_some_iff.1 hy).2, List.append_assoc]
  rfl
theorem rows_same_i {k : Tmr} {ys : List (List Tmr)} {i : Nat} {y : List Tmr} (hy : ys[i]? = some y) (hd : dropK k y = y) : (ys.take i).map (dropK k) ++ ys.drop i = (ys.take (i + 1)).map (dropK k) ++ ys.drop (i + 1) := by
  rw [← rows_set_i hy, hd]
  obtain ⟨h1, h2⟩ := List.getElem?_eq_some_iff.1 (rows_at_i (k := k) hy)
  have := List.set_getElem_self h1
  rw [h2] at this
  exact this.symm

/-- A row of the own rows is put anew, in a fresh block. -/
theorem drop_put {w u u2 : World} {B g pg pc i n c : Nat} {now : Int} {k : Tmr} {vs : List SlV} {rows : List (List Tmr)} {y y' : List Tmr} {v : SlV} {E : Option Addr} (hBp : B ≤ pg) (hne : pg ≠ g) (hz : w.heap.size + 1 ≤ u.heap.size) (hB : B ≤ w.heap.size)
    (hq : RowsO u B vs rows) (ho : OwnF 29 1 scell u B (some ⟨pg, 0, none⟩) 24 pc vs) (hg : Box u g 26 #[.int .i64 now, .slice (some ⟨pg, 0, none⟩) 24 pc]) (hk : Box u w.heap.size 34 #[.int .i64 k.typ, .int .i64 k.id, .int .i64 k.adv]) (hb : Below B w u)
    (hu : Below u.heap.size u u2) (hv : vs[i]? = some v) (hy : rows[i]? = some y) (hn : OwnF 36 4 tcell u2 u.heap.size E n c y') :
    RowsO (u2.setCell ⟨pg, i, none⟩ (.slice E n c)) B (vs.set i (E, n, c)) (rows.set i y') ∧ OwnF 29 1 scell (u2.setCell ⟨pg, i, none⟩ (.slice E n c)) B (some ⟨pg, 0, none⟩) 24 pc (vs.set i (E, n, c)) ∧
    Box (u2.setCell ⟨pg, i, none⟩ (.slice E n c)) g 26 #[.int .i64 now, .slice (some ⟨pg, 0, none⟩) 24 pc] ∧ Box (u2.setCell ⟨pg, i, none⟩ (.slice E n c)) w.heap.size 34 #[.int .i64 k.typ, .int .i64 k.id, .int .i64 k.adv] ∧
    Below B w (u2.setCell ⟨pg, i, none⟩ (.slice E n c)) ∧ w.heap.size + 1 ≤ (u2.setCell ⟨pg, i, none⟩ (.slice E n c)).heap.size := by
  have hOu := ho.below hu
  have hQu := hq.below hu
  have hKu := hk.below hu
  have hbu := hb.size
  have hks : pg ≠ w.heap.size := fun e => by
    obtain ⟨cs, h1⟩ := hOu.typ (r := pg) rfl
    rw [e, show u2.heap[w.heap.size]? = _ from hKu] at h1; simp at h1
  have hg' := setCell_grown u2 ⟨pg, i, none⟩ (.slice E n c)
  refine ⟨hQu.set (v := (E, n, c)) (y := y') hv ((hn.mono (show B ≤ u.heap.size by omega)).grown hg' (.inr (fun e => ?_))) (fun x hx r hr _ => hg'.block r (hQu.blk x hx r hr).2.1 (fun e => ?_)) (.inr fun x hx r hr e => ?_), hOu.put1 i (E, n, c), (hg.below hu).aside (p := ⟨pg, i, none⟩) hne _, hKu.aside (p := ⟨pg, i, none⟩) hks _, (hb.trans (hu.mono (by omega))).setCell (p := ⟨pg, i, none⟩) hBp _, by have := hu.size; simp [World.setCell]; omega⟩
  · obtain ⟨cs1, h1⟩ := hOu.typ (r := pg) rfl
    obtain ⟨cs2, h2⟩ := hn.typ (r := pg) e
    rw [h1] at h2; simp at h2
  · obtain ⟨cs1, h1⟩ := hOu.typ (r := pg) rfl
    obtain ⟨_, _, cs2, h2⟩ := hQu.blk x hx r hr
    injection e with e
    subst e
    rw [h1] at h2; simp at h2
  · have h1 := (hq.blk x hx r hr).2.1
    have h2 := (hn.block r e).1
    omega

section
attribute [local go_sem] Oper.semAt_some

set_option maxRecDepth 100000 in
set_option maxHeartbeats 8000000 in
theorem l4Drop_any (B g pg pc : Nat) (now : Int) (vs : List SlV) (ys : List (List Tmr)) (k : Tmr) (w : World) (hg : Box w g 26 #[.int .i64 now, .slice (some ⟨pg, 0, none⟩) 24 pc]) (ho : OwnF 29 1 scell w B (some ⟨pg, 0, none⟩) 24 pc vs) (hr : RowsO w B vs ys) (hB : B ≤ w.heap.size) (hm : ∀ y ∈ ys, y.length ≤ 40000) :
    Calls Try.prog 73 #[.pointer (some ⟨g, 0, none⟩), .agg #[.int .i64 k.typ, .int .i64 k.id, .int .i64 k.adv]] w fun e w' => ∃ vs', e = .returned (.tuple #[]) ∧ Box w' g 26 #[.int .i64 now, .slice (some ⟨pg, 0, none⟩) 24 pc] ∧ OwnF 29 1 scell w' B (some ⟨pg, 0, none⟩) 24 pc vs' ∧ RowsO w' B vs' (ys.map (dropK k)) ∧ Below B w w' := by
  have HG := Lib.hid hg
  have HO := Lib.hid ho
  have HQ := Lib.hid hr
  have HM := Lib.hid hm
  have hyl : ys.length = 24 := by rw [← hr.len]; exact ho.1
  have hpb := ho.block pg rfl
  have hgne : pg ≠ g := fun e => by
    obtain ⟨cs, h1⟩ := ho.typ (r := pg) rfl
    rw [e, show w.heap[g]? = _ from hg] at h1; simp at h1
  have HP : Hid (B ≤ pg ∧ pg < w.heap.size ∧ pg ≠ g) := Lib.hid ⟨hpb.1, hpb.2, hgne⟩
  clear hg ho hr hm hpb hgne
  go_enter Try.func73, Try.ntmps73
  go_upto_region 1 with (fail)
  refine Code.wp_name ?_
  intro V hV
  have hbV : Below w.heap.size w V := by rw [hV]; exact (Below.refl _ _).alloc (Nat.le_refl _) _
  have HK1 : Hid (Box V w.heap.size 34 #[.int .i64 k.typ, .int .i64 k.id, .int .i64 k.adv]) := Lib.hid (by rw [hV]; exact Box.made _ _ _)
  have HG1 := Lib.hid (HG.out.below hbV)
  have HO1 := Lib.hid (HO.out.below hbV)
  have HQ1 := Lib.hid (HQ.out.below hbV)
  have HB1 : Hid (Below B w V) := Lib.hid (hbV.mono hB)
  have HZ1 : Hid (w.heap.size + 1 ≤ V.heap.size) := Lib.hid (by rw [hV]; simp)
  clear hV hbV HG HO HQ
  go_wp2
  go_loopw [4] (fun i wr => ∃ (j : Nat) (vs : List SlV), j ≤ 24 ∧ i = .int .i64 j ∧ Hid (Below B w wr) ∧ Hid (w.heap.size + 1 ≤ wr.heap.size) ∧ Hid (Box wr w.heap.size 34 #[.int .i64 k.typ, .int .i64 k.id, .int .i64 k.adv]) ∧ Hid (Box wr g 26 #[.int .i64 now, .slice (some ⟨pg, 0, none⟩) 24 pc]) ∧ Hid (OwnF 29 1 scell wr B (some ⟨pg, 0, none⟩) 24 pc vs) ∧ Hid (RowsO wr B vs ((ys.take j).map (dropK k) ++ ys.drop j))) (fun i _ => 24 - (intOf i).toNat)
  case atStart => exact ⟨0, vs, Nat.zero_le _, rfl, HB1, HZ1, HK1, HG1, HO1, HQ1⟩
  case round =>
    obtain ⟨i, vs, hi, rfl, HB, HZW, HK, HG, HO, HQ⟩ := hrel
    have c1 := HG.out.look 1
    have hgl := HG.out.lt
    by_cases hlt : i < 24
    · have hlt' : (i : Int) < 24 := by omega
      obtain ⟨y, hya⟩ : ∃ y, ys[i]? = some y := ⟨_, List.getElem?_eq_getElem (by omega)⟩
      have hvl : vs.length = 24 := HO.out.1
      obtain ⟨v0, hv0⟩ : ∃ v, vs[i]? = some v := ⟨_, List.getElem?_eq_getElem (by omega)⟩
      obtain ⟨E, m, c⟩ := v0
      have HY := Lib.hid hya
      have HV := Lib.hid hv0
      have hor : OwnT wr B (E, m, c) y := HQ.out.row i _ _ hv0 (rows_at_i hya)
      have HOR := Lib.hid hor
      have hym : y.length = m := hor.1
      have hml : m ≤ 40000 := by rw [← hym]; exact HM.out y (List.mem_of_getElem? hya)
      have hcell : wr.cell? ⟨pg, i, none⟩ = some (.slice E m c) := by
        have h := World.ownsRow.cellAt HO.out.2 i (by omega)
        rw [scell_map, List.getElem?_map, hv0] at h
        exact h
      have HC := Lib.hid hcell
      have hpl := World.block_lt_of_cell? _ _ hcell
      clear hya hv0 hor hcell hvl
      go_upto_region 4 with (fail)
      clear c1 hgl
      have SB : Hid (∀ W, Hid (Below wr.heap.size wr W) → (fun W : World => W.cell? ⟨g, 1, none⟩ = some (.slice (some ⟨pg, 0, none⟩) 24 pc) ∧ W.cell? ⟨pg, i, none⟩ = some (.slice E m c) ∧ W.cell? ⟨w.heap.size, 0, none⟩ = some (.int .i64 k.typ) ∧ W.cell? ⟨w.heap.size, 1, none⟩ = some (.int .i64 k.id) ∧ W.cell? ⟨w.heap.size, 2, none⟩ = some (.int .i64 k.adv)) W) := fun W h =>
        ⟨(HG.out.below h.out).look 1, (h.out.cell (p := ⟨pg, i, none⟩) hpl).trans HC.out, (HK.out.below h.out).look 0, (HK.out.below h.out).look 1, (HK.out.below h.out).look 2⟩
      have V0 : Hid (Below wr.heap.size wr wr.drew) := (Below.refl _ _).drew
      refine wp_region_held_drew (S := (fun W : World => W.cell? ⟨g, 1, none⟩ = some (.slice (some ⟨pg, 0, none⟩) 24 pc) ∧ W.cell? ⟨pg, i, none⟩ = some (.slice E m c) ∧ W.cell? ⟨w.heap.size, 0, none⟩ = some (.int .i64 k.typ) ∧ W.cell? ⟨w.heap.size, 1, none⟩ = some (.int .i64 k.id) ∧ W.cell? ⟨w.heap.size, 2, none⟩ = some (.int .i64 k.adv))) (by kernel_rfl) ?_ (fun hHeld => ?_)
      · (try dsimp only); exact SB.out _ V0
      refine wpAnyH_take (i := 0) (v := ?vt1_0) rfl (by kernel_rfl) (by kernel_rfl) (by kernel_rfl) (fun _ _ _ h => h) (Or.inl ⟨by rfl, ?hyt1_0⟩) (by assumption) ?restt1_0
      case hyt1_0 => (intro W hSw; (try dsimp only at hSw); obtain ⟨hS1, hS2, hS3, hS4, hS5⟩ := hSw; (go_simp <;> with_reducible rfl))
      (try simp only [List.getElem_toArray, List.getElem_cons_zero, Act.put, List.setIfInBounds_toArray, List.set_cons_zero, List.set_cons_succ])
      refine wpAnyH_take (i := 1) (v := ?vt2_1) rfl (by kernel_rfl) (by kernel_rfl) (by kernel_rfl) (fun _ _ _ h => h) (Or.inl ⟨by rfl, ?hyt2_1⟩) (by assumption) ?restt2_1
      case hyt2_1 => (intro W hSw; (try dsimp only at hSw); obtain ⟨hS1, hS2, hS3, hS4, hS5⟩ := hSw; (go_simp <;> with_reducible rfl))
      (try simp only [List.getElem_toArray, List.getElem_cons_succ, List.getElem_cons_zero, Act.put, List.setIfInBounds_toArray, List.set_cons_zero, List.set_cons_succ])
      refine wpAnyH_take (i := 2) (v := ?vt3_2) rfl (by kernel_rfl) (by kernel_rfl) (by kernel_rfl) (fun _ _ _ h => h) (Or.inl ⟨by rfl, ?hyt3_2⟩) (by assumption) ?restt3_2
      case hyt3_2 => (intro W hSw; (try dsimp only at hSw); obtain ⟨hS1, hS2, hS3, hS4, hS5⟩ := hSw; (go_simp <;> with_reducible rfl))
      (try simp only [List.getElem_toArray, List.getElem_cons_succ, List.getElem_cons_zero, Act.put, List.setIfInBounds_toArray, List.set_cons_zero, List.set_cons_succ])
      refine wpAnyH_take (i := 3) (v := ?vt4_3) rfl (by kernel_rfl) (by kernel_rfl) (by kernel_rfl) (fun _ _ _ h => h) (Or.inl ⟨by rfl, ?hyt4_3⟩) (by assumption) ?restt4_3
      case hyt4_3 => (intro W hSw; (try dsimp only at hSw); obtain ⟨hS1, hS2, hS3, hS4, hS5⟩ := hSw; (go_simp <;> with_reducible rfl))
      (try simp only [List.getElem_toArray, List.getElem_cons_succ, List.getElem_cons_zero, Act.put, List.setIfInBounds_toArray, List.set_cons_zero, List.set_cons_succ])
      refine wpAnyH_take (i := 4) (v := ?vt5_4) rfl (by kernel_rfl) (by kernel_rfl) (by kernel_rfl) (fun _ _ _ h => h) (Or.inl ⟨by rfl, ?hyt5_4⟩) (by assumption) ?restt5_4
      case hyt5_4 => (intro W hSw; (try dsimp only at hSw); obtain ⟨hS1, hS2, hS3, hS4, hS5⟩ := hSw; (go_simp <;> with_reducible rfl))
      (try simp only [List.getElem_toArray, List.getElem_cons_succ, List.getElem_cons_zero, Act.put, List.setIfInBounds_toArray, List.set_cons_zero, List.set_cons_succ])
      refine wpAnyH_take (i := 5) (v := ?vt6_5) rfl (by kernel_rfl) (by kernel_rfl) (by kernel_rfl) (fun _ _ _ h => h) (Or.inl ⟨by rfl, ?hyt6_5⟩) (by assumption) ?restt6_5
      case hyt6_5 => (intro W hSw; (try dsimp only at hSw); obtain ⟨hS1, hS2, hS3, hS4, hS5⟩ := hSw; (go_simp <;> with_reducible rfl))
      (try simp only [List.getElem_toArray, List.getElem_cons_succ, List.getElem_cons_zero, Act.put, List.setIfInBounds_toArray, List.set_cons_zero, List.set_cons_succ])
      refine wpAnyH_take (i := 6) (v := ?vt7_6) rfl (by kernel_rfl) (by kernel_rfl) (by kernel_rfl) (fun _ _ _ h => h) (Or.inl ⟨by rfl, ?hyt7_6⟩) (by assumption) ?restt7_6
      case hyt7_6 => (intro W hSw; (try dsimp only at hSw); obtain ⟨hS1, hS2, hS3, hS4, hS5⟩ := hSw; (go_simp <;> with_reducible rfl))
      (try simp only [List.getElem_toArray, List.getElem_cons_succ, List.getElem_cons_zero, Act.put, List.setIfInBounds_toArray, List.set_cons_zero, List.set_cons_succ])
      refine wpAnyH_take (i := 7) (v := ?vt8_7) rfl (by kernel_rfl) (by kernel_rfl) (by kernel_rfl) (fun _ _ _ h => h) (Or.inl ⟨by rfl, ?hyt8_7⟩) (by assumption) ?restt8_7
      case hyt8_7 => (intro W hSw; (try dsimp only at hSw); obtain ⟨hS1, hS2, hS3, hS4, hS5⟩ := hSw; (go_simp <;> with_reducible rfl))
      (try simp only [List.getElem_toArray, List.getElem_cons_succ, List.getElem_cons_zero, Act.put, List.setIfInBounds_toArray, List.set_cons_zero, List.set_cons_succ])
      refine wpAnyH_ready (rs := [8]) (by kernel_rfl) (by simp) ?_
      refine AllReadyH.cons rfl (fun K hK => ?_) AllReadyH.nil
      go_simp
      refine (l4Find_any true _ _ E m c y k _ ((Rep.Sl.kept (own_timers HOR.out) (Nat.le_refl _)).below V0.out).sl ((Rep.Sl.kept (own_timers HOR.out) (Nat.le_refl _)).below V0.out).le (by omega)).mono ?_
      rintro e u0 ⟨rfl, hb⟩
      have V1 := Lib.hid (below_step V0.out hb)
      clear hb
      refine hK.out _ _ ?_ (fun hHeld => ?_)
      · (try dsimp only); exact SB.out _ V1
      clear hK K
      (try simp only [List.getElem_toArray, List.getElem_cons_succ, List.getElem_cons_zero, Act.put, List.setIfInBounds_toArray, List.set_cons_zero, List.set_cons_succ])
      refine wpAnyH_take (i := 9) (v := ?vt9_9) rfl (by kernel_rfl) (by kernel_rfl) (by kernel_rfl) (fun _ _ _ h => h) (Or.inl ⟨by rfl, ?hyt9_9⟩) (by assumption) ?restt9_9
      case hyt9_9 => (intro W hSw; (try dsimp only at hSw); obtain ⟨hS1, hS2, hS3, hS4, hS5⟩ := hSw; (go_simp <;> with_reducible rfl))
      (try simp only [List.getElem_toArray, List.getElem_cons_succ, List.getElem_cons_zero, Act.put, List.setIfInBounds_toArray, List.set_cons_zero, List.set_cons_succ])
      refine wpAnyH_done (by kernel_rfl) ?_ _
      have HB1 := Lib.hid (HB.out.trans (V1.out.mono (Nat.le_trans hB HB.out.size)))
      have HZ1 : Hid (w.heap.size + 1 ≤ u0.heap.size) := Lib.hid (Nat.le_trans HZW.out V1.out.size)
      have HK1 := Lib.hid (HK.out.below V1.out)
      have HG1 := Lib.hid (HG.out.below V1.out)
      have HO1 := Lib.hid (HO.out.below V1.out)
      have HQ1 := Lib.hid (HQ.out.below V1.out)
      have HOR1 := Lib.hid (HOR.out.below V1.out)
      have HC1 := Lib.hid ((V1.out.cell (p := ⟨pg, i, none⟩) hpl).trans HC.out)
      clear SB V0 V1 HB HZW HK HG HO HQ HOR HC hHeld hpl
      rcases findV_cases y k with hf | ⟨j, hj, hf⟩
      · have HD : Hid (dropK k y = y) := Lib.hid (by unfold dropK; rw [hf, if_neg (by omega)])
        rw [hf]
        clear hf
        go_wp2
        go_roundw
        case rel => exact ⟨i + 1, vs, by omega, by go_num, HB1, HZ1, HK1, HG1, HO1, Lib.hid (by rw [← rows_same_i HY.out HD.out]; exact HQ1.out)⟩
        case measure => simp [intOf]; omega
      · have HD : Hid (dropK k y = y.take j ++ y.drop (j + 1)) := Lib.hid (by unfold dropK; rw [hf, if_pos (Int.natCast_nonneg j), Int.toNat_natCast])
        rw [hf]
        clear hf
        have hjm : j < m := by omega
        have hj0 : (0 : Int) ≤ j := by omega
        obtain ⟨pb, rfl, hpb1, hpb2⟩ := HOR1.out.form (show 0 < m by omega)
        have hmc : m ≤ c := by
          rcases HOR1.out.2.2 with ⟨h', _⟩ | ⟨g', cap', cur, h', _, _, hnc, _⟩
          · cases h'
          · simp only [Value.slice.injEq] at h'
            have h3 : c = cap' := h'.2.2
            have h4 : m ≤ cap' := hnc
            omega
        have hpl := World.block_lt_of_cell? _ _ HC1.out
        have hpc := HC1.out
        have HI : Hid (InF 4 tcell u0 (some ⟨pb, 0, none⟩) m y) := Lib.hid (OwnF.inF tcell_len HOR1.out)
        go_upto_region 6 with (fail)
        have SB : Hid (∀ W, Hid (Below u0.heap.size u0 W) → (fun W : World => W.cell? ⟨g, 1, none⟩ = some (.slice (some ⟨pg, 0, none⟩) 24 pc)) W) := fun W h => (HG1.out.below h.out).look 1
        have V0 : Hid (Below u0.heap.size u0 u0.drew) := (Below.refl _ _).drew
        have VA : Hid (Below u0.heap.size u0 (u0.drew.alloc (.cells #[] 36))) := V0.out.alloc (Nat.le_refl _) _
        have hE0 := emptyF 36 4 tcell u0.drew
        have hI0 := (HI.out.take j (by omega)).below VA.out
        have hw : IntKind.i64.wrap ((j : Int) + 1) = (j : Int) + 1 := IntWalk.i64_in _ (by omega)
        obtain ⟨AS, hAS⟩ : ∃ AS, (if c = j + 1 then some (⟨pb, 0, none⟩ : Addr) else some ⟨pb, (j + 1) * 4, none⟩) = AS := ⟨_, rfl⟩
        have HAS := Lib.hid hAS
        clear hAS
        have HI2 : Hid (InF 4 tcell u0 AS (m - (j + 1)) (y.drop (j + 1))) := Lib.hid (by
          rw [← HAS.out]
          by_cases hc : c = j + 1
          · rw [if_pos hc]
            exact ⟨by simp [hym], fun h => absurd h (by omega)⟩
          · rw [if_neg hc]
            have := HI.out.drop (j + 1) (by omega)
            rwa [Nat.zero_add] at this)
        refine wp_region_held_drew (S := (fun W : World => W.cell? ⟨g, 1, none⟩ = some (.slice (some ⟨pg, 0, none⟩) 24 pc))) (by kernel_rfl) ?_ (fun hHeld => ?_)
        · (try dsimp only); exact SB.out _ V0
        refine wpAnyH_take (i := 0) (v := ?vt101_0) rfl (by kernel_rfl) (by kernel_rfl) (by kernel_rfl) (fun _ _ _ h => h) (Or.inl ⟨by rfl, ?hyt101_0⟩) (by assumption) ?restt101_0
        case hyt101_0 => (intro W hSw; (try dsimp only at hSw); have hS1 := hSw; (go_simp <;> with_reducible rfl))
        (try simp only [List.getElem_toArray, List.getElem_cons_zero, Act.put, List.setIfInBounds_toArray, List.set_cons_zero, List.set_cons_succ])
        refine wpAnyH_take (i := 1) (v := ?vt102_1) rfl (by kernel_rfl) (by kernel_rfl) (by kernel_rfl) (fun _ _ _ h => h) (Or.inl ⟨by rfl, ?hyt102_1⟩) (by assumption) ?restt102_1
        case hyt102_1 => (intro W hSw; (try dsimp only at hSw); have hS1 := hSw; (go_simp <;> with_reducible rfl))
        (try simp only [List.getElem_toArray, List.getElem_cons_succ, List.getElem_cons_zero, Act.put, List.setIfInBounds_toArray, List.set_cons_zero, List.set_cons_succ])
        refine wpAnyH_take (i := 2) (v := ?vt103_2) rfl (by kernel_rfl) (by kernel_rfl) (by kernel_rfl) (fun _ _ _ h => h) (Or.inl ⟨by rfl, ?hyt103_2⟩) (by assumption) ?restt103_2
        case hyt103_2 => (intro W hSw; (try dsimp only at hSw); have hS1 := hSw; (go_simp <;> with_reducible rfl))
        (try simp only [List.getElem_toArray, List.getElem_cons_succ, List.getElem_cons_zero, Act.put, List.setIfInBounds_toArray, List.set_cons_zero, List.set_cons_succ])
        refine wpAnyH_take (i := 3) (v := ?vt104_3) rfl (by kernel_rfl) (by kernel_rfl) (by kernel_rfl) (fun _ _ _ h => h) (Or.inl ⟨by rfl, ?hyt104_3⟩) (by assumption) ?restt104_3
        case hyt104_3 => (intro W hSw; (try dsimp only at hSw); have hS1 := hSw; (go_simp <;> with_reducible rfl))
        (try simp only [List.getElem_toArray, List.getElem_cons_succ, List.getElem_cons_zero, Act.put, List.setIfInBounds_toArray, List.set_cons_zero, List.set_cons_succ])
        refine wpAnyH_take (i := 4) (v := ?vt105_4) rfl (by kernel_rfl) (by kernel_rfl) (by kernel_rfl) (fun _ _ _ h => h) (Or.inl ⟨by rfl, ?hyt105_4⟩) (by assumption) ?restt105_4
        case hyt105_4 => (intro W hSw; (try dsimp only at hSw); have hS1 := hSw; (go_simp <;> with_reducible rfl))
        (try simp only [List.getElem_toArray, List.getElem_cons_succ, List.getElem_cons_zero, Act.put, List.setIfInBounds_toArray, List.set_cons_zero, List.set_cons_succ])
        refine wpAnyH_take (i := 6) (v := ?vt106_6) rfl (by kernel_rfl) (by kernel_rfl) (by kernel_rfl) (fun _ _ _ h => h) (Or.inl ⟨by rfl, ?hyt106_6⟩) (by assumption) ?restt106_6
        case hyt106_6 => (intro W hSw; (try dsimp only at hSw); have hS1 := hSw; (go_simp <;> with_reducible rfl))
        (try simp only [List.getElem_toArray, List.getElem_cons_succ, List.getElem_cons_zero, Act.put, List.setIfInBounds_toArray, List.set_cons_zero, List.set_cons_succ])
        refine wpAnyH_take (i := 7) (v := ?vt107_7) rfl (by kernel_rfl) (by kernel_rfl) (by kernel_rfl) (fun _ _ _ h => h) (Or.inl ⟨by rfl, ?hyt107_7⟩) (by assumption) ?restt107_7
        case hyt107_7 => (intro W hSw; (try dsimp only at hSw); have hS1 := hSw; (go_simp <;> with_reducible rfl))
        (try simp only [List.getElem_toArray, List.getElem_cons_succ, List.getElem_cons_zero, Act.put, List.setIfInBounds_toArray, List.set_cons_zero, List.set_cons_succ])
        refine wpAnyH_take (i := 8) (v := ?vt108_8) rfl (by kernel_rfl) (by kernel_rfl) (by kernel_rfl) (fun _ _ _ h => h) (Or.inl ⟨by rfl, ?hyt108_8⟩) (by assumption) ?restt108_8
        case hyt108_8 => (intro W hSw; (try dsimp only at hSw); have hS1 := hSw; (go_simp <;> with_reducible rfl))
        (try simp only [List.getElem_toArray, List.getElem_cons_succ, List.getElem_cons_zero, Act.put, List.setIfInBounds_toArray, List.set_cons_zero, List.set_cons_succ])
        refine wpAnyH_take (i := 9) (v := ?vt109_9) rfl (by kernel_rfl) (by kernel_rfl) (by kernel_rfl) (fun _ _ _ h => h) (Or.inl ⟨by rfl, ?hyt109_9⟩) (by assumption) ?restt109_9
        case hyt109_9 => (intro W hSw; (try dsimp only at hSw); have hS1 := hSw; (go_simp <;> with_reducible rfl))
        (try simp only [List.getElem_toArray, List.getElem_cons_succ, List.getElem_cons_zero, Act.put, List.setIfInBounds_toArray, List.set_cons_zero, List.set_cons_succ])
        refine wpAnyH_take (i := 10) (v := ?vt110_10) rfl (by kernel_rfl) (by kernel_rfl) (by kernel_rfl) (fun _ _ _ h => h) (Or.inl ⟨by rfl, ?hyt110_10⟩) (by assumption) ?restt110_10
        case hyt110_10 => (intro W hSw; (try dsimp only at hSw); have hS1 := hSw; (go_simp <;> with_reducible rfl))
        (try simp only [List.getElem_toArray, List.getElem_cons_succ, List.getElem_cons_zero, Act.put, List.setIfInBounds_toArray, List.set_cons_zero, List.set_cons_succ])
        refine wpAnyH_take (i := 11) (v := ?vt111_11) rfl (by kernel_rfl) (by kernel_rfl) (by kernel_rfl) (fun _ _ _ h => h) (Or.inl ⟨by rfl, ?hyt111_11⟩) (by assumption) ?restt111_11
        case hyt111_11 => (intro W hSw; (try dsimp only at hSw); have hS1 := hSw; (go_simp <;> with_reducible rfl))
        (try simp only [List.getElem_toArray, List.getElem_cons_succ, List.getElem_cons_zero, Act.put, List.setIfInBounds_toArray, List.set_cons_zero, List.set_cons_succ])
        refine wpAnyH_take (i := 13) (v := ?vt112_13) rfl (by kernel_rfl) (by kernel_rfl) (by kernel_rfl) (fun _ _ _ h => h) (Or.inl ⟨by rfl, ?hyt112_13⟩) (by assumption) ?restt112_13
        case hyt112_13 => (intro W hSw; (try dsimp only at hSw); have hS1 := hSw; (go_simp <;> with_reducible rfl))
        (try simp only [List.getElem_toArray, List.getElem_cons_succ, List.getElem_cons_zero, Act.put, List.setIfInBounds_toArray, List.set_cons_zero, List.set_cons_succ])
        refine wpAnyH_take (i := 16) (v := ?vt113_16) rfl (by kernel_rfl) (by kernel_rfl) (by kernel_rfl) (fun _ _ _ h => h) (Or.inl ⟨by rfl, ?hyt113_16⟩) (by assumption) ?restt113_16
        case hyt113_16 => (intro W hSw; (try dsimp only at hSw); have hS1 := hSw; (go_simp <;> with_reducible rfl))
        (try simp only [List.getElem_toArray, List.getElem_cons_succ, List.getElem_cons_zero, Act.put, List.setIfInBounds_toArray, List.set_cons_zero, List.set_cons_succ])
        refine wpAnyH_take (i := 17) (v := ?vt114_17) rfl (by kernel_rfl) (by kernel_rfl) (by kernel_rfl) (fun _ _ _ h => h) (Or.inl ⟨by rfl, ?hyt114_17⟩) (by assumption) ?restt114_17
        case hyt114_17 => (intro W hSw; (try dsimp only at hSw); have hS1 := hSw; (go_simp <;> with_reducible rfl))
        (try simp only [List.getElem_toArray, List.getElem_cons_succ, List.getElem_cons_zero, Act.put, List.setIfInBounds_toArray, List.set_cons_zero, List.set_cons_succ])
        refine wpAnyH_take (i := 18) (v := ?vt115_18) rfl (by kernel_rfl) (by kernel_rfl) (by kernel_rfl) (fun _ _ _ h => h) (Or.inl ⟨by rfl, ?hyt115_18⟩) (by assumption) ?restt115_18
        case hyt115_18 => (intro W hSw; (try dsimp only at hSw); have hS1 := hSw; (go_simp <;> with_reducible rfl))
        (try simp only [List.getElem_toArray, List.getElem_cons_succ, List.getElem_cons_zero, Act.put, List.setIfInBounds_toArray, List.set_cons_zero, List.set_cons_succ])
        refine wpAnyH_take (i := 19) (v := ?vt116_19) rfl (by kernel_rfl) (by kernel_rfl) (by kernel_rfl) (fun _ _ _ h => h) (Or.inl ⟨by rfl, ?hyt116_19⟩) (by assumption) ?restt116_19
        case hyt116_19 => (intro W hSw; (try dsimp only at hSw); have hS1 := hSw; (go_simp <;> with_reducible rfl))
        (try simp only [List.getElem_toArray, List.getElem_cons_succ, List.getElem_cons_zero, Act.put, List.setIfInBounds_toArray, List.set_cons_zero, List.set_cons_succ])
        refine wpAnyH_take (i := 20) (v := ?vt117_20) rfl (by kernel_rfl) (by kernel_rfl) (by kernel_rfl) (fun _ _ _ h => h) (Or.inl ⟨by rfl, ?hyt117_20⟩) (by assumption) ?restt117_20
        case hyt117_20 => (intro W hSw; (try dsimp only at hSw); have hS1 := hSw; (go_simp <;> with_reducible rfl))
        (try simp only [List.getElem_toArray, List.getElem_cons_succ, List.getElem_cons_zero, Act.put, List.setIfInBounds_toArray, List.set_cons_zero, List.set_cons_succ])
        refine wpAnyH_take (i := 21) (v := ?vt118_21) rfl (by kernel_rfl) (by kernel_rfl) (by kernel_rfl) (fun _ _ _ h => h) (Or.inl ⟨by rfl, ?hyt118_21⟩) (by assumption) ?restt118_21
        case hyt118_21 => (intro W hSw; (try dsimp only at hSw); have hS1 := hSw; (go_simp <;> with_reducible rfl))
        (try simp only [List.getElem_toArray, List.getElem_cons_succ, List.getElem_cons_zero, Act.put, List.setIfInBounds_toArray, List.set_cons_zero, List.set_cons_succ])
        refine wpAnyH_take (i := 23) (v := ?vt119_23) rfl (by kernel_rfl) (by kernel_rfl) (by kernel_rfl) (fun _ _ _ h => h) (Or.inl ⟨by rfl, ?hyt119_23⟩) (by assumption) ?restt119_23
        case hyt119_23 => (intro W hSw; (try dsimp only at hSw); have hS1 := hSw; (go_simp <;> with_reducible rfl))
        (try simp only [List.getElem_toArray, List.getElem_cons_succ, List.getElem_cons_zero, Act.put, List.setIfInBounds_toArray, List.set_cons_zero, List.set_cons_succ])
        refine wpAnyH_take (i := 24) (v := .int .i64 ((j : Int) + 1)) rfl (by kernel_rfl) (by kernel_rfl) (by kernel_rfl) (fun _ _ _ h => h) (Or.inl ⟨by rfl, ?hyt120_24⟩) (by assumption) ?restt120_24
        case hyt120_24 => (intro W hSw; go_simp <;> exact hw)
        (try simp only [List.getElem_toArray, List.getElem_cons_succ, List.getElem_cons_zero, Act.put, List.setIfInBounds_toArray, List.set_cons_zero, List.set_cons_succ])
        refine wpAnyH_ready (rs := [5, 12, 22]) (by kernel_rfl) (by simp) ?_
        refine AllReadyH.cons rfl (fun K hK => ?_) (AllReadyH.cons rfl (fun K hK => ?_) (AllReadyH.cons rfl (fun K hK => ?_) AllReadyH.nil))
        · go_simp
          refine hK.out _ _ ?_ (fun hHeld => ?_)
          · (try dsimp only); exact SB.out _ VA
          clear hK K
          (try simp only [List.getElem_toArray, List.getElem_cons_succ, List.getElem_cons_zero, Act.put, List.setIfInBounds_toArray, List.set_cons_zero, List.set_cons_succ])
          refine wpAnyH_ready (rs := [12, 22]) (by kernel_rfl) (by simp) ?_
          refine AllReadyH.cons rfl (fun K hK => ?_) (AllReadyH.cons rfl (fun K hK => ?_) AllReadyH.nil)
          · go_simp
            refine hK.out _ _ ?_ (fun hHeld => ?_)
            · (try dsimp only); exact SB.out _ VA
            clear hK K
            (try simp only [List.getElem_toArray, List.getElem_cons_succ, List.getElem_cons_zero, Act.put, List.setIfInBounds_toArray, List.set_cons_zero, List.set_cons_succ])
            refine wpAnyH_take (i := 14) (v := .slice (some ⟨pb, 0, none⟩) j c) rfl (by kernel_rfl) (by kernel_rfl) (by kernel_rfl) (fun _ _ _ h => h) (Or.inl ⟨by rfl, ?hyt121_14⟩) (by assumption) ?restt121_14
            case hyt121_14 => (intro W hSw; go_simp; intro h; omega)
            (try simp only [List.getElem_toArray, List.getElem_cons_succ, List.getElem_cons_zero, Act.put, List.setIfInBounds_toArray, List.set_cons_zero, List.set_cons_succ])
            refine wpAnyH_ready (rs := [15, 22]) (by kernel_rfl) (by simp) ?_
            refine AllReadyH.cons rfl (fun K hK => ?_) (AllReadyH.cons rfl (fun K hK => ?_) AllReadyH.nil)
            · refine step_appF0 tcell_len tcell_one Try.underlying29 timerInfo rfl (by decide) (by decide) rfl (.tmp 31) (.tmp 40) rfl (B := u0.heap.size) rfl hE0 rfl hI0 (by omega) (by simp) ?_
              intro A2 c2 u1 ho2 hg2
              rw [Nat.zero_add, List.nil_append] at ho2
              (try simp only [Nat.zero_add])
              have V1 : Hid (Below u0.heap.size u0 u1) := Lib.hid (VA.out.grown hg2 (by simp) (fun r e => by simp at e; omega))
              have hpc1 : u1.cell? ⟨pg, i, none⟩ = some (.slice (some ⟨pb, 0, none⟩) m c) := (V1.out.cell (p := ⟨pg, i, none⟩) hpl).trans HC1.out
              have hI1 := HI2.out.below V1.out
              refine hK.out _ _ ?_ (fun hHeld => ?_)
              · (try dsimp only); exact SB.out _ V1
              clear hK K
              (try simp only [List.getElem_toArray, List.getElem_cons_succ, List.getElem_cons_zero, Act.put, List.setIfInBounds_toArray, List.set_cons_zero, List.set_cons_succ])
              refine wpAnyH_ready (rs := [22]) (by kernel_rfl) (by simp) ?_
              refine AllReadyH.cons rfl (fun K hK => ?_) AllReadyH.nil
              go_simp
              refine hK.out _ _ ?_ (fun hHeld => ?_)
              · (try dsimp only); exact SB.out _ V1
              clear hK K
              (try simp only [List.getElem_toArray, List.getElem_cons_succ, List.getElem_cons_zero, Act.put, List.setIfInBounds_toArray, List.set_cons_zero, List.set_cons_succ])
              refine wpAnyH_take (i := 25) (v := .slice AS (m - (j + 1)) (c - (j + 1))) rfl (by kernel_rfl) (by kernel_rfl) (by kernel_rfl) (fun _ _ _ h => h) (Or.inl ⟨by rfl, ?hyt122_25⟩) (by assumption) ?restt122_25
              case hyt122_25 => (intro W hSw; go_simp; rw [if_pos (show (0 : Int) ≤ (j : Int) + 1 ∧ (j : Int) + 1 ≤ m by omega), HAS.out])
              (try simp only [List.getElem_toArray, List.getElem_cons_succ, List.getElem_cons_zero, Act.put, List.setIfInBounds_toArray, List.set_cons_zero, List.set_cons_succ])
              refine wpAnyH_ready (rs := [26]) (by kernel_rfl) (by simp) ?_
              refine AllReadyH.cons rfl (fun K hK => ?_) AllReadyH.nil
              refine step_appF0 tcell_len tcell_one Try.underlying29 timerInfo rfl (by decide) (by decide) rfl (.tmp 41) (.tmp 51) rfl (B := u0.heap.size) rfl ho2 rfl hI1 (by omega) V1.out.size ?_
              intro A3 c3 u2 ho3 hg3
              have V2 : Hid (Below u0.heap.size u0 u2) := Lib.hid (V1.out.grown hg3 V1.out.size (fun r e => (ho2.block r e).1))
              refine hK.out _ _ ?_ (fun hHeld => ?_)
              · (try dsimp only); exact SB.out _ V2
              clear hK K
              (try simp only [List.getElem_toArray, List.getElem_cons_succ, List.getElem_cons_zero, Act.put, List.setIfInBounds_toArray, List.set_cons_zero, List.set_cons_succ])
              refine wpAnyH_take (i := 27) (v := ?vt123_27) rfl (by kernel_rfl) (by kernel_rfl) (by kernel_rfl) (fun _ _ _ h => h) (Or.inl ⟨by rfl, ?hyt123_27⟩) (by assumption) ?restt123_27
              case hyt123_27 => (intro W hSw; (try dsimp only at hSw); have hS1 := hSw; (go_simp <;> with_reducible rfl))
              (try simp only [List.getElem_toArray, List.getElem_cons_succ, List.getElem_cons_zero, Act.put, List.setIfInBounds_toArray, List.set_cons_zero, List.set_cons_succ])
              refine wpAnyH_ready (rs := [28]) (by kernel_rfl) (by simp) ?_
              refine AllReadyH.cons rfl (fun K hK => ?_) AllReadyH.nil
              have hO2 := HO1.out.below V2.out
              have hpc2 := (V2.out.cell (p := ⟨pg, i, none⟩) hpl).trans HC1.out
              have hpf2 := World.ownsRow.frozenAt hO2.2 i
              have hul2 := World.block_lt_of_cell? _ _ hpc2
              clear hHeld
              go_simp
              refine hK.out _ _ ?_ (fun hHeld => ?_)
              · (try dsimp only); exact ((HG1.out.below V2.out).aside (p := ⟨pg, i, none⟩) (by have := HP.out.2.2; simp; omega) _).look 1
              clear hK K
              (try simp only [List.getElem_toArray, List.getElem_cons_succ, List.getElem_cons_zero, Act.put, List.setIfInBounds_toArray, List.set_cons_zero, List.set_cons_succ])
              refine wpAnyH_done (by kernel_rfl) ?_ _
              rw [← HD.out] at ho3
              obtain ⟨hRO, hOU, hGU, hKU, hBU, hsz⟩ := drop_put (i := i) HP.out.1 HP.out.2.2 HZ1.out hB HQ1.out HO1.out HG1.out HK1.out HB1.out V2.out HV.out (rows_at_i HY.out) ho3
              rw [rows_set_i HY.out] at hRO
              go_wp2
              go_roundw
              case rel => exact ⟨i + 1, _, by omega, by go_num, Lib.hid hBU, Lib.hid hsz, Lib.hid hKU, Lib.hid hGU, Lib.hid hOU, Lib.hid hRO⟩
              case measure => simp [intOf]; omega
            · go_simp
              refine hK.out _ _ ?_ (fun hHeld => ?_)
              · (try dsimp only); exact SB.out _ VA
              clear hK K
              (try simp only [List.getElem_toArray, List.getElem_cons_succ, List.getElem_cons_zero, Act.put, List.setIfInBounds_toArray, List.set_cons_zero, List.set_cons_succ])
              refine wpAnyH_take (i := 25) (v := .slice AS (m - (j + 1)) (c - (j + 1))) rfl (by kernel_rfl) (by kernel_rfl) (by kernel_rfl) (fun _ _ _ h => h) (Or.inl ⟨by rfl, ?hyt124_25⟩) (by assumption) ?restt124_25
              case hyt124_25 => (intro W hSw; go_simp; rw [if_pos (show (0 : Int) ≤ (j : Int) + 1 ∧ (j : Int) + 1 ≤ m by omega), HAS.out])
              (try simp only [List.getElem_toArray, List.getElem_cons_succ, List.getElem_cons_zero, Act.put, List.setIfInBounds_toArray, List.set_cons_zero, List.set_cons_succ])
              refine wpAnyH_ready (rs := [15]) (by kernel_rfl) (by simp) ?_
              refine AllReadyH.cons rfl (fun K hK => ?_) AllReadyH.nil
              refine step_appF0 tcell_len tcell_one Try.underlying29 timerInfo rfl (by decide) (by decide) rfl (.tmp 31) (.tmp 40) rfl (B := u0.heap.size) rfl hE0 rfl hI0 (by omega) (by simp) ?_
              intro A2 c2 u1 ho2 hg2
              rw [Nat.zero_add, List.nil_append] at ho2
              (try simp only [Nat.zero_add])
              have V1 : Hid (Below u0.heap.size u0 u1) := Lib.hid (VA.out.grown hg2 (by simp) (fun r e => by simp at e; omega))
              have hpc1 : u1.cell? ⟨pg, i, none⟩ = some (.slice (some ⟨pb, 0, none⟩) m c) := (V1.out.cell (p := ⟨pg, i, none⟩) hpl).trans HC1.out
              have hI1 := HI2.out.below V1.out
              refine hK.out _ _ ?_ (fun hHeld => ?_)
              · (try dsimp only); exact SB.out _ V1
              clear hK K
              (try simp only [List.getElem_toArray, List.getElem_cons_succ, List.getElem_cons_zero, Act.put, List.setIfInBounds_toArray, List.set_cons_zero, List.set_cons_succ])
              refine wpAnyH_ready (rs := [26]) (by kernel_rfl) (by simp) ?_
              refine AllReadyH.cons rfl (fun K hK => ?_) AllReadyH.nil
              refine step_appF0 tcell_len tcell_one Try.underlying29 timerInfo rfl (by decide) (by decide) rfl (.tmp 41) (.tmp 51) rfl (B := u0.heap.size) rfl ho2 rfl hI1 (by omega) V1.out.size ?_
              intro A3 c3 u2 ho3 hg3
              have V2 : Hid (Below u0.heap.size u0 u2) := Lib.hid (V1.out.grown hg3 V1.out.size (fun r e => (ho2.block r e).1))
              refine hK.out _ _ ?_ (fun hHeld => ?_)
              · (try dsimp only); exact SB.out _ V2
              clear hK K
              (try simp only [List.getElem_toArray, List.getElem_cons_succ, List.getElem_cons_zero, Act.put, List.setIfInBounds_toArray, List.set_cons_zero, List.set_cons_succ])
              refine wpAnyH_take (i := 27) (v := ?vt125_27) rfl (by kernel_rfl) (by kernel_rfl) (by kernel_rfl) (fun _ _ _ h => h) (Or.inl ⟨by rfl, ?hyt125_27⟩) (by assumption) ?restt125_27
              case hyt125_27 => (intro W hSw; (try dsimp only at hSw); have hS1 := hSw; (go_simp <;> with_reducible rfl))
              (try simp only [List.getElem_toArray, List.getElem_cons_succ, List.getElem_cons_zero, Act.put, List.setIfInBounds_toArray, List.set_cons_zero, List.set_cons_succ])
              refine wpAnyH_ready (rs := [28]) (by kernel_rfl) (by simp) ?_
              refine AllReadyH.cons rfl (fun K hK => ?_) AllReadyH.nil
              have hO2 := HO1.out.below V2.out
              have hpc2 := (V2.out.cell (p := ⟨pg, i, none⟩) hpl).trans HC1.out
              have hpf2 := World.ownsRow.frozenAt hO2.2 i
              have hul2 := World.block_lt_of_cell? _ _ hpc2
              clear hHeld
              go_simp
              refine hK.out _ _ ?_ (fun hHeld => ?_)
              · (try dsimp only); exact ((HG1.out.below V2.out).aside (p := ⟨pg, i, none⟩) (by have := HP.out.2.2; simp; omega) _).look 1
              clear hK K
              (try simp only [List.getElem_toArray, List.getElem_cons_succ, List.getElem_cons_zero, Act.put, List.setIfInBounds_toArray, List.set_cons_zero, List.set_cons_succ])
              refine wpAnyH_done (by kernel_rfl) ?_ _
              rw [← HD.out] at ho3
              obtain ⟨hRO, hOU, hGU, hKU, hBU, hsz⟩ := drop_put (i := i) HP.out.1 HP.out.2.2 HZ1.out hB HQ1.out HO1.out HG1.out HK1.out HB1.out V2.out HV.out (rows_at_i HY.out) ho3
              rw [rows_set_i HY.out] at hRO
              go_wp2
              go_roundw
              case rel => exact ⟨i + 1, _, by omega, by go_num, Lib.hid hBU, Lib.hid hsz, Lib.hid hKU, Lib.hid hGU, Lib.hid hOU, Lib.hid hRO⟩
              case measure => simp [intOf]; omega
          · go_simp
            refine hK.out _ _ ?_ (fun hHeld => ?_)
            · (try dsimp only); exact SB.out _ VA
            clear hK K
            (try simp only [List.getElem_toArray, List.getElem_cons_succ, List.getElem_cons_zero, Act.put, List.setIfInBounds_toArray, List.set_cons_zero, List.set_cons_succ])
            refine wpAnyH_take (i := 25) (v := .slice AS (m - (j + 1)) (c - (j + 1))) rfl (by kernel_rfl) (by kernel_rfl) (by kernel_rfl) (fun _ _ _ h => h) (Or.inl ⟨by rfl, ?hyt126_25⟩) (by assumption) ?restt126_25
            case hyt126_25 => (intro W hSw; go_simp; rw [if_pos (show (0 : Int) ≤ (j : Int) + 1 ∧ (j : Int) + 1 ≤ m by omega), HAS.out])
            (try simp only [List.getElem_toArray, List.getElem_cons_succ, List.getElem_cons_zero, Act.put, List.setIfInBounds_toArray, List.set_cons_zero, List.set_cons_succ])
            refine wpAnyH_ready (rs := [12]) (by kernel_rfl) (by simp) ?_
            refine AllReadyH.cons rfl (fun K hK => ?_) AllReadyH.nil
            go_simp
            refine hK.out _ _ ?_ (fun hHeld => ?_)
            · (try dsimp only); exact SB.out _ VA
            clear hK K
            (try simp only [List.getElem_toArray, List.getElem_cons_succ, List.getElem_cons_zero, Act.put, List.setIfInBounds_toArray, List.set_cons_zero, List.set_cons_succ])
            refine wpAnyH_take (i := 14) (v := .slice (some ⟨pb, 0, none⟩) j c) rfl (by kernel_rfl) (by kernel_rfl) (by kernel_rfl) (fun _ _ _ h => h) (Or.inl ⟨by rfl, ?hyt127_14⟩) (by assumption) ?restt127_14
            case hyt127_14 => (intro W hSw; go_simp; intro h; omega)
            (try simp only [List.getElem_toArray, List.getElem_cons_succ, List.getElem_cons_zero, Act.put, List.setIfInBounds_toArray, List.set_cons_zero, List.set_cons_succ])
            refine wpAnyH_ready (rs := [15]) (by kernel_rfl) (by simp) ?_
            refine AllReadyH.cons rfl (fun K hK => ?_) AllReadyH.nil
            refine step_appF0 tcell_len tcell_one Try.underlying29 timerInfo rfl (by decide) (by decide) rfl (.tmp 31) (.tmp 40) rfl (B := u0.heap.size) rfl hE0 rfl hI0 (by omega) (by simp) ?_
            intro A2 c2 u1 ho2 hg2
            rw [Nat.zero_add, List.nil_append] at ho2
            (try simp only [Nat.zero_add])
            have V1 : Hid (Below u0.heap.size u0 u1) := Lib.hid (VA.out.grown hg2 (by simp) (fun r e => by simp at e; omega))
            have hpc1 : u1.cell? ⟨pg, i, none⟩ = some (.slice (some ⟨pb, 0, none⟩) m c) := (V1.out.cell (p := ⟨pg, i, none⟩) hpl).trans HC1.out
            have hI1 := HI2.out.below V1.out
            refine hK.out _ _ ?_ (fun hHeld => ?_)
            · (try dsimp only); exact SB.out _ V1
            clear hK K
            (try simp only [List.getElem_toArray, List.getElem_cons_succ, List.getElem_cons_zero, Act.put, List.setIfInBounds_toArray, List.set_cons_zero, List.set_cons_succ])
            refine wpAnyH_ready (rs := [26]) (by kernel_rfl) (by simp) ?_
            refine AllReadyH.cons rfl (fun K hK => ?_) AllReadyH.nil
            refine step_appF0 tcell_len tcell_one Try.underlying29 timerInfo rfl (by decide) (by decide) rfl (.tmp 41) (.tmp 51) rfl (B := u0.heap.size) rfl ho2 rfl hI1 (by omega) V1.out.size ?_
            intro A3 c3 u2 ho3 hg3
            have V2 : Hid (Below u0.heap.size u0 u2) := Lib.hid (V1.out.grown hg3 V1.out.size (fun r e => (ho2.block r e).1))
            refine hK.out _ _ ?_ (fun hHeld => ?_)
            · (try dsimp only); exact SB.out _ V2
            clear hK K
            (try simp only [List.getElem_toArray, List.getElem_cons_succ, List.getElem_cons_zero, Act.put, List.setIfInBounds_toArray, List.set_cons_zero, List.set_cons_succ])
            refine wpAnyH_take (i := 27) (v := ?vt128_27) rfl (by kernel_rfl) (by kernel_rfl) (by kernel_rfl) (fun _ _ _ h => h) (Or.inl ⟨by rfl, ?hyt128_27⟩) (by assumption) ?restt128_27
            case hyt128_27 => (intro W hSw; (try dsimp only at hSw); have hS1 := hSw; (go_simp <;> with_reducible rfl))
            (try simp only [List.getElem_toArray, List.getElem_cons_succ, List.getElem_cons_zero, Act.put, List.setIfInBounds_toArray, List.set_cons_zero, List.set_cons_succ])
            refine wpAnyH_ready (rs := [28]) (by kernel_rfl) (by simp) ?_
            refine AllReadyH.cons rfl (fun K hK => ?_) AllReadyH.nil
            have hO2 := HO1.out.below V2.out
            have hpc2 := (V2.out.cell (p := ⟨pg, i, none⟩) hpl).trans HC1.out
            have hpf2 := World.ownsRow.frozenAt hO2.2 i
            have hul2 := World.block_lt_of_cell? _ _ hpc2
            clear hHeld
            go_simp
            refine hK.out _ _ ?_ (fun hHeld => ?_)
            · (try dsimp only); exact ((HG1.out.below V2.out).aside (p := ⟨pg, i, none⟩) (by have := HP.out.2.2; simp; omega) _).look 1
            clear hK K
            (try simp only [List.getElem_toArray, List.getElem_cons_succ, List.getElem_cons_zero, Act.put, List.setIfInBounds_toArray, List.set_cons_zero, List.set_cons_succ])
            refine wpAnyH_done (by kernel_rfl) ?_ _
            rw [← HD.out] at ho3
            obtain ⟨hRO, hOU, hGU, hKU, hBU, hsz⟩ := drop_put (i := i) HP.out.1 HP.out.2.2 HZ1.out hB HQ1.out HO1.out HG1.out HK1.out HB1.out V2.out HV.out (rows_at_i HY.out) ho3
            rw [rows_set_i HY.out] at hRO
            go_wp2
            go_roundw
            case rel => exact ⟨i + 1, _, by omega, by go_num, Lib.hid hBU, Lib.hid hsz, Lib.hid hKU, Lib.hid hGU, Lib.hid hOU, Lib.hid hRO⟩
            case measure => simp [intOf]; omega
        · go_simp
          refine hK.out _ _ ?_ (fun hHeld => ?_)
          · (try dsimp only); exact SB.out _ V0
          clear hK K
          (try simp only [List.getElem_toArray, List.getElem_cons_succ, List.getElem_cons_zero, Act.put, List.setIfInBounds_toArray, List.set_cons_zero, List.set_cons_succ])
          refine wpAnyH_take (i := 14) (v := .slice (some ⟨pb, 0, none⟩) j c) rfl (by kernel_rfl) (by kernel_rfl) (by kernel_rfl) (fun _ _ _ h => h) (Or.inl ⟨by rfl, ?hyt129_14⟩) (by assumption) ?restt129_14
          case hyt129_14 => (intro W hSw; go_simp; intro h; omega)
          (try simp only [List.getElem_toArray, List.getElem_cons_succ, List.getElem_cons_zero, Act.put, List.setIfInBounds_toArray, List.set_cons_zero, List.set_cons_succ])
          refine wpAnyH_ready (rs := [5, 22]) (by kernel_rfl) (by simp) ?_
          refine AllReadyH.cons rfl (fun K hK => ?_) (AllReadyH.cons rfl (fun K hK => ?_) AllReadyH.nil)
          · go_simp
            refine hK.out _ _ ?_ (fun hHeld => ?_)
            · (try dsimp only); exact SB.out _ VA
            clear hK K
            (try simp only [List.getElem_toArray, List.getElem_cons_succ, List.getElem_cons_zero, Act.put, List.setIfInBounds_toArray, List.set_cons_zero, List.set_cons_succ])
            refine wpAnyH_ready (rs := [15, 22]) (by kernel_rfl) (by simp) ?_
            refine AllReadyH.cons rfl (fun K hK => ?_) (AllReadyH.cons rfl (fun K hK => ?_) AllReadyH.nil)
            · refine step_appF0 tcell_len tcell_one Try.underlying29 timerInfo rfl (by decide) (by decide) rfl (.tmp 31) (.tmp 40) rfl (B := u0.heap.size) rfl hE0 rfl hI0 (by omega) (by simp) ?_
              intro A2 c2 u1 ho2 hg2
              rw [Nat.zero_add, List.nil_append] at ho2
              (try simp only [Nat.zero_add])
              have V1 : Hid (Below u0.heap.size u0 u1) := Lib.hid (VA.out.grown hg2 (by simp) (fun r e => by simp at e; omega))
              have hpc1 : u1.cell? ⟨pg, i, none⟩ = some (.slice (some ⟨pb, 0, none⟩) m c) := (V1.out.cell (p := ⟨pg, i, none⟩) hpl).trans HC1.out
              have hI1 := HI2.out.below V1.out
              refine hK.out _ _ ?_ (fun hHeld => ?_)
              · (try dsimp only); exact SB.out _ V1
              clear hK K
              (try simp only [List.getElem_toArray, List.getElem_cons_succ, List.getElem_cons_zero, Act.put, List.setIfInBounds_toArray, List.set_cons_zero, List.set_cons_succ])
              refine wpAnyH_ready (rs := [22]) (by kernel_rfl) (by simp) ?_
              refine AllReadyH.cons rfl (fun K hK => ?_) AllReadyH.nil
              go_simp
              refine hK.out _ _ ?_ (fun hHeld => ?_)
              · (try dsimp only); exact SB.out _ V1
              clear hK K
              (try simp only [List.getElem_toArray, List.getElem_cons_succ, List.getElem_cons_zero, Act.put, List.setIfInBounds_toArray, List.set_cons_zero, List.set_cons_succ])
              refine wpAnyH_take (i := 25) (v := .slice AS (m - (j + 1)) (c - (j + 1))) rfl (by kernel_rfl) (by kernel_rfl) (by kernel_rfl) (fun _ _ _ h => h) (Or.inl ⟨by rfl, ?hyt130_25⟩) (by assumption) ?restt130_25
              case hyt130_25 => (intro W hSw; go_simp; rw [if_pos (show (0 : Int) ≤ (j : Int) + 1 ∧ (j : Int) + 1 ≤ m by omega), HAS.out])
              (try simp only [List.getElem_toArray, List.getElem_cons_succ, List.getElem_cons_zero, Act.put, List.setIfInBounds_toArray, List.set_cons_zero, List.set_cons_succ])
              refine wpAnyH_ready (rs := [26]) (by kernel_rfl) (by simp) ?_
              refine AllReadyH.cons rfl (fun K hK => ?_) AllReadyH.nil
              refine step_appF0 tcell_len tcell_one Try.underlying29 timerInfo rfl (by decide) (by decide) rfl (.tmp 41) (.tmp 51) rfl (B := u0.heap.size) rfl ho2 rfl hI1 (by omega) V1.out.size ?_
              intro A3 c3 u2 ho3 hg3
              have V2 : Hid (Below u0.heap.size u0 u2) := Lib.hid (V1.out.grown hg3 V1.out.size (fun r e => (ho2.block r e).1))
              refine hK.out _ _ ?_ (fun hHeld => ?_)
              · (try dsimp only); exact SB.out _ V2
              clear hK K
              (try simp only [List.getElem_toArray, List.getElem_cons_succ, List.getElem_cons_zero, Act.put, List.setIfInBounds_toArray, List.set_cons_zero, List.set_cons_succ])
              refine wpAnyH_take (i := 27) (v := ?vt131_27) rfl (by kernel_rfl) (by kernel_rfl) (by kernel_rfl) (fun _ _ _ h => h) (Or.inl ⟨by rfl, ?hyt131_27⟩) (by assumption) ?restt131_27
              case hyt131_27 => (intro W hSw; (try dsimp only at hSw); have hS1 := hSw; (go_simp <;> with_reducible rfl))
              (try simp only [List.getElem_toArray, List.getElem_cons_succ, List.getElem_cons_zero, Act.put, List.setIfInBounds_toArray, List.set_cons_zero, List.set_cons_succ])
              refine wpAnyH_ready (rs := [28]) (by kernel_rfl) (by simp) ?_
              refine AllReadyH.cons rfl (fun K hK => ?_) AllReadyH.nil
              have hO2 := HO1.out.below V2.out
              have hpc2 := (V2.out.cell (p := ⟨pg, i, none⟩) hpl).trans HC1.out
              have hpf2 := World.ownsRow.frozenAt hO2.2 i
              have hul2 := World.block_lt_of_cell? _ _ hpc2
              clear hHeld
              go_simp
              refine hK.out _ _ ?_ (fun hHeld => ?_)
              · (try dsimp only); exact ((HG1.out.below V2.out).aside (p := ⟨pg, i, none⟩) (by have := HP.out.2.2; simp; omega) _).look 1
              clear hK K
              (try simp only [List.getElem_toArray, List.getElem_cons_succ, List.getElem_cons_zero, Act.put, List.setIfInBounds_toArray, List.set_cons_zero, List.set_cons_succ])
              refine wpAnyH_done (by kernel_rfl) ?_ _
              rw [← HD.out] at ho3
              obtain ⟨hRO, hOU, hGU, hKU, hBU, hsz⟩ := drop_put (i := i) HP.out.1 HP.out.2.2 HZ1.out hB HQ1.out HO1.out HG1.out HK1.out HB1.out V2.out HV.out (rows_at_i HY.out) ho3
              rw [rows_set_i HY.out] at hRO
              go_wp2
              go_roundw
              case rel => exact ⟨i + 1, _, by omega, by go_num, Lib.hid hBU, Lib.hid hsz, Lib.hid hKU, Lib.hid hGU, Lib.hid hOU, Lib.hid hRO⟩
              case measure => simp [intOf]; omega
            · go_simp
              refine hK.out _ _ ?_ (fun hHeld => ?_)
              · (try dsimp only); exact SB.out _ VA
              clear hK K
              (try simp only [List.getElem_toArray, List.getElem_cons_succ, List.getElem_cons_zero, Act.put, List.setIfInBounds_toArray, List.set_cons_zero, List.set_cons_succ])
              refine wpAnyH_take (i := 25) (v := .slice AS (m - (j + 1)) (c - (j + 1))) rfl (by kernel_rfl) (by kernel_rfl) (by kernel_rfl) (fun _ _ _ h => h) (Or.inl ⟨by rfl, ?hyt132_25⟩) (by assumption) ?restt132_25
              case hyt132_25 => (intro W hSw; go_simp; rw [if_pos (show (0 : Int) ≤ (j : Int) + 1 ∧ (j : Int) + 1 ≤ m by omega), HAS.out])
              (try simp only [List.getElem_toArray, List.getElem_cons_succ, List.getElem_cons_zero, Act.put, List.setIfInBounds_toArray, List.set_cons_zero, List.set_cons_succ])
              refine wpAnyH_ready (rs := [15]) (by kernel_rfl) (by simp) ?_
              refine AllReadyH.cons rfl (fun K hK => ?_) AllReadyH.nil
              refine step_appF0 tcell_len tcell_one Try.underlying29 timerInfo rfl (by decide) (by decide) rfl (.tmp 31) (.tmp 40) rfl (B := u0.heap.size) rfl hE0 rfl hI0 (by omega) (by simp) ?_
              intro A2 c2 u1 ho2 hg2
              rw [Nat.zero_add, List.nil_append] at ho2
              (try simp only [Nat.zero_add])
              have V1 : Hid (Below u0.heap.size u0 u1) := Lib.hid (VA.out.grown hg2 (by simp) (fun r e => by simp at e; omega))
              have hpc1 : u1.cell? ⟨pg, i, none⟩ = some (.slice (some ⟨pb, 0, none⟩) m c) := (V1.out.cell (p := ⟨pg, i, none⟩) hpl).trans HC1.out
              have hI1 := HI2.out.below V1.out
              refine hK.out _ _ ?_ (fun hHeld => ?_)
              · (try dsimp only); exact SB.out _ V1
              clear hK K
              (try simp only [List.getElem_toArray, List.getElem_cons_succ, List.getElem_cons_zero, Act.put, List.setIfInBounds_toArray, List.set_cons_zero, List.set_cons_succ])
              refine wpAnyH_ready (rs := [26]) (by kernel_rfl) (by simp) ?_
              refine AllReadyH.cons rfl (fun K hK => ?_) AllReadyH.nil
              refine step_appF0 tcell_len tcell_one Try.underlying29 timerInfo rfl (by decide) (by decide) rfl (.tmp 41) (.tmp 51) rfl (B := u0.heap.size) rfl ho2 rfl hI1 (by omega) V1.out.size ?_
              intro A3 c3 u2 ho3 hg3
              have V2 : Hid (Below u0.heap.size u0 u2) := Lib.hid (V1.out.grown hg3 V1.out.size (fun r e => (ho2.block r e).1))
              refine hK.out _ _ ?_ (fun hHeld => ?_)
              · (try dsimp only); exact SB.out _ V2
              clear hK K
              (try simp only [List.getElem_toArray, List.getElem_cons_succ, List.getElem_cons_zero, Act.put, List.setIfInBounds_toArray, List.set_cons_zero, List.set_cons_succ])
              refine wpAnyH_take (i := 27) (v := ?vt133_27) rfl (by kernel_rfl) (by kernel_rfl) (by kernel_rfl) (fun _ _ _ h => h) (Or.inl ⟨by rfl, ?hyt133_27⟩) (by assumption) ?restt133_27
              case hyt133_27 => (intro W hSw; (try dsimp only at hSw); have hS1 := hSw; (go_simp <;> with_reducible rfl))
              (try simp only [List.getElem_toArray, List.getElem_cons_succ, List.getElem_cons_zero, Act.put, List.setIfInBounds_toArray, List.set_cons_zero, List.set_cons_succ])
              refine wpAnyH_ready (rs := [28]) (by kernel_rfl) (by simp) ?_
              refine AllReadyH.cons rfl (fun K hK => ?_) AllReadyH.nil
              have hO2 := HO1.out.below V2.out
              have hpc2 := (V2.out.cell (p := ⟨pg, i, none⟩) hpl).trans HC1.out
              have hpf2 := World.ownsRow.frozenAt hO2.2 i
              have hul2 := World.block_lt_of_cell? _ _ hpc2
              clear hHeld
              go_simp
              refine hK.out _ _ ?_ (fun hHeld => ?_)
              · (try dsimp only); exact ((HG1.out.below V2.out).aside (p := ⟨pg, i, none⟩) (by have := HP.out.2.2; simp; omega) _).look 1
              clear hK K
              (try simp only [List.getElem_toArray, List.getElem_cons_succ, List.getElem_cons_zero, Act.put, List.setIfInBounds_toArray, List.set_cons_zero, List.set_cons_succ])
              refine wpAnyH_done (by kernel_rfl) ?_ _
              rw [← HD.out] at ho3
              obtain ⟨hRO, hOU, hGU, hKU, hBU, hsz⟩ := drop_put (i := i) HP.out.1 HP.out.2.2 HZ1.out hB HQ1.out HO1.out HG1.out HK1.out HB1.out V2.out HV.out (rows_at_i HY.out) ho3
              rw [rows_set_i HY.out] at hRO
              go_wp2
              go_roundw
              case rel => exact ⟨i + 1, _, by omega, by go_num, Lib.hid hBU, Lib.hid hsz, Lib.hid hKU, Lib.hid hGU, Lib.hid hOU, Lib.hid hRO⟩
              case measure => simp [intOf]; omega
          · go_simp
            refine hK.out _ _ ?_ (fun hHeld => ?_)
            · (try dsimp only); exact SB.out _ V0
            clear hK K
            (try simp only [List.getElem_toArray, List.getElem_cons_succ, List.getElem_cons_zero, Act.put, List.setIfInBounds_toArray, List.set_cons_zero, List.set_cons_succ])
            refine wpAnyH_take (i := 25) (v := .slice AS (m - (j + 1)) (c - (j + 1))) rfl (by kernel_rfl) (by kernel_rfl) (by kernel_rfl) (fun _ _ _ h => h) (Or.inl ⟨by rfl, ?hyt134_25⟩) (by assumption) ?restt134_25
            case hyt134_25 => (intro W hSw; go_simp; rw [if_pos (show (0 : Int) ≤ (j : Int) + 1 ∧ (j : Int) + 1 ≤ m by omega), HAS.out])
            (try simp only [List.getElem_toArray, List.getElem_cons_succ, List.getElem_cons_zero, Act.put, List.setIfInBounds_toArray, List.set_cons_zero, List.set_cons_succ])
            refine wpAnyH_ready (rs := [5]) (by kernel_rfl) (by simp) ?_
            refine AllReadyH.cons rfl (fun K hK => ?_) AllReadyH.nil
            go_simp
            refine hK.out _ _ ?_ (fun hHeld => ?_)
            · (try dsimp only); exact SB.out _ VA
            clear hK K
            (try simp only [List.getElem_toArray, List.getElem_cons_succ, List.getElem_cons_zero, Act.put, List.setIfInBounds_toArray, List.set_cons_zero, List.set_cons_succ])
            refine wpAnyH_ready (rs := [15]) (by kernel_rfl) (by simp) ?_
            refine AllReadyH.cons rfl (fun K hK => ?_) AllReadyH.nil
            refine step_appF0 tcell_len tcell_one Try.underlying29 timerInfo rfl (by decide) (by decide) rfl (.tmp 31) (.tmp 40) rfl (B := u0.heap.size) rfl hE0 rfl hI0 (by omega) (by simp) ?_
            intro A2 c2 u1 ho2 hg2
            rw [Nat.zero_add, List.nil_append] at ho2
            (try simp only [Nat.zero_add])
            have V1 : Hid (Below u0.heap.size u0 u1) := Lib.hid (VA.out.grown hg2 (by simp) (fun r e => by simp at e; omega))
            have hpc1 : u1.cell? ⟨pg, i, none⟩ = some (.slice (some ⟨pb, 0, none⟩) m c) := (V1.out.cell (p := ⟨pg, i, none⟩) hpl).trans HC1.out
            have hI1 := HI2.out.below V1.out
            refine hK.out _ _ ?_ (fun hHeld => ?_)
            · (try dsimp only); exact SB.out _ V1
            clear hK K
            (try simp only [List.getElem_toArray, List.getElem_cons_succ, List.getElem_cons_zero, Act.put, List.setIfInBounds_toArray, List.set_cons_zero, List.set_cons_succ])
            refine wpAnyH_ready (rs := [26]) (by kernel_rfl) (by simp) ?_
            refine AllReadyH.cons rfl (fun K hK => ?_) AllReadyH.nil
            refine step_appF0 tcell_len tcell_one Try.underlying29 timerInfo rfl (by decide) (by decide) rfl (.tmp 41) (.tmp 51) rfl (B := u0.heap.size) rfl ho2 rfl hI1 (by omega) V1.out.size ?_
            intro A3 c3 u2 ho3 hg3
            have V2 : Hid (Below u0.heap.size u0 u2) := Lib.hid (V1.out.grown hg3 V1.out.size (fun r e => (ho2.block r e).1))
            refine hK.out _ _ ?_ (fun hHeld => ?_)
            · (try dsimp only); exact SB.out _ V2
            clear hK K
            (try simp only [List.getElem_toArray, List.getElem_cons_succ, List.getElem_cons_zero, Act.put, List.setIfInBounds_toArray, List.set_cons_zero, List.set_cons_succ])
            refine wpAnyH_take (i := 27) (v := ?vt135_27) rfl (by kernel_rfl) (by kernel_rfl) (by kernel_rfl) (fun _ _ _ h => h) (Or.inl ⟨by rfl, ?hyt135_27⟩) (by assumption) ?restt135_27
            case hyt135_27 => (intro W hSw; (try dsimp only at hSw); have hS1 := hSw; (go_simp <;> with_reducible rfl))
            (try simp only [List.getElem_toArray, List.getElem_cons_succ, List.getElem_cons_zero, Act.put, List.setIfInBounds_toArray, List.set_cons_zero, List.set_cons_succ])
            refine wpAnyH_ready (rs := [28]) (by kernel_rfl) (by simp) ?_
            refine AllReadyH.cons rfl (fun K hK => ?_) AllReadyH.nil
            have hO2 := HO1.out.below V2.out
            have hpc2 := (V2.out.cell (p := ⟨pg, i, none⟩) hpl).trans HC1.out
            have hpf2 := World.ownsRow.frozenAt hO2.2 i
            have hul2 := World.block_lt_of_cell? _ _ hpc2
            clear hHeld
            go_simp
            refine hK.out _ _ ?_ (fun hHeld => ?_)
            · (try dsimp only); exact ((HG1.out.below V2.out).aside (p := ⟨pg, i, none⟩) (by have := HP.out.2.2; simp; omega) _).look 1
            clear hK K
            (try simp only [List.getElem_toArray, List.getElem_cons_succ, List.getElem_cons_zero, Act.put, List.setIfInBounds_toArray, List.set_cons_zero, List.set_cons_succ])
            refine wpAnyH_done (by kernel_rfl) ?_ _
            rw [← HD.out] at ho3
            obtain ⟨hRO, hOU, hGU, hKU, hBU, hsz⟩ := drop_put (i := i) HP.out.1 HP.out.2.2 HZ1.out hB HQ1.out HO1.out HG1.out HK1.out HB1.out V2.out HV.out (rows_at_i HY.out) ho3
            rw [rows_set_i HY.out] at hRO
            go_wp2
            go_roundw
            case rel => exact ⟨i + 1, _, by omega, by go_num, Lib.hid hBU, Lib.hid hsz, Lib.hid hKU, Lib.hid hGU, Lib.hid hOU, Lib.hid hRO⟩
            case measure => simp [intOf]; omega
        · go_simp
          refine hK.out _ _ ?_ (fun hHeld => ?_)
          · (try dsimp only); exact SB.out _ V0
          clear hK K
          (try simp only [List.getElem_toArray, List.getElem_cons_succ, List.getElem_cons_zero, Act.put, List.setIfInBounds_toArray, List.set_cons_zero, List.set_cons_succ])
          refine wpAnyH_take (i := 25) (v := .slice AS (m - (j + 1)) (c - (j + 1))) rfl (by kernel_rfl) (by kernel_rfl) (by kernel_rfl) (fun _ _ _ h => h) (Or.inl ⟨by rfl, ?hyt136_25⟩) (by assumption) ?restt136_25
          case hyt136_25 => (intro W hSw; go_simp; rw [if_pos (show (0 : Int) ≤ (j : Int) + 1 ∧ (j : Int) + 1 ≤ m by omega), HAS.out])
          (try simp only [List.getElem_toArray, List.getElem_cons_succ, List.getElem_cons_zero, Act.put, List.setIfInBounds_toArray, List.set_cons_zero, List.set_cons_succ])
          refine wpAnyH_ready (rs := [5, 12]) (by kernel_rfl) (by simp) ?_
          refine AllReadyH.cons rfl (fun K hK => ?_) (AllReadyH.cons rfl (fun K hK => ?_) AllReadyH.nil)
          · go_simp
            refine hK.out _ _ ?_ (fun hHeld => ?_)
            · (try dsimp only); exact SB.out _ VA
            clear hK K
            (try simp only [List.getElem_toArray, List.getElem_cons_succ, List.getElem_cons_zero, Act.put, List.setIfInBounds_toArray, List.set_cons_zero, List.set_cons_succ])
            refine wpAnyH_ready (rs := [12]) (by kernel_rfl) (by simp) ?_
            refine AllReadyH.cons rfl (fun K hK => ?_) AllReadyH.nil
            go_simp
            refine hK.out _ _ ?_ (fun hHeld => ?_)
            · (try dsimp only); exact SB.out _ VA
            clear hK K
            (try simp only [List.getElem_toArray, List.getElem_cons_succ, List.getElem_cons_zero, Act.put, List.setIfInBounds_toArray, List.set_cons_zero, List.set_cons_succ])
            refine wpAnyH_take (i := 14) (v := .slice (some ⟨pb, 0, none⟩) j c) rfl (by kernel_rfl) (by kernel_rfl) (by kernel_rfl) (fun _ _ _ h => h) (Or.inl ⟨by rfl, ?hyt137_14⟩) (by assumption) ?restt137_14
            case hyt137_14 => (intro W hSw; go_simp; intro h; omega)
            (try simp only [List.getElem_toArray, List.getElem_cons_succ, List.getElem_cons_zero, Act.put, List.setIfInBounds_toArray, List.set_cons_zero, List.set_cons_succ])
            refine wpAnyH_ready (rs := [15]) (by kernel_rfl) (by simp) ?_
            refine AllReadyH.cons rfl (fun K hK => ?_) AllReadyH.nil
            refine step_appF0 tcell_len tcell_one Try.underlying29 timerInfo rfl (by decide) (by decide) rfl (.tmp 31) (.tmp 40) rfl (B := u0.heap.size) rfl hE0 rfl hI0 (by omega) (by simp) ?_
            intro A2 c2 u1 ho2 hg2
            rw [Nat.zero_add, List.nil_append] at ho2
            (try simp only [Nat.zero_add])
            have V1 : Hid (Below u0.heap.size u0 u1) := Lib.hid (VA.out.grown hg2 (by simp) (fun r e => by simp at e; omega))
            have hpc1 : u1.cell? ⟨pg, i, none⟩ = some (.slice (some ⟨pb, 0, none⟩) m c) := (V1.out.cell (p := ⟨pg, i, none⟩) hpl).trans HC1.out
            have hI1 := HI2.out.below V1.out
            refine hK.out _ _ ?_ (fun hHeld => ?_)
            · (try dsimp only); exact SB.out _ V1
            clear hK K
            (try simp only [List.getElem_toArray, List.getElem_cons_succ, List.getElem_cons_zero, Act.put, List.setIfInBounds_toArray, List.set_cons_zero, List.set_cons_succ])
            refine wpAnyH_ready (rs := [26]) (by kernel_rfl) (by simp) ?_
            refine AllReadyH.cons rfl (fun K hK => ?_) AllReadyH.nil
            refine step_appF0 tcell_len tcell_one Try.underlying29 timerInfo rfl (by decide) (by decide) rfl (.tmp 41) (.tmp 51) rfl (B := u0.heap.size) rfl ho2 rfl hI1 (by omega) V1.out.size ?_
            intro A3 c3 u2 ho3 hg3
            have V2 : Hid (Below u0.heap.size u0 u2) := Lib.hid (V1.out.grown hg3 V1.out.size (fun r e => (ho2.block r e).1))
            refine hK.out _ _ ?_ (fun hHeld => ?_)
            · (try dsimp only); exact SB.out _ V2
            clear hK K
            (try simp only [List.getElem_toArray, List.getElem_cons_succ, List.getElem_cons_zero, Act.put, List.setIfInBounds_toArray, List.set_cons_zero, List.set_cons_succ])
            refine wpAnyH_take (i := 27) (v := ?vt138_27) rfl (by kernel_rfl) (by kernel_rfl) (by kernel_rfl) (fun _ _ _ h => h) (Or.inl ⟨by rfl, ?hyt138_27⟩) (by assumption) ?restt138_27
            case hyt138_27 => (intro W hSw; (try dsimp only at hSw); have hS1 := hSw; (go_simp <;> with_reducible rfl))
            (try simp only [List.getElem_toArray, List.getElem_cons_succ, List.getElem_cons_zero, Act.put, List.setIfInBounds_toArray, List.set_cons_zero, List.set_cons_succ])
            refine wpAnyH_ready (rs := [28]) (by kernel_rfl) (by simp) ?_
            refine AllReadyH.cons rfl (fun K hK => ?_) AllReadyH.nil
            have hO2 := HO1.out.below V2.out
            have hpc2 := (V2.out.cell (p := ⟨pg, i, none⟩) hpl).trans HC1.out
            have hpf2 := World.ownsRow.frozenAt hO2.2 i
            have hul2 := World.block_lt_of_cell? _ _ hpc2
            clear hHeld
            go_simp
            refine hK.out _ _ ?_ (fun hHeld => ?_)
            · (try dsimp only); exact ((HG1.out.below V2.out).aside (p := ⟨pg, i, none⟩) (by have := HP.out.2.2; simp; omega) _).look 1
            clear hK K
            (try simp only [List.getElem_toArray, List.getElem_cons_succ, List.getElem_cons_zero, Act.put, List.setIfInBounds_toArray, List.set_cons_zero, List.set_cons_succ])
            refine wpAnyH_done (by kernel_rfl) ?_ _
            rw [← HD.out] at ho3
            obtain ⟨hRO, hOU, hGU, hKU, hBU, hsz⟩ := drop_put (i := i) HP.out.1 HP.out.2.2 HZ1.out hB HQ1.out HO1.out HG1.out HK1.out HB1.out V2.out HV.out (rows_at_i HY.out) ho3
            rw [rows_set_i HY.out] at hRO
            go_wp2
            go_roundw
            case rel => exact ⟨i + 1, _, by omega, by go_num, Lib.hid hBU, Lib.hid hsz, Lib.hid hKU, Lib.hid hGU, Lib.hid hOU, Lib.hid hRO⟩
            case measure => simp [intOf]; omega
          · go_simp
            refine hK.out _ _ ?_ (fun hHeld => ?_)
            · (try dsimp only); exact SB.out _ V0
            clear hK K
            (try simp only [List.getElem_toArray, List.getElem_cons_succ, List.getElem_cons_zero, Act.put, List.setIfInBounds_toArray, List.set_cons_zero, List.set_cons_succ])
            refine wpAnyH_take (i := 14) (v := .slice (some ⟨pb, 0, none⟩) j c) rfl (by kernel_rfl) (by kernel_rfl) (by kernel_rfl) (fun _ _ _ h => h) (Or.inl ⟨by rfl, ?hyt139_14⟩) (by assumption) ?restt139_14
            case hyt139_14 => (intro W hSw; go_simp; intro h; omega)
            (try simp only [List.getElem_toArray, List.getElem_cons_succ, List.getElem_cons_zero, Act.put, List.setIfInBounds_toArray, List.set_cons_zero, List.set_cons_succ])
            refine wpAnyH_ready (rs := [5]) (by kernel_rfl) (by simp) ?_
            refine AllReadyH.cons rfl (fun K hK => ?_) AllReadyH.nil
            go_simp
            refine hK.out _ _ ?_ (fun hHeld => ?_)
            · (try dsimp only); exact SB.out _ VA
            clear hK K
            (try simp only [List.getElem_toArray, List.getElem_cons_succ, List.getElem_cons_zero, Act.put, List.setIfInBounds_toArray, List.set_cons_zero, List.set_cons_succ])
            refine wpAnyH_ready (rs := [15]) (by kernel_rfl) (by simp) ?_
            refine AllReadyH.cons rfl (fun K hK => ?_) AllReadyH.nil
            refine step_appF0 tcell_len tcell_one Try.underlying29 timerInfo rfl (by decide) (by decide) rfl (.tmp 31) (.tmp 40) rfl (B := u0.heap.size) rfl hE0 rfl hI0 (by omega) (by simp) ?_
            intro A2 c2 u1 ho2 hg2
            rw [Nat.zero_add, List.nil_append] at ho2
            (try simp only [Nat.zero_add])
            have V1 : Hid (Below u0.heap.size u0 u1) := Lib.hid (VA.out.grown hg2 (by simp) (fun r e => by simp at e; omega))
            have hpc1 : u1.cell? ⟨pg, i, none⟩ = some (.slice (some ⟨pb, 0, none⟩) m c) := (V1.out.cell (p := ⟨pg, i, none⟩) hpl).trans HC1.out
            have hI1 := HI2.out.below V1.out
            refine hK.out _ _ ?_ (fun hHeld => ?_)
            · (try dsimp only); exact SB.out _ V1
            clear hK K
            (try simp only [List.getElem_toArray, List.getElem_cons_succ, List.getElem_cons_zero, Act.put, List.setIfInBounds_toArray, List.set_cons_zero, List.set_cons_succ])
            refine wpAnyH_ready (rs := [26]) (by kernel_rfl) (by simp) ?_
            refine AllReadyH.cons rfl (fun K hK => ?_) AllReadyH.nil
            refine step_appF0 tcell_len tcell_one Try.underlying29 timerInfo rfl (by decide) (by decide) rfl (.tmp 41) (.tmp 51) rfl (B := u0.heap.size) rfl ho2 rfl hI1 (by omega) V1.out.size ?_
            intro A3 c3 u2 ho3 hg3
            have V2 : Hid (Below u0.heap.size u0 u2) := Lib.hid (V1.out.grown hg3 V1.out.size (fun r e => (ho2.block r e).1))
            refine hK.out _ _ ?_ (fun hHeld => ?_)
            · (try dsimp only); exact SB.out _ V2
            clear hK K
            (try simp only [List.getElem_toArray, List.getElem_cons_succ, List.getElem_cons_zero, Act.put, List.setIfInBounds_toArray, List.set_cons_zero, List.set_cons_succ])
            refine wpAnyH_take (i := 27) (v := ?vt140_27) rfl (by kernel_rfl) (by kernel_rfl) (by kernel_rfl) (fun _ _ _ h => h) (Or.inl ⟨by rfl, ?hyt140_27⟩) (by assumption) ?restt140_27
            case hyt140_27 => (intro W hSw; (try dsimp only at hSw); have hS1 := hSw; (go_simp <;> with_reducible rfl))
            (try simp only [List.getElem_toArray, List.getElem_cons_succ, List.getElem_cons_zero, Act.put, List.setIfInBounds_toArray, List.set_cons_zero, List.set_cons_succ])
            refine wpAnyH_ready (rs := [28]) (by kernel_rfl) (by simp) ?_
            refine AllReadyH.cons rfl (fun K hK => ?_) AllReadyH.nil
            have hO2 := HO1.out.below V2.out
            have hpc2 := (V2.out.cell (p := ⟨pg, i, none⟩) hpl).trans HC1.out
            have hpf2 := World.ownsRow.frozenAt hO2.2 i
            have hul2 := World.block_lt_of_cell? _ _ hpc2
            clear hHeld
            go_simp
            refine hK.out _ _ ?_ (fun hHeld => ?_)
            · (try dsimp only); exact ((HG1.out.below V2.out).aside (p := ⟨pg, i, none⟩) (by have := HP.out.2.2; simp; omega) _).look 1
            clear hK K
            (try simp only [List.getElem_toArray, List.getElem_cons_succ, List.getElem_cons_zero, Act.put, List.setIfInBounds_toArray, List.set_cons_zero, List.set_cons_succ])
            refine wpAnyH_done (by kernel_rfl) ?_ _
            rw [← HD.out] at ho3
            obtain ⟨hRO, hOU, hGU, hKU, hBU, hsz⟩ := drop_put (i := i) HP.out.1 HP.out.2.2 HZ1.out hB HQ1.out HO1.out HG1.out HK1.out HB1.out V2.out HV.out (rows_at_i HY.out) ho3
            rw [rows_set_i HY.out] at hRO
            go_wp2
            go_roundw
            case rel => exact ⟨i + 1, _, by omega, by go_num, Lib.hid hBU, Lib.hid hsz, Lib.hid hKU, Lib.hid hGU, Lib.hid hOU, Lib.hid hRO⟩
            case measure => simp [intOf]; omega
    · have hi24 : i = 24 := by omega
      subst hi24
      have hQ := HQ.out
      rw [List.drop_eq_nil_of_le (by omega), List.append_nil, List.take_of_length_le (by omega)] at hQ
      have HQF := Lib.hid hQ
      clear hQ HQ
      go_wp2
      exact ⟨rfl, .tuple #[], by simp [results, Try.results73, go_sem], vs, rfl, HG.out, HO.out, HQF.out, HB.out⟩

end
end Go.Proofs.Ytfgbjjaipakpaaa

namespace Go.Proofs.Ytfgbjjaipakpaaa
open Go.RowKit Go.Shelf
set_option linter.unusedVariables false

theorem keyT_iff {a b : Tmr} : keyT a b = true ↔ a.typ = b.typ ∧ a.id = b.id ∧ a.adv = b.adv := by simp [keyT]
theorem twin_app {a b : List Tmr} (h : twinB (a ++ b) = false) : twinB a = false ∧ twinB b = false := by
  induction a with
  | nil => exact ⟨rfl, h⟩
  | cons t r ih =>
    simp only [List.cons_append, twinB, Bool.or_eq_false_iff, List.any_append] at h ⊢
    exact ⟨⟨h.1.1, (ih h.2).1⟩, (ih h.2).2⟩
theorem twin_rows {ys : List (List Tmr)} (h : twinB ys.flatten = false) : ∀ y ∈ ys, twinB y = false := by
  induction ys with
  | nil => intro y hy; cases hy
  | cons a r ih =>
    rw [List.flatten_cons] at h
    intro y hy
    rcases List.mem_cons.1 hy with rfl | hy
    · exact (twin_app h).1
    · exact ih (twin_app h).2 y hy
theorem dropK_cons_hit {t k : Tmr} {r : List Tmr} (h : keyT t k = true) : dropK k (t :: r) = r := by
  have hf : findV (t :: r) k = 0 := by unfold findV; simp [h, List.findIdx_cons]
  unfold dropK
  rw [hf, if_pos (by omega)]
  simp
theorem dropK_cons_miss {t k : Tmr} {r : List Tmr} (h : keyT t k = false) : dropK k (t :: r) = t :: dropK k r := by
  unfold dropK
  rcases findV_cases r k with hf | ⟨j, hj, hf⟩
  · have hf2 : findV (t :: r) k = -1 := by
      have hn := findV_neg.1 (show findV r k < 0 by omega)
      unfold findV
      rw [if_neg]
      simp only [List.any_cons, h, hn]
      simp
    rw [hf, hf2, if_neg (by omega), if_neg (by omega)]
  · have hf2 : findV (t :: r) k = ((j + 1 : Nat) : Int) := by
      have hn : r.any (fun t => keyT t k) = true := by
        cases hh : r.any (fun t => keyT t k) with
        | true => rfl
        | false => have := findV_neg.2 hh; omega
      have hj2 : r.findIdx (fun t => keyT t k) = j := by unfold findV at hf; rw [if_pos hn] at hf; omega
      unfold findV
      rw [if_pos (by simp [List.any_cons, h, hn]), List.findIdx_cons, h, hj2]
      rfl
    rw [hf, hf2, if_pos (by omega), if_pos (by omega), Int.toNat_natCast, Int.toNat_natCast]
    rfl
theorem dropK_filter {k : Tmr} : ∀ {y : List Tmr}, twinB y = false → dropK k y = y.filter fun t => !keyT t k
  | [], _ => by unfold dropK; split <;> simp
  | t :: r, h => by
    simp only [twinB, Bool.or_eq_false_iff] at h
    by_cases hk : keyT t k = true
    · rw [dropK_cons_hit hk, List.filter_cons_of_neg (by simp [hk])]
      refine (List.filter_eq_self.2 fun u hu => ?_).symm
      cases hu2 : keyT u k with
      | false => rfl
      | true =>
        have h1 := keyT_iff.1 hk
        have h2 := keyT_iff.1 hu2
        have h3 : keyT t u = true := keyT_iff.2 ⟨h1.1.trans h2.1.symm, h1.2.1.trans h2.2.1.symm, h1.2.2.trans h2.2.2.symm⟩
        have h4 := List.any_eq_false.1 h.1 u hu
        exact absurd h3 h4
    · have hk' : keyT t k = false := by simpa using hk
      rw [dropK_cons_miss hk', List.filter_cons_of_pos (by simp [hk']), dropK_filter h.2]
theorem rows_dropK {now : Int} {ys : List (List Tmr)} {k : Tmr} (h : faultW now ys = 0) : ys.map (dropK k) = ys.map fun y => y.filter fun t => !keyT t k :=
  List.map_congr_left fun y hy => dropK_filter (twin_rows (fault_rows h).2 y hy)

section
attribute [local go_sem] Oper.semAt_some

set_option maxRecDepth 100000 in
set_option maxHeartbeats 4000000 in
theorem specDropTimer_any (now : Int) (k : Tmr) (q : Bool) (lo hi : Nat) (A : Option Addr) (n c : Nat) (ys : List (List Tmr)) (w : World) (ha : Rep.timer.rows.Sl q lo hi w A n ys) (hh : hi ≤ w.heap.size) (hn : n ≤ 1048576) (ht : tot ys ≤ 1048576) :
    Calls Try.prog 25 #[.agg #[.int .i64 now, .slice A n c], .agg #[.int .i64 k.typ, .int .i64 k.id, .int .i64 k.adv]] w (WOut w (dtC now ys k) (dtN now ys k) (dtR now ys k) []) := by
  have HA := Rep.Sl.kept ha hh
  have hl := ha.1
  have HM : Hid (∀ y ∈ ys, y.length ≤ 1048576) := Lib.hid (fun y hy => by
    obtain ⟨i, hi, rfl⟩ := List.getElem_of_mem hy
    have := tot_at ys i _ (List.getElem?_eq_getElem hi)
    omega)
  obtain ⟨r, hr⟩ : ∃ r, faultW now ys = r := ⟨_, rfl⟩
  have HRR := Lib.hid hr
  have HTT := Lib.hid ht
  clear ha hr ht
  go_enter Try.func25, Try.ntmps25
  go_upto_region 1 with (fail)
  refine Code.wp_name ?_
  intro V hV
  have HX : Hid (Box V w.heap.size 26 #[.int .i64 now, .slice A n c]) := Lib.hid (by rw [hV]; exact ((Box.made _ _ _).over _).over _)
  have HK : Hid (Box V (w.heap.size + 1) 34 #[.int .i64 k.typ, .int .i64 k.id, .int .i64 k.adv]) := Lib.hid (by rw [hV]; exact (Box.made_at _ _ _ (by simp)).over _)
  have HR : Hid (Box V (w.heap.size + 2) 31 #[.int .i64 0, .int .i64 0, .slice none 0 0, .slice none 0 0]) := Lib.hid (by rw [hV]; exact Box.made_at _ _ _ (by simp))
  have HB : Hid (Below w.heap.size w V) := Lib.hid (by rw [hV]; exact (((Below.refl _ _).alloc (Nat.le_refl _) _).alloc (by simp) _).alloc (by simp; omega) _)
  have HZ : Hid (w.heap.size + 3 = V.heap.size) := Lib.hid (by rw [hV]; simp)
  clear hV
  have c0 := HX.out.look 0
  have c1 := HX.out.look 1
  have hxl := HX.out.lt
  go_wp2_with fail
  refine (specWheelFault_any now q lo hi A n c ys _ (HA.below HB.out).sl (HA.below HB.out).le hn HTT.out).mono ?_
  rw [HRR.out]
  rintro e w1 ⟨rfl, hb1⟩
  have HX1 := Lib.hid (HX.out.below hb1)
  have HK1 := Lib.hid (HK.out.below hb1)
  have HR1 := Lib.hid (HR.out.below hb1)
  have HB1 := Lib.hid (below_step HB.out hb1)
  have HZ1 : Hid (w.heap.size + 3 ≤ w1.heap.size) := Lib.hid (by have := HZ.out; have := hb1.size; omega)
  clear hb1 HX HR HB HZ HK c0 c1 hxl
  have hxl := HX1.out.lt
  by_cases hr0 : r = 0
  · subst hr0
    obtain ⟨hok, h24, h60⟩ := fault_ok HRR.out
    obtain rfl : n = 24 := by omega
    obtain ⟨z, hz⟩ : ∃ z, findV ys.flatten k = z := ⟨_, rfl⟩
    have HZZ := Lib.hid hz
    clear hz
    go_upto_region 4 with (fail)
    clear hxl
    have HAW := HA.below HB1.out
    have SB : Hid (∀ W, Hid (Below w1.heap.size w1 W) → (fun W : World => W.cell? ⟨w.heap.size + 1, 0, none⟩ = some (.int .i64 k.typ) ∧ W.cell? ⟨w.heap.size + 1, 1, none⟩ = some (.int .i64 k.id) ∧ W.cell? ⟨w.heap.size + 1, 2, none⟩ = some (.int .i64 k.adv)) W) := fun W h =>
      ⟨(HK1.out.below h.out).look 0, (HK1.out.below h.out).look 1, (HK1.out.below h.out).look 2⟩
    have V0 : Hid (Below w1.heap.size w1 w1.drew) := (Below.refl _ _).drew
    refine wp_region_held_drew (S := (fun W : World => W.cell? ⟨w.heap.size + 1, 0, none⟩ = some (.int .i64 k.typ) ∧ W.cell? ⟨w.heap.size + 1, 1, none⟩ = some (.int .i64 k.id) ∧ W.cell? ⟨w.heap.size + 1, 2, none⟩ = some (.int .i64 k.adv))) (by kernel_rfl) ?_ (fun hHeld => ?_)
    · (try dsimp only); exact SB.out _ V0
    refine wpAnyH_take (i := 1) (v := ?vt1_1) rfl (by kernel_rfl) (by kernel_rfl) (by kernel_rfl) (fun _ _ _ h => h) (Or.inl ⟨by rfl, ?hyt1_1⟩) (by assumption) ?restt1_1
    case hyt1_1 => (intro W hSw; (try dsimp only at hSw); obtain ⟨hS1, hS2, hS3⟩ := hSw; (go_simp <;> with_reducible rfl))
    (try simp only [List.getElem_toArray, List.getElem_cons_succ, List.getElem_cons_zero, Act.put, List.setIfInBounds_toArray, List.set_cons_zero, List.set_cons_succ])
    refine wpAnyH_ready (rs := [0]) (by kernel_rfl) (by simp) ?_
    refine AllReadyH.cons rfl (fun K hK => ?_) AllReadyH.nil
    go_simp
    refine (l4All_any q lo hi w.heap.size A 24 c now ys _ (HX1.out.below V0.out) (HAW.below V0.out).sl (HAW.below V0.out).le (by omega) HTT.out).mono ?_
    rintro e u2 ⟨E, m, d, rfl, hoe, hb⟩
    have V1 := Lib.hid (below_step V0.out hb)
    clear hb
    have HO2 := Rep.Sl.kept (own_timers hoe) (Nat.le_refl _)
    have hml : m ≤ 1048576 := by have h1 := hoe.1; rw [show ys.flatten.length = tot ys by simp [tot]] at h1; omega
    clear hoe
    refine hK.out _ _ ?_ (fun hHeld => ?_)
    · (try dsimp only); exact SB.out _ V1
    clear hK K
    (try simp only [List.getElem_toArray, List.getElem_cons_succ, List.getElem_cons_zero, Act.put, List.setIfInBounds_toArray, List.set_cons_zero, List.set_cons_succ])
    refine wpAnyH_ready (rs := [2]) (by kernel_rfl) (by simp) ?_
    refine AllReadyH.cons rfl (fun K hK => ?_) AllReadyH.nil
    go_simp
    refine (l4Find_any true _ _ E m d ys.flatten k _ HO2.sl HO2.le hml).mono ?_
    rw [HZZ.out]
    rintro e w3 ⟨rfl, hb⟩
    have V2 := Lib.hid (below_step V1.out hb)
    clear hb HO2
    refine hK.out _ _ ?_ (fun hHeld => ?_)
    · (try dsimp only); exact SB.out _ V2
    clear hK K
    (try simp only [List.getElem_toArray, List.getElem_cons_succ, List.getElem_cons_zero, Act.put, List.setIfInBounds_toArray, List.set_cons_zero, List.set_cons_succ])
    refine wpAnyH_take (i := 3) (v := ?vt2_3) rfl (by kernel_rfl) (by kernel_rfl) (by kernel_rfl) (fun _ _ _ h => h) (Or.inl ⟨by rfl, ?hyt2_3⟩) (by assumption) ?restt2_3
    case hyt2_3 => (intro W hSw; (try dsimp only at hSw); obtain ⟨hS1, hS2, hS3⟩ := hSw; (go_simp <;> with_reducible rfl))
    (try simp only [List.getElem_toArray, List.getElem_cons_succ, List.getElem_cons_zero, Act.put, List.setIfInBounds_toArray, List.set_cons_zero, List.set_cons_succ])
    refine wpAnyH_done (by kernel_rfl) ?_ _
    have HX3 := Lib.hid (HX1.out.below V2.out)
    have HK3 := Lib.hid (HK1.out.below V2.out)
    have HR3 := Lib.hid (HR1.out.below V2.out)
    have HB3 := Lib.hid (below_step HB1.out V2.out)
    have HZ3 : Hid (w.heap.size + 3 ≤ w3.heap.size) := Lib.hid (Nat.le_trans HZ1.out V2.out.size)
    clear SB V0 V1 V2 HX1 HK1 HR1 HB1 HAW hHeld
    by_cases hz0 : z < 0
    · have hC : dtC now ys k = 4 := by
        unfold dtC
        rw [if_neg (fun e => e HRR.out), if_neg]
        rw [findV_neg.1 (show findV ys.flatten k < 0 by rw [HZZ.out]; exact hz0)]
        simp
      have hC' : ¬ dtC now ys k = 0 := by rw [hC]; omega
      have HWO : Hid (dtC now ys k = 4 ∧ dtN now ys k = 0 ∧ dtR now ys k = []) := Lib.hid ⟨hC, if_neg hC', if_neg hC'⟩
      clear hC hC'
      have r0 := HR3.out.look 0
      have r1 := HR3.out.look 1
      have r2 := HR3.out.look 2
      have r3 := HR3.out.look 3
      have f0 := HR3.out.free 0
      have f1 := HR3.out.free 1
      have f2 := HR3.out.free 2
      have f3 := HR3.out.free 3
      have hrl := HR3.out.lt
      go_wp2
      clear r0 r1 r2 r3 f0 f1 f2 f3 hrl
      have hbx := (((HR3.out.puts 0 (.int .i64 4) (cs' := #[.int .i64 4, .int .i64 0, .slice none 0 0, .slice none 0 0]) rfl).puts 1 (.int .i64 0) (cs' := #[.int .i64 4, .int .i64 0, .slice none 0 0, .slice none 0 0]) rfl).puts 2 (.slice none 0 0) (cs' := #[.int .i64 4, .int .i64 0, .slice none 0 0, .slice none 0 0]) rfl).puts 3 (.slice none 0 0) (cs' := #[.int .i64 4, .int .i64 0, .slice none 0 0, .slice none 0 0]) rfl
      have q0 := hbx.look 0
      have q1 := hbx.look 1
      have q2 := hbx.look 2
      have q3 := hbx.look 3
      exact bodyPost_ret (v := .agg #[.int .i64 4, .int .i64 0, .slice none 0 0, .slice none 0 0]) (by simp [results, Try.results25, go_sem, q0, q1, q2, q3]) rfl (by rw [HWO.out.1, HWO.out.2.1, HWO.out.2.2]; refine WOut.zero ?_; exact (((HB3.out.setCell (by simp; try omega) _).setCell (by simp; try omega) _).setCell (by simp; try omega) _).setCell (by simp; try omega) _)
    · have hany : (ys.flatten.any fun t => keyT t k) = true := by
        cases h : (ys.flatten.any fun t => keyT t k) with
        | true => rfl
        | false => have := findV_neg.2 h; rw [HZZ.out] at this; exact absurd this hz0
      have hC : dtC now ys k = 0 := by unfold dtC; rw [if_neg (fun e => e HRR.out), if_pos hany]
      have HWO : Hid (dtC now ys k = 0 ∧ dtN now ys k = now ∧ dtR now ys k = ys.map (fun y => y.filter fun t => !keyT t k)) := Lib.hid ⟨hC, if_pos hC, if_pos hC⟩
      clear hC hany
      have hxl := HX3.out.lt
      go_wp2_with fail
      refine (l4Copy_any q lo hi w.heap.size A c now ys _ HX3.out (HA.below HB3.out).sl (HA.below HB3.out).le HM.out).mono ?_
      rintro e w4 ⟨P, pc, vs, rfl, hor, hrr, hb4⟩
      obtain ⟨pg, rfl, hp1, hp2⟩ := hor.form (by omega)
      have HK4 := Lib.hid (HK3.out.below hb4)
      have HR4 := Lib.hid (HR3.out.below hb4)
      have HB4 := Lib.hid (below_step HB3.out hb4)
      have HO4 := Lib.hid hor
      have HQ4 := Lib.hid hrr
      have HS4 := Lib.hid hb4.size
      clear hb4 hor hrr HX3 HK3 HR3 hxl
      go_upto_region 7 with (fail)
      refine Code.wp_name ?_
      intro V5 hV5
      have hb5 : Below w4.heap.size w4 V5 := by rw [hV5]; exact (Below.refl _ _).alloc (Nat.le_refl _) _
      have HG5 : Hid (Box V5 w4.heap.size 26 #[.int .i64 now, .slice (some ⟨pg, 0, none⟩) 24 pc]) := Lib.hid (by rw [hV5]; exact Box.made _ _ _)
      have HK5 := Lib.hid (HK4.out.below hb5)
      have HR5 := Lib.hid (HR4.out.below hb5)
      have HB5 := Lib.hid (below_step HB4.out hb5)
      have HO5 := Lib.hid (HO4.out.below hb5)
      have HQ5 := Lib.hid (HQ4.out.below hb5)
      have HS5 : Hid (w3.heap.size ≤ V5.heap.size) := Lib.hid (Nat.le_trans HS4.out hb5.size)
      clear hV5 hb5 HK4 HR4 HB4 HO4 HQ4
      have k0 := HK5.out.look 0
      have k1 := HK5.out.look 1
      have k2 := HK5.out.look 2
      have hkl := HK5.out.lt
      go_wp2_with fail
      refine (l4Drop_any w3.heap.size w4.heap.size pg pc now vs ys k V5 HG5.out HO5.out HQ5.out HS5.out (fun y hy => by
        obtain ⟨i, hi, rfl⟩ := List.getElem_of_mem hy
        have := tot_at ys i _ (List.getElem?_eq_getElem hi)
        omega)).mono ?_
      rintro e w6 ⟨vs6, rfl, hg6, ho6, hq6, hb6⟩
      have hz3 := HZ3.out
      have HK0 := RowsO.resK hq6 ho6
      have HK6 := ResK.kept HK0 (Nat.le_refl _)
      have hR6 : Box w6 (w.heap.size + 2) 31 #[.int .i64 0, .int .i64 0, .slice none 0 0, .slice none 0 0] := (hb6.block (w.heap.size + 2) (by omega)).trans HR5.out
      have HB6 := HB5.out.trans (hb6.mono (show w.heap.size ≤ w3.heap.size by omega))
      rw [rows_dropK HRR.out] at HK6
      clear hq6 ho6 hb6 HK0 k0 k1 k2 hkl
      obtain ⟨hbx, hres⟩ := res_stored (g := w.heap.size + 2) hR6 (by omega) (by omega) HB6 HK6 0 now pc 0
      have g0 := hg6.look 0
      have g1 := hg6.look 1
      have hgl := hg6.lt
      have r0 := hR6.look 0
      have r1 := hR6.look 1
      have r2 := hR6.look 2
      have r3 := hR6.look 3
      have f0 := hR6.free 0
      have f1 := hR6.free 1
      have f2 := hR6.free 2
      have f3 := hR6.free 3
      have hrl := hR6.lt
      go_wp2
      clear r0 r1 r2 r3 f0 f1 f2 f3 hrl g0 g1 hgl
      have q0 := hbx.look 0
      have q1 := hbx.look 1
      have q2 := hbx.look 2
      have q3 := hbx.look 3
      exact bodyPost_ret (v := .agg #[.int .i64 0, .int .i64 now, .slice (some ⟨pg, 0, none⟩) 24 pc, .slice none 0 0]) (by simp [results, Try.results25, go_sem, q0, q1, q2, q3]) rfl (by rw [HWO.out.1, HWO.out.2.1, HWO.out.2.2]; exact hres)
  · have hC : dtC now ys k = r := by unfold dtC; rw [HRR.out, if_pos hr0]
    have hC' : ¬ dtC now ys k = 0 := by rw [hC]; exact hr0
    have HWO : Hid (dtC now ys k = r ∧ dtN now ys k = 0 ∧ dtR now ys k = []) := Lib.hid ⟨hC, if_neg hC', if_neg hC'⟩
    have hr0' : (r != 0) = true := by rw [bne_iff_ne]; exact hr0
    clear hr0 hC hC'
    have r0 := HR1.out.look 0
    have r1 := HR1.out.look 1
    have r2 := HR1.out.look 2
    have r3 := HR1.out.look 3
    have f0 := HR1.out.free 0
    have f1 := HR1.out.free 1
    have f2 := HR1.out.free 2
    have f3 := HR1.out.free 3
    have hrl := HR1.out.lt
    go_wp2
    clear r0 r1 r2 r3 f0 f1 f2 f3 hrl
    have hbx := (((HR1.out.puts 0 (.int .i64 r) (cs' := #[.int .i64 r, .int .i64 0, .slice none 0 0, .slice none 0 0]) rfl).puts 1 (.int .i64 0) (cs' := #[.int .i64 r, .int .i64 0, .slice none 0 0, .slice none 0 0]) rfl).puts 2 (.slice none 0 0) (cs' := #[.int .i64 r, .int .i64 0, .slice none 0 0, .slice none 0 0]) rfl).puts 3 (.slice none 0 0) (cs' := #[.int .i64 r, .int .i64 0, .slice none 0 0, .slice none 0 0]) rfl
    have q0 := hbx.look 0
    have q1 := hbx.look 1
    have q2 := hbx.look 2
    have q3 := hbx.look 3
    exact bodyPost_ret (v := .agg #[.int .i64 r, .int .i64 0, .slice none 0 0, .slice none 0 0]) (by simp [results, Try.results25, go_sem, q0, q1, q2, q3]) rfl (by rw [HWO.out.1, HWO.out.2.1, HWO.out.2.2]; refine WOut.zero ?_; exact (((HB1.out.setCell (by simp; try omega) _).setCell (by simp; try omega) _).setCell (by simp; try omega) _).setCell (by simp; try omega) _)

end
end Go.Proofs.Ytfgbjjaipakpaaa

namespace Go.Proofs.Ytfgbjjaipakpaaa
open Go.RowKit
set_option linter.unusedVariables false

theorem only4 (u : World) (g : Nat) (v0 v1 v2 v3 : Value) : Only g (g + 1) u ((((u.setCell ⟨g, 0, none⟩ v0).setCell ⟨g, 1, none⟩ v1).setCell ⟨g, 2, none⟩ v2).setCell ⟨g, 3, none⟩ v3) :=
  ((((Only.refl g (g + 1) u).set (p := ⟨g, 0, none⟩) (Nat.le_refl _) (Nat.lt_succ_self _) v0).set (p := ⟨g, 1, none⟩) (Nat.le_refl _) (Nat.lt_succ_self _) v1).set (p := ⟨g, 2, none⟩) (Nat.le_refl _) (Nat.lt_succ_self _) v2).set (p := ⟨g, 3, none⟩) (Nat.le_refl _) (Nat.lt_succ_self _) v3

set_option maxRecDepth 100000 in
set_option maxHeartbeats 3200000 in
theorem law_DropTimer (v0 : Int) (ys0 : List (List Tmr)) (q0 : Bool) (lo0 hi0 : Nat) (A0 : Option Addr) (n0 c0 : Nat) (s1 t1 u1 : Int) (w : World) (ha0 : Rep.timer.rows.Sl q0 lo0 hi0 w A0 n0 ys0) (hh0 : hi0 ≤ w.heap.size) (hn0 : n0 ≤ maxLen) (hm0 : ∀ y ∈ ys0, y.length ≤ maxLen) :
    Calls Try.prog 9 #[.agg #[.int .i64 v0, .slice A0 n0 c0], .agg #[.int .i64 s1, .int .i64 t1, .int .i64 u1]] w fun e w' => e = .returned (.bool true) ∧ Below w.heap.size w w' := by
  have hle0 := szSS_bd ys0 1048576 (by omega)
  by_cases hbig0 : szSS 1048576 ys0 < 0
  · have HB := Lib.hid (Below.refl w.heap.size w)
    have HA0 := Rep.Sl.kept ha0 hh0
    have HMX0 := Lib.hid hm0
    clear ha0 hm0
    have HR0 := Lib.hid (szSS_neg ys0 1048576 hbig0)
    clear hbig0 hle0
    go_enter Try.func9, Try.ntmps9
    go_wp2_with fail
    refine Calls.name ?_
    intro U1 hU1
    have hb : Below w.heap.size w U1 := by rw [hU1]; exact (((Below.refl _ _).alloc (Nat.le_refl _) _).alloc (by simp <;> omega) _)
    have zz : Hid (w.heap.size + 2 = U1.heap.size) := Lib.hid (by rw [hU1]; simp)
    have HX1 : Kept w.heap.size (w.heap.size + 1) (BoxK w.heap.size 61 #[.int .i64 v0, .slice A0 n0 c0]) U1 := by rw [hU1]; exact Kept.box ((Box.made_at _ _ _ rfl).over _)
    have HX2 : Kept (w.heap.size + 1) (w.heap.size + 1 + 1) (BoxK (w.heap.size + 1) 68 #[.int .i64 s1, .int .i64 t1, .int .i64 u1]) U1 := by rw [hU1]; exact Kept.box (Box.made_at _ _ _ (by simp <;> omega))
    replace HA0 := HA0.below hb
    replace HB := Lib.hid (below_step HB.out hb)
    clear hb
    have Z1 := zz; clear zz
    clear hU1
    refine (szWheel_any q0 lo0 hi0 A0 n0 c0 ys0 v0 (1048576) _ HA0.sl HA0.le hn0 HMX0.out (by omega) (by omega)).mono ?_
    rw [HR0.out]
    rintro e w2 ⟨rfl, hb⟩
    have Z2 := Lib.hid hb.size
    replace HA0 := HA0.below hb
    replace HX1 := HX1.below hb
    replace HX2 := HX2.below hb
    replace HB := Lib.hid (below_step HB.out hb)
    clear hb
    have l2_0 := HX1.bx.lt
    have l2_1 := HX2.bx.lt
    go_wp2
    clear l2_0 l2_1
    go_ret
    exact ⟨rfl, HB.out⟩
  have hsz0 := szSS_nonneg (show (0 : Int) ≤ 1048576 by omega) (show 0 ≤ szSS 1048576 ys0 by omega)
  obtain ⟨r0, hr0⟩ : ∃ r, szSS 1048576 ys0 = r := ⟨_, rfl⟩
  rw [hr0] at hle0 hbig0 hsz0
  have HR0 := Lib.hid hr0
  have hln0 := ha0.1
  rw [hln0] at hsz0
  have hN0 : n0 ≤ 1048576 := by omega
  have HT0 : Hid (tot ys0 ≤ 1048576) := Lib.hid (by omega)
  have HM0 : Hid (∀ y ∈ ys0, y.length ≤ 1048576) := Lib.hid (fun y hy => by obtain ⟨i, hi, rfl⟩ := List.getElem_of_mem hy; have := tot_at ys0 i _ (List.getElem?_eq_getElem hi); omega)
  have hz0 : 0 ≤ r0 := by omega
  clear hr0 hln0 hsz0 hbig0
  have HB := Lib.hid (Below.refl w.heap.size w)
  have HA0 := Rep.Sl.kept ha0 hh0
  have HMX0 := Lib.hid hm0
  clear ha0 hm0
  have HBD0 := Lib.hid (dt_bd v0 ys0 ⟨s1, t1, u1, 0⟩)
  obtain ⟨r, hr⟩ : ∃ z, dtC v0 ys0 ⟨s1, t1, u1, 0⟩ = z := ⟨_, rfl⟩
  have HRr := Lib.hid hr
  clear hr
  obtain ⟨x, hr⟩ : ∃ z, dtN v0 ys0 ⟨s1, t1, u1, 0⟩ = z := ⟨_, rfl⟩
  have HRx := Lib.hid hr
  clear hr
  obtain ⟨us, hr⟩ : ∃ z, dtR v0 ys0 ⟨s1, t1, u1, 0⟩ = z := ⟨_, rfl⟩
  have HRus := Lib.hid hr
  clear hr
  obtain ⟨zs, hr⟩ : ∃ z, ([] : List Tmr) = z := ⟨_, rfl⟩
  have HRzs := Lib.hid hr
  clear hr
  have HBD : Hid (us.length ≤ 1048576 ∧ (∀ y ∈ us, y.length ≤ 1048576) ∧ tot us ≤ 1048576 ∧ zs.length ≤ 1048576) := Lib.hid (by rw [← HRus.out, ← HRzs.out]; exact HBD0.out)
  clear HBD0
  go_enter Try.func9, Try.ntmps9
  go_wp2_with fail
  refine Calls.name ?_
  intro U1 hU1
  have hb : Below w.heap.size w U1 := by rw [hU1]; exact (((Below.refl _ _).alloc (Nat.le_refl _) _).alloc (by simp <;> omega) _)
  have zz : Hid (w.heap.size + 2 = U1.heap.size) := Lib.hid (by rw [hU1]; simp)
  have HX1 : Kept w.heap.size (w.heap.size + 1) (BoxK w.heap.size 61 #[.int .i64 v0, .slice A0 n0 c0]) U1 := by rw [hU1]; exact Kept.box ((Box.made_at _ _ _ rfl).over _)
  have HX2 : Kept (w.heap.size + 1) (w.heap.size + 1 + 1) (BoxK (w.heap.size + 1) 68 #[.int .i64 s1, .int .i64 t1, .int .i64 u1]) U1 := by rw [hU1]; exact Kept.box (Box.made_at _ _ _ (by simp <;> omega))
  replace HA0 := HA0.below hb
  replace HB := Lib.hid (below_step HB.out hb)
  clear hb
  have Z1 := zz; clear zz
  clear hU1
  refine (szWheel_any q0 lo0 hi0 A0 n0 c0 ys0 v0 (1048576) _ HA0.sl HA0.le hn0 HMX0.out (by omega) (by omega)).mono ?_
  rw [HR0.out]
  rintro e w2 ⟨rfl, hb⟩
  have Z2 := Lib.hid hb.size
  replace HA0 := HA0.below hb
  replace HX1 := HX1.below hb
  replace HX2 := HX2.below hb
  replace HB := Lib.hid (below_step HB.out hb)
  clear hb
  have l2_0 := HX1.bx.lt
  have l2_1 := HX2.bx.lt
  go_wp2_with fail
  clear l2_0 l2_1
  have SB : Hid (∀ W, Hid (Below w2.heap.size w2 W) → (fun W => W.cell? ⟨w.heap.size, 0, none⟩ = some (.int .i64 v0) ∧ W.cell? ⟨w.heap.size, 1, none⟩ = some (.slice A0 n0 c0) ∧ W.cell? ⟨w.heap.size + 1, 0, none⟩ = some (.int .i64 s1) ∧ W.cell? ⟨w.heap.size + 1, 1, none⟩ = some (.int .i64 t1) ∧ W.cell? ⟨w.heap.size + 1, 2, none⟩ = some (.int .i64 u1)) W) := fun W h => ⟨(HX1.below h.out).look 0, (HX1.below h.out).look 1, (HX2.below h.out).look 0, (HX2.below h.out).look 1, (HX2.below h.out).look 2⟩
  have V0 : Hid (Below w2.heap.size w2 w2.drew) := (Below.refl _ _).drew
  have VA0 : ∀ o, Hid (Below w2.heap.size w2 (w2.alloc o).drew) := fun o => ((Below.refl _ _).alloc (Nat.le_refl _) o).drew
  go_upto_region 5 with (fail)
  go_cut [6] (fun s6 wx => ∃ g O j b E m d lo hi, s6 = .pointer (some ⟨g, 0, none⟩) ∧ Hid (w2.heap.size ≤ g) ∧ Kept g (g + 1) (BoxK g 31 #[.int .i64 r, .int .i64 x, .slice O j b, .slice E m d]) wx ∧ Hid (Below w2.heap.size w2 wx) ∧ Hid (w2.heap.size ≤ lo ∧ (g < lo ∨ hi ≤ g)) ∧ Kept lo hi (ResK Rep.timer lo hi O j us E m zs) wx)
  case first =>
    have VN0 : ∀ o, Hid (Below w2.heap.size w2 (w2.alloc o).drew) := VA0
    go_region_held3 (fun W => W.cell? ⟨w.heap.size, 0, none⟩ = some (.int .i64 v0) ∧ W.cell? ⟨w.heap.size, 1, none⟩ = some (.slice A0 n0 c0) ∧ W.cell? ⟨w.heap.size + 1, 0, none⟩ = some (.int .i64 s1) ∧ W.cell? ⟨w.heap.size + 1, 1, none⟩ = some (.int .i64 t1) ∧ W.cell? ⟨w.heap.size + 1, 2, none⟩ = some (.int .i64 u1)) (first | (with_reducible exact SB.out _ V0) | (with_reducible exact SB.out _ (VA0 _)) | (with_reducible exact SB.out _ V1) | (with_reducible exact SB.out _ (VA1 _)) | (with_reducible exact SB.out _ V2) | (with_reducible exact SB.out _ (VA2 _)) | (with_reducible exact SB.out _ V3) | (with_reducible exact SB.out _ (VA3 _)) | (with_reducible exact SB.out _ (VS _ (by first | exact Nat.le_refl _ | assumption) _ _ _ _)))
      (first
        | (go_at_call 44; ((with_reducible refine (toWheel_any q0 lo0 hi0 A0 n0 c0 ys0 v0 _ (HA0.below V0.out).sl (HA0.below V0.out).le hN0 HM0.out).mono ?_); rintro e u1_0 ⟨Ps0, rfl, hk, hb⟩; have V1 := Lib.hid (below_step V0.out hb); (try replace HW := HW.below hb); have VN1 : ∀ o, Hid (Below u1_0.heap.size u1_0 (u1_0.alloc o)) := (fun o => (Below.refl _ _).alloc (Nat.le_refl _) o); have VA1 : ∀ o, Hid (Below w2.heap.size w2 (u1_0.alloc o)) := (fun o => Below.alloc V1.out V1.out.size o); have VQ1 := V1.out.size; clear hb; have HS0 := hk; clear hk))
        | (go_at_call 44; ((with_reducible refine (toWheel_any q0 lo0 hi0 A0 n0 c0 ys0 v0 _ (HA0.below (VA0 _).out).sl (HA0.below (VA0 _).out).le hN0 HM0.out).mono ?_); rintro e u1_0 ⟨Ps0, rfl, hk, hb⟩; have V1 := Lib.hid (below_step (VA0 _).out hb); have HW := ((Kept.box (show Box ((w2.alloc (.cells #[.int .i64 0, .int .i64 0, .slice none 0 0, .slice none 0 0] 31)).drew) w2.heap.size 31 #[.int .i64 0, .int .i64 0, .slice none 0 0, .slice none 0 0] from Box.made _ _ _))).below hb; have VN1 : ∀ o, Hid (Below u1_0.heap.size u1_0 (u1_0.alloc o)) := (fun o => (Below.refl _ _).alloc (Nat.le_refl _) o); have VA1 : ∀ o, Hid (Below w2.heap.size w2 (u1_0.alloc o)) := (fun o => Below.alloc V1.out V1.out.size o); have VQ1 := V1.out.size; clear hb; have HS0 := hk; clear hk))
        | (go_at_call 51; ((with_reducible refine (toKey_any s1 t1 u1 _).mono ?_); rintro e u1_1 ⟨rfl, hb⟩; have V2 := Lib.hid (below_step V1.out hb); replace HS0 := HS0.below hb; (try replace HW := HW.below hb); have VN2 : ∀ o, Hid (Below u1_1.heap.size u1_1 (u1_1.alloc o)) := (fun o => (Below.refl _ _).alloc (Nat.le_refl _) o); have VA2 : ∀ o, Hid (Below w2.heap.size w2 (u1_1.alloc o)) := (fun o => Below.alloc V2.out V2.out.size o); have VQ2 := V2.out.size; clear hb))
        | (go_at_call 51; ((with_reducible refine (toKey_any s1 t1 u1 _).mono ?_); rintro e u1_1 ⟨rfl, hb⟩; have V2 := Lib.hid (below_step (VA1 _).out hb); replace HS0 := (HS0.below (VN1 _).out).below hb; have HW := ((Kept.box (show Box ((u1_0.alloc (.cells #[.int .i64 0, .int .i64 0, .slice none 0 0, .slice none 0 0] 31))) u1_0.heap.size 31 #[.int .i64 0, .int .i64 0, .slice none 0 0, .slice none 0 0] from Box.made _ _ _))).below hb; have VN2 : ∀ o, Hid (Below u1_1.heap.size u1_1 (u1_1.alloc o)) := (fun o => (Below.refl _ _).alloc (Nat.le_refl _) o); have VA2 : ∀ o, Hid (Below w2.heap.size w2 (u1_1.alloc o)) := (fun o => Below.alloc V2.out V2.out.size o); have VQ2 := V2.out.size; clear hb))
        | (go_at_call 25; (try have HGL := HW.le); ((with_reducible refine (specDropTimer_any v0 ⟨s1, t1, u1, 0⟩ false _ _ Ps0 n0 n0 ys0 _ HS0.rows HS0.le hN0 HT0.out).mono ?_); rw [HRr.out, HRx.out, HRus.out, HRzs.out]; rintro e u1_2 ⟨O0, j0, b0, E0, m0, d0, rfl, hk, hb⟩; have V3 := Lib.hid (below_step V2.out hb); replace HS0 := HS0.below hb; (try replace HW := HW.below hb); have VN3 : ∀ o, Hid (Below u1_2.heap.size u1_2 (u1_2.alloc o)) := (fun o => (Below.refl _ _).alloc (Nat.le_refl _) o); have VA3 : ∀ o, Hid (Below w2.heap.size w2 (u1_2.alloc o)) := (fun o => Below.alloc V3.out V3.out.size o); have VQ3 := V3.out.size; clear hb; have HOk := hk; clear hk; have VS : ∀ (g : Nat) (hg : w2.heap.size ≤ g) (v0 v1 v2 v3 : Value), Hid (Below w2.heap.size w2 ((((u1_2.setCell ⟨g, 0, none⟩ v0).setCell ⟨g, 1, none⟩ v1).setCell ⟨g, 2, none⟩ v2).setCell ⟨g, 3, none⟩ v3)) := (fun g hg v0 v1 v2 v3 => (Below.setCell (p := ⟨g, 3, none⟩) (Below.setCell (p := ⟨g, 2, none⟩) (Below.setCell (p := ⟨g, 1, none⟩) (Below.setCell (p := ⟨g, 0, none⟩) V3.out hg v0) hg v1) hg v2) hg v3)); (try (have hk0 := HW.look 0; have hf0 := HW.free 0)); (try (have hk1 := HW.look 1; have hf1 := HW.free 1)); (try (have hk2 := HW.look 2; have hf2 := HW.free 2)); (try (have hk3 := HW.look 3; have hf3 := HW.free 3))))
        | (go_at_call 25; have HGL := ((Kept.box (show Box ((u1_1.alloc (.cells #[.int .i64 0, .int .i64 0, .slice none 0 0, .slice none 0 0] 31))) u1_1.heap.size 31 #[.int .i64 0, .int .i64 0, .slice none 0 0, .slice none 0 0] from Box.made _ _ _))).le; ((with_reducible refine (specDropTimer_any v0 ⟨s1, t1, u1, 0⟩ false _ _ Ps0 n0 n0 ys0 _ (HS0.below (VN2 _).out).rows (HS0.below (VN2 _).out).le hN0 HT0.out).mono ?_); rw [HRr.out, HRx.out, HRus.out, HRzs.out]; rintro e u1_2 ⟨O0, j0, b0, E0, m0, d0, rfl, hk, hb⟩; have V3 := Lib.hid (below_step (VA2 _).out hb); replace HS0 := (HS0.below (VN2 _).out).below hb; have HW := ((Kept.box (show Box ((u1_1.alloc (.cells #[.int .i64 0, .int .i64 0, .slice none 0 0, .slice none 0 0] 31))) u1_1.heap.size 31 #[.int .i64 0, .int .i64 0, .slice none 0 0, .slice none 0 0] from Box.made _ _ _))).below hb; have VN3 : ∀ o, Hid (Below u1_2.heap.size u1_2 (u1_2.alloc o)) := (fun o => (Below.refl _ _).alloc (Nat.le_refl _) o); have VA3 : ∀ o, Hid (Below w2.heap.size w2 (u1_2.alloc o)) := (fun o => Below.alloc V3.out V3.out.size o); have VQ3 := V3.out.size; clear hb; have HOk := hk; clear hk; have VS : ∀ (g : Nat) (hg : w2.heap.size ≤ g) (v0 v1 v2 v3 : Value), Hid (Below w2.heap.size w2 ((((u1_2.setCell ⟨g, 0, none⟩ v0).setCell ⟨g, 1, none⟩ v1).setCell ⟨g, 2, none⟩ v2).setCell ⟨g, 3, none⟩ v3)) := (fun g hg v0 v1 v2 v3 => (Below.setCell (p := ⟨g, 3, none⟩) (Below.setCell (p := ⟨g, 2, none⟩) (Below.setCell (p := ⟨g, 1, none⟩) (Below.setCell (p := ⟨g, 0, none⟩) V3.out hg v0) hg v1) hg v2) hg v3)); (try (have hk0 := HW.look 0; have hf0 := HW.free 0)); (try (have hk1 := HW.look 1; have hf1 := HW.free 1)); (try (have hk2 := HW.look 2; have hf2 := HW.free 2)); (try (have hk3 := HW.look 3; have hf3 := HW.free 3)))))
    all_goals (go_wp2_with fail; go_meet; first | exact ⟨_, O0, j0, b0, E0, m0, d0, _, _, rfl, Lib.hid (by first | exact Nat.le_refl _ | assumption), Kept.box ((((HW.bx.puts 0 (.int .i64 r) (cs' := #[.int .i64 r, .int .i64 0, .slice none 0 0, .slice none 0 0]) rfl).puts 1 (.int .i64 x) (cs' := #[.int .i64 r, .int .i64 x, .slice none 0 0, .slice none 0 0]) rfl).puts 2 (.slice O0 j0 b0) (cs' := #[.int .i64 r, .int .i64 x, .slice O0 j0 b0, .slice none 0 0]) rfl).puts 3 (.slice E0 m0 d0) (cs' := #[.int .i64 r, .int .i64 x, .slice O0 j0 b0, .slice E0 m0 d0]) rfl), VS _ (by first | exact Nat.le_refl _ | assumption) _ _ _ _, Lib.hid ⟨(by first | exact V2.out.size | exact (VA2 _).out.size), .inl HGL⟩, HOk.only (only4 _ _ _ _ _ _) (.inr HGL)⟩ | exact ⟨_, O0, j0, b0, E0, m0, d0, _, _, rfl, Lib.hid VQ3, Kept.box (Box.made _ _ _), VA3 _, Lib.hid ⟨(by first | exact V2.out.size | exact (VA2 _).out.size), .inr (Nat.le_refl _)⟩, HOk.below (VN3 _).out⟩)
  obtain ⟨g1, O0, j0, b0, E0, m0, d0, ol0, oh0, rfl, hg, HW1, HC, HLH, HO0⟩ := hcut
  obtain ⟨wx1, rfl⟩ : ∃ W : World, W = wc := ⟨_, rfl⟩
  have hb := HC.out
  clear HC SB V0 VA0
  have Z3 := hg; clear hg
  have Z4 := HLH; clear HLH
  have Z5 := Lib.hid hb.size
  have Z6 := Lib.hid HW1.le
  have Z7 := Lib.hid HO0.le
  replace HA0 := HA0.below hb
  replace HX1 := HX1.below hb
  replace HX2 := HX2.below hb
  replace HB := Lib.hid (below_step HB.out hb)
  clear hb
  have HQ : Hid (us.length = j0 ∧ zs.length = m0) := Lib.hid ⟨HO0.res_rows.1, HO0.res_due.1⟩
  have hj0 : j0 ≤ 1048576 := by have := HQ.out.1; have := HBD.out.1; omega
  have hm0 : m0 ≤ 1048576 := by have := HQ.out.2; have := HBD.out.2.2.2; omega
  have c3_0 := HX1.look 0
  have c3_1 := HX1.look 1
  have l3_0 := HX1.bx.lt
  have l3_1 := HX2.bx.lt
  have l3_2 := HW1.bx.lt
  go_wp2_with fail
  clear c3_0 c3_1 l3_0 l3_1 l3_2
  refine (toWheel_any q0 lo0 hi0 A0 n0 c0 ys0 v0 _ HA0.sl HA0.le hN0 HM0.out).mono ?_
  rintro e w3 ⟨Px0, rfl, hk, hb⟩
  have Z8 := Lib.hid hb.size
  replace HA0 := HA0.below hb
  replace HX1 := HX1.below hb
  replace HX2 := HX2.below hb
  replace HO0 := HO0.below hb
  replace HW1 := HW1.below hb
  replace HB := Lib.hid (below_step HB.out hb)
  clear hb
  have HG0 := hk; clear hk
  have l4_0 := HX1.bx.lt
  have l4_1 := HX2.bx.lt
  have l4_2 := HW1.bx.lt
  go_wp2_with fail
  clear l4_0 l4_1 l4_2
  refine Code.wp_name ?_
  intro U4 hU4
  have hb : Below w3.heap.size w3 U4 := by rw [hU4]; exact ((Below.refl _ _).alloc (Nat.le_refl _) _)
  have zz : Hid (w3.heap.size + 1 = U4.heap.size) := Lib.hid (by rw [hU4]; simp)
  have HX3 : Kept w3.heap.size (w3.heap.size + 1) (BoxK w3.heap.size 26 #[.int .i64 v0, .slice Px0 n0 n0]) U4 := by rw [hU4]; exact Kept.box (Box.made_at _ _ _ rfl)
  replace HA0 := HA0.below hb
  replace HX1 := HX1.below hb
  replace HX2 := HX2.below hb
  replace HO0 := HO0.below hb
  replace HW1 := HW1.below hb
  replace HG0 := HG0.below hb
  replace HB := Lib.hid (below_step HB.out hb)
  clear hb
  have Z9 := zz; clear zz
  clear hU4
  have SB : Hid (∀ W, Hid (Below U4.heap.size U4 W) → (fun W => W.cell? ⟨w3.heap.size, 0, none⟩ = some (.int .i64 v0) ∧ W.cell? ⟨w3.heap.size, 1, none⟩ = some (.slice Px0 n0 n0) ∧ W.cell? ⟨w.heap.size + 1, 0, none⟩ = some (.int .i64 s1) ∧ W.cell? ⟨w.heap.size + 1, 1, none⟩ = some (.int .i64 t1) ∧ W.cell? ⟨w.heap.size + 1, 2, none⟩ = some (.int .i64 u1)) W) := fun W h => ⟨(HX3.below h.out).look 0, (HX3.below h.out).look 1, (HX2.below h.out).look 0, (HX2.below h.out).look 1, (HX2.below h.out).look 2⟩
  have V0 : Hid (Below U4.heap.size U4 U4.drew) := (Below.refl _ _).drew
  have VA0 : ∀ o, Hid (Below U4.heap.size U4 (U4.alloc o).drew) := fun o => ((Below.refl _ _).alloc (Nat.le_refl _) o).drew
  go_upto_region 7 with (fail)
  go_cut [8] (fun s6 wx => ∃ g O j b E m d lo hi, s6 = .pointer (some ⟨g, 0, none⟩) ∧ Hid (U4.heap.size ≤ g) ∧ Kept g (g + 1) (BoxK g 31 #[.int .i64 r, .int .i64 x, .slice O j b, .slice E m d]) wx ∧ Hid (Below U4.heap.size U4 wx) ∧ Hid (U4.heap.size ≤ lo ∧ (g < lo ∨ hi ≤ g)) ∧ Kept lo hi (ResK Rep.timer lo hi O j us E m zs) wx)
  case first =>
    have VN0 : ∀ o, Hid (Below U4.heap.size U4 (U4.alloc o).drew) := VA0
    go_region_held3 (fun W => W.cell? ⟨w3.heap.size, 0, none⟩ = some (.int .i64 v0) ∧ W.cell? ⟨w3.heap.size, 1, none⟩ = some (.slice Px0 n0 n0) ∧ W.cell? ⟨w.heap.size + 1, 0, none⟩ = some (.int .i64 s1) ∧ W.cell? ⟨w.heap.size + 1, 1, none⟩ = some (.int .i64 t1) ∧ W.cell? ⟨w.heap.size + 1, 2, none⟩ = some (.int .i64 u1)) (first | (with_reducible exact SB.out _ V0) | (with_reducible exact SB.out _ (VA0 _)) | (with_reducible exact SB.out _ V1) | (with_reducible exact SB.out _ (VA1 _)) | (with_reducible exact SB.out _ V2) | (with_reducible exact SB.out _ (VA2 _)) | (with_reducible exact SB.out _ (VS _ (by first | exact Nat.le_refl _ | assumption) _ _ _ _)))
      (first
        | (go_at_call 51; ((with_reducible refine (toKey_any s1 t1 u1 _).mono ?_); rintro e u2_0 ⟨rfl, hb⟩; have V1 := Lib.hid (below_step V0.out hb); (try replace HW := HW.below hb); have VN1 : ∀ o, Hid (Below u2_0.heap.size u2_0 (u2_0.alloc o)) := (fun o => (Below.refl _ _).alloc (Nat.le_refl _) o); have VA1 : ∀ o, Hid (Below U4.heap.size U4 (u2_0.alloc o)) := (fun o => Below.alloc V1.out V1.out.size o); have VQ1 := V1.out.size; clear hb))
        | (go_at_call 51; ((with_reducible refine (toKey_any s1 t1 u1 _).mono ?_); rintro e u2_0 ⟨rfl, hb⟩; have V1 := Lib.hid (below_step (VA0 _).out hb); have HW := ((Kept.box (show Box ((U4.alloc (.cells #[.int .i64 0, .int .i64 0, .slice none 0 0, .slice none 0 0] 31)).drew) U4.heap.size 31 #[.int .i64 0, .int .i64 0, .slice none 0 0, .slice none 0 0] from Box.made _ _ _))).below hb; have VN1 : ∀ o, Hid (Below u2_0.heap.size u2_0 (u2_0.alloc o)) := (fun o => (Below.refl _ _).alloc (Nat.le_refl _) o); have VA1 : ∀ o, Hid (Below U4.heap.size U4 (u2_0.alloc o)) := (fun o => Below.alloc V1.out V1.out.size o); have VQ1 := V1.out.size; clear hb))
        | (go_at_call 20; (try have HGL := HW.le); ((with_reducible refine (dropTimer_any v0 ⟨s1, t1, u1, 0⟩ false _ _ Px0 n0 n0 ys0 _ (HG0.below V1.out).rows (HG0.below V1.out).le hN0 HM0.out (Nat.le_refl _)).mono ?_); rw [HRr.out, HRx.out, HRus.out, HRzs.out]; rintro e u2_1 ⟨O1, j1, b1, E1, m1, d1, rfl, hk, hb⟩; have V2 := Lib.hid (below_step V1.out hb); (try replace HW := HW.below hb); have VN2 : ∀ o, Hid (Below u2_1.heap.size u2_1 (u2_1.alloc o)) := (fun o => (Below.refl _ _).alloc (Nat.le_refl _) o); have VA2 : ∀ o, Hid (Below U4.heap.size U4 (u2_1.alloc o)) := (fun o => Below.alloc V2.out V2.out.size o); have VQ2 := V2.out.size; clear hb; have HOk := hk; clear hk; have VS : ∀ (g : Nat) (hg : U4.heap.size ≤ g) (v0 v1 v2 v3 : Value), Hid (Below U4.heap.size U4 ((((u2_1.setCell ⟨g, 0, none⟩ v0).setCell ⟨g, 1, none⟩ v1).setCell ⟨g, 2, none⟩ v2).setCell ⟨g, 3, none⟩ v3)) := (fun g hg v0 v1 v2 v3 => (Below.setCell (p := ⟨g, 3, none⟩) (Below.setCell (p := ⟨g, 2, none⟩) (Below.setCell (p := ⟨g, 1, none⟩) (Below.setCell (p := ⟨g, 0, none⟩) V2.out hg v0) hg v1) hg v2) hg v3)); (try (have hk0 := HW.look 0; have hf0 := HW.free 0)); (try (have hk1 := HW.look 1; have hf1 := HW.free 1)); (try (have hk2 := HW.look 2; have hf2 := HW.free 2)); (try (have hk3 := HW.look 3; have hf3 := HW.free 3))))
        | (go_at_call 20; have HGL := ((Kept.box (show Box ((u2_0.alloc (.cells #[.int .i64 0, .int .i64 0, .slice none 0 0, .slice none 0 0] 31))) u2_0.heap.size 31 #[.int .i64 0, .int .i64 0, .slice none 0 0, .slice none 0 0] from Box.made _ _ _))).le; ((with_reducible refine (dropTimer_any v0 ⟨s1, t1, u1, 0⟩ false _ _ Px0 n0 n0 ys0 _ (HG0.below (VA1 _).out).rows (HG0.below (VA1 _).out).le hN0 HM0.out (Nat.le_refl _)).mono ?_); rw [HRr.out, HRx.out, HRus.out, HRzs.out]; rintro e u2_1 ⟨O1, j1, b1, E1, m1, d1, rfl, hk, hb⟩; have V2 := Lib.hid (below_step (VA1 _).out hb); have HW := ((Kept.box (show Box ((u2_0.alloc (.cells #[.int .i64 0, .int .i64 0, .slice none 0 0, .slice none 0 0] 31))) u2_0.heap.size 31 #[.int .i64 0, .int .i64 0, .slice none 0 0, .slice none 0 0] from Box.made _ _ _))).below hb; have VN2 : ∀ o, Hid (Below u2_1.heap.size u2_1 (u2_1.alloc o)) := (fun o => (Below.refl _ _).alloc (Nat.le_refl _) o); have VA2 : ∀ o, Hid (Below U4.heap.size U4 (u2_1.alloc o)) := (fun o => Below.alloc V2.out V2.out.size o); have VQ2 := V2.out.size; clear hb; have HOk := hk; clear hk; have VS : ∀ (g : Nat) (hg : U4.heap.size ≤ g) (v0 v1 v2 v3 : Value), Hid (Below U4.heap.size U4 ((((u2_1.setCell ⟨g, 0, none⟩ v0).setCell ⟨g, 1, none⟩ v1).setCell ⟨g, 2, none⟩ v2).setCell ⟨g, 3, none⟩ v3)) := (fun g hg v0 v1 v2 v3 => (Below.setCell (p := ⟨g, 3, none⟩) (Below.setCell (p := ⟨g, 2, none⟩) (Below.setCell (p := ⟨g, 1, none⟩) (Below.setCell (p := ⟨g, 0, none⟩) V2.out hg v0) hg v1) hg v2) hg v3)); (try (have hk0 := HW.look 0; have hf0 := HW.free 0)); (try (have hk1 := HW.look 1; have hf1 := HW.free 1)); (try (have hk2 := HW.look 2; have hf2 := HW.free 2)); (try (have hk3 := HW.look 3; have hf3 := HW.free 3)))))
    all_goals (go_wp2_with fail; go_meet; first | exact ⟨_, O1, j1, b1, E1, m1, d1, _, _, rfl, Lib.hid (by first | exact Nat.le_refl _ | assumption), Kept.box ((((HW.bx.puts 0 (.int .i64 r) (cs' := #[.int .i64 r, .int .i64 0, .slice none 0 0, .slice none 0 0]) rfl).puts 1 (.int .i64 x) (cs' := #[.int .i64 r, .int .i64 x, .slice none 0 0, .slice none 0 0]) rfl).puts 2 (.slice O1 j1 b1) (cs' := #[.int .i64 r, .int .i64 x, .slice O1 j1 b1, .slice none 0 0]) rfl).puts 3 (.slice E1 m1 d1) (cs' := #[.int .i64 r, .int .i64 x, .slice O1 j1 b1, .slice E1 m1 d1]) rfl), VS _ (by first | exact Nat.le_refl _ | assumption) _ _ _ _, Lib.hid ⟨(by first | exact V1.out.size | exact (VA1 _).out.size), .inl HGL⟩, HOk.only (only4 _ _ _ _ _ _) (.inr HGL)⟩ | exact ⟨_, O1, j1, b1, E1, m1, d1, _, _, rfl, Lib.hid VQ2, Kept.box (Box.made _ _ _), VA2 _, Lib.hid ⟨(by first | exact V1.out.size | exact (VA1 _).out.size), .inr (Nat.le_refl _)⟩, HOk.below (VN2 _).out⟩)
  obtain ⟨g2, O1, j1, b1, E1, m1, d1, ol1, oh1, rfl, hg, HW2, HC, HLH, HO1⟩ := hcut
  obtain ⟨wx2, rfl⟩ : ∃ W : World, W = wc := ⟨_, rfl⟩
  have hb := HC.out
  clear HC SB V0 VA0
  have Z10 := hg; clear hg
  have Z11 := HLH; clear HLH
  have Z12 := Lib.hid hb.size
  have Z13 := Lib.hid HW2.le
  have Z14 := Lib.hid HO1.le
  replace HA0 := HA0.below hb
  replace HX1 := HX1.below hb
  replace HX2 := HX2.below hb
  replace HO0 := HO0.below hb
  replace HW1 := HW1.below hb
  replace HG0 := HG0.below hb
  replace HX3 := HX3.below hb
  replace HB := Lib.hid (below_step HB.out hb)
  clear hb
  obtain rfl : j0 = j1 := by have := HO1.res_rows.1; have := HO0.res_rows.1; omega
  obtain rfl : m0 = m1 := by have := HO1.res_due.1; have := HO0.res_due.1; omega
  have c5_0 := HW1.look 0
  have c5_1 := HW1.look 1
  have c5_2 := HW1.look 2
  have c5_3 := HW1.look 3
  have c5_4 := HW2.look 0
  have c5_5 := HW2.look 1
  have c5_6 := HW2.look 2
  have c5_7 := HW2.look 3
  have l5_0 := HX1.bx.lt
  have l5_1 := HX2.bx.lt
  have l5_2 := HW1.bx.lt
  have l5_3 := HX3.bx.lt
  have l5_4 := HW2.bx.lt
  go_wp2_with fail
  clear c5_0 c5_1 c5_2 c5_3 c5_4 c5_5 c5_6 c5_7 l5_0 l5_1 l5_2 l5_3 l5_4
  refine (eqWheelResult_yes false false _ _ _ _ O1 O0 j0 b1 b0 us _ _ _ _ E1 E0 m0 d1 d0 zs r x _ HO1.res_rows HO0.res_rows HO1.le HO0.le hj0 HBD.out.2.1 (Rep.Sl.unq HO1.res_due) (Rep.Sl.unq HO0.res_due) HO1.le HO0.le hm0).mono ?_
  rintro e w5 ⟨rfl, hb⟩
  have Z15 := Lib.hid hb.size
  replace HA0 := HA0.below hb
  replace HX1 := HX1.below hb
  replace HX2 := HX2.below hb
  replace HO0 := HO0.below hb
  replace HW1 := HW1.below hb
  replace HG0 := HG0.below hb
  replace HX3 := HX3.below hb
  replace HO1 := HO1.below hb
  replace HW2 := HW2.below hb
  replace HB := Lib.hid (below_step HB.out hb)
  clear hb
  have l6_0 := HX1.bx.lt
  have l6_1 := HX2.bx.lt
  have l6_2 := HW1.bx.lt
  have l6_3 := HX3.bx.lt
  have l6_4 := HW2.bx.lt
  go_wp2
  clear l6_0 l6_1 l6_2 l6_3 l6_4
  have SB : Hid (∀ W, Hid (Below w5.heap.size w5 W) → (fun W => W.cell? ⟨w.heap.size, 0, none⟩ = some (.int .i64 v0) ∧ W.cell? ⟨w.heap.size, 1, none⟩ = some (.slice A0 n0 c0) ∧ W.cell? ⟨w3.heap.size, 0, none⟩ = some (.int .i64 v0) ∧ W.cell? ⟨w3.heap.size, 1, none⟩ = some (.slice Px0 n0 n0)) W) := fun W h => ⟨(HX1.below h.out).look 0, (HX1.below h.out).look 1, (HX3.below h.out).look 0, (HX3.below h.out).look 1⟩
  have V0 : Hid (Below w5.heap.size w5 w5.drew) := (Below.refl _ _).drew
  go_region_held3 (fun W => W.cell? ⟨w.heap.size, 0, none⟩ = some (.int .i64 v0) ∧ W.cell? ⟨w.heap.size, 1, none⟩ = some (.slice A0 n0 c0) ∧ W.cell? ⟨w3.heap.size, 0, none⟩ = some (.int .i64 v0) ∧ W.cell? ⟨w3.heap.size, 1, none⟩ = some (.slice Px0 n0 n0)) (exact SB.out _ (by assumption))
    (first | (go_at_call 44; ((with_reducible refine (toWheel_any q0 lo0 hi0 A0 n0 c0 ys0 v0 _ (HA0.below V0.out).sl (HA0.below V0.out).le hN0 HM0.out).mono ?_); rintro e u3_0 ⟨Pz0, rfl, hk, hb⟩; have V1 := Lib.hid (below_step V0.out hb); clear hb; have HZ0 := hk; clear hk)) | (go_at_call 45; ((with_reducible refine (eqWheel_yes false false _ _ _ _ Px0 _ n0 n0 n0 ys0 v0 _ (HG0.below V1.out).rows HZ0.rows (HG0.below V1.out).le HZ0.le hN0 HM0.out).mono ?_); rintro e u3_1 ⟨rfl, hb⟩; have V2 := Lib.hid (below_step V1.out hb); clear hb)))
  have hb := V2.out
  clear SB V0 V1 V2
  have Z16 := Lib.hid hb.size
  replace HA0 := HA0.below hb
  replace HX1 := HX1.below hb
  replace HX2 := HX2.below hb
  replace HO0 := HO0.below hb
  replace HW1 := HW1.below hb
  replace HG0 := HG0.below hb
  replace HX3 := HX3.below hb
  replace HO1 := HO1.below hb
  replace HW2 := HW2.below hb
  replace HB := Lib.hid (below_step HB.out hb)
  clear hb
  clear HZ0
  have c7_0 := HX3.look 0
  have c7_1 := HX3.look 1
  have l7_0 := HX1.bx.lt
  have l7_1 := HX2.bx.lt
  have l7_2 := HW1.bx.lt
  have l7_3 := HX3.bx.lt
  have l7_4 := HW2.bx.lt
  go_wp2_with fail
  clear c7_0 c7_1 l7_0 l7_1 l7_2 l7_3 l7_4
  obtain ⟨bsw, hfw, hndw, hinw⟩ := HG0.out
  have HLW := HG0.le
  refine (markWheel_F Px0 n0 n0 ys0 bsw v0 1 _ hfw hndw (fun b hb => Nat.lt_of_lt_of_le (hinw b hb).2 HLW) hN0 HT0.out (by omega) (by omega)).mono ?_
  rintro e w6 ⟨rfl, _, how⟩
  have ho := how.only hinw
  have Z17 := Lib.hid ho.size
  replace HA0 := HA0.only ho (by have := Z1.out; have := Z2.out; have := Z3.out; have := Z4.out; have := Z5.out; have := Z6.out; have := Z7.out; have := Z8.out; have := Z9.out; have := Z10.out; have := Z11.out; have := Z12.out; have := Z13.out; have := Z14.out; have := Z15.out; have := Z16.out; have := Z17.out; omega)
  replace HX1 := HX1.only ho (by have := Z1.out; have := Z2.out; have := Z3.out; have := Z4.out; have := Z5.out; have := Z6.out; have := Z7.out; have := Z8.out; have := Z9.out; have := Z10.out; have := Z11.out; have := Z12.out; have := Z13.out; have := Z14.out; have := Z15.out; have := Z16.out; have := Z17.out; omega)
  replace HX2 := HX2.only ho (by have := Z1.out; have := Z2.out; have := Z3.out; have := Z4.out; have := Z5.out; have := Z6.out; have := Z7.out; have := Z8.out; have := Z9.out; have := Z10.out; have := Z11.out; have := Z12.out; have := Z13.out; have := Z14.out; have := Z15.out; have := Z16.out; have := Z17.out; omega)
  replace HO0 := HO0.only ho (by have := Z1.out; have := Z2.out; have := Z3.out; have := Z4.out; have := Z5.out; have := Z6.out; have := Z7.out; have := Z8.out; have := Z9.out; have := Z10.out; have := Z11.out; have := Z12.out; have := Z13.out; have := Z14.out; have := Z15.out; have := Z16.out; have := Z17.out; omega)
  replace HW1 := HW1.only ho (by have := Z1.out; have := Z2.out; have := Z3.out; have := Z4.out; have := Z5.out; have := Z6.out; have := Z7.out; have := Z8.out; have := Z9.out; have := Z10.out; have := Z11.out; have := Z12.out; have := Z13.out; have := Z14.out; have := Z15.out; have := Z16.out; have := Z17.out; omega)
  replace HX3 := HX3.only ho (by have := Z1.out; have := Z2.out; have := Z3.out; have := Z4.out; have := Z5.out; have := Z6.out; have := Z7.out; have := Z8.out; have := Z9.out; have := Z10.out; have := Z11.out; have := Z12.out; have := Z13.out; have := Z14.out; have := Z15.out; have := Z16.out; have := Z17.out; omega)
  replace HO1 := HO1.only ho (by have := Z1.out; have := Z2.out; have := Z3.out; have := Z4.out; have := Z5.out; have := Z6.out; have := Z7.out; have := Z8.out; have := Z9.out; have := Z10.out; have := Z11.out; have := Z12.out; have := Z13.out; have := Z14.out; have := Z15.out; have := Z16.out; have := Z17.out; omega)
  replace HW2 := HW2.only ho (by have := Z1.out; have := Z2.out; have := Z3.out; have := Z4.out; have := Z5.out; have := Z6.out; have := Z7.out; have := Z8.out; have := Z9.out; have := Z10.out; have := Z11.out; have := Z12.out; have := Z13.out; have := Z14.out; have := Z15.out; have := Z16.out; have := Z17.out; omega)
  replace HB := Lib.hid (Below.only HB.out ho (by have := Z1.out; have := Z2.out; have := Z3.out; have := Z4.out; have := Z5.out; have := Z6.out; have := Z7.out; have := Z8.out; have := Z9.out; have := Z10.out; have := Z11.out; have := Z12.out; have := Z13.out; have := Z14.out; have := Z15.out; have := Z16.out; have := Z17.out; omega) HB.out.size)
  clear HG0
  clear ho how hfw hndw hinw HLW
  obtain ⟨tw, htw⟩ : ∃ t, tot ys0 = t := ⟨_, rfl⟩
  rw [htw]
  clear htw
  have hq0 : ¬ (1 + 4 * (tw : Int) < 0) := by omega
  have c8_0 := HW1.look 0
  have c8_1 := HW1.look 1
  have c8_2 := HW1.look 2
  have c8_3 := HW1.look 3
  have c8_4 := HW2.look 0
  have c8_5 := HW2.look 1
  have c8_6 := HW2.look 2
  have c8_7 := HW2.look 3
  have l8_0 := HX1.bx.lt
  have l8_1 := HX2.bx.lt
  have l8_2 := HW1.bx.lt
  have l8_3 := HX3.bx.lt
  have l8_4 := HW2.bx.lt
  go_wp2_with fail
  clear c8_0 c8_1 c8_2 c8_3 c8_4 c8_5 c8_6 c8_7 l8_0 l8_1 l8_2 l8_3 l8_4
  refine (eqWheelResult_yes false false _ _ _ _ O1 O0 j0 b1 b0 us _ _ _ _ E1 E0 m0 d1 d0 zs r x _ HO1.res_rows HO0.res_rows HO1.le HO0.le hj0 HBD.out.2.1 (Rep.Sl.unq HO1.res_due) (Rep.Sl.unq HO0.res_due) HO1.le HO0.le hm0).mono ?_
  rintro e w7 ⟨rfl, hb⟩
  have Z18 := Lib.hid hb.size
  replace HA0 := HA0.below hb
  replace HX1 := HX1.below hb
  replace HX2 := HX2.below hb
  replace HO0 := HO0.below hb
  replace HW1 := HW1.below hb
  replace HX3 := HX3.below hb
  replace HO1 := HO1.below hb
  replace HW2 := HW2.below hb
  replace HB := Lib.hid (below_step HB.out hb)
  clear hb
  have c9_0 := HW2.look 0
  have c9_1 := HW2.look 1
  have c9_2 := HW2.look 2
  have c9_3 := HW2.look 3
  have l9_0 := HX1.bx.lt
  have l9_1 := HX2.bx.lt
  have l9_2 := HW1.bx.lt
  have l9_3 := HX3.bx.lt
  have l9_4 := HW2.bx.lt
  go_wp2_with fail
  clear c9_0 c9_1 c9_2 c9_3 l9_0 l9_1 l9_2 l9_3 l9_4
  obtain ⟨bs, cs, hfr, hfs, hnd, hin⟩ := HO1.out
  have HLE := HO1.le
  refine (markWheelResult_F O1 j0 b1 us bs cs E1 m0 d1 zs r x 1 _ hfr hfs hnd (fun b hb => Nat.lt_of_lt_of_le (hin b hb).2 HLE) hj0 HBD.out.2.2.1 hm0 (by omega) (by omega)).mono ?_
  rintro e w8 ⟨rfl, ⟨vs1, hmk, hfr2⟩, hfs2, hob⟩
  have ho := hob.only hin
  have Z19 := Lib.hid ho.size
  replace HA0 := HA0.only ho (by have := Z1.out; have := Z2.out; have := Z3.out; have := Z4.out; have := Z5.out; have := Z6.out; have := Z7.out; have := Z8.out; have := Z9.out; have := Z10.out; have := Z11.out; have := Z12.out; have := Z13.out; have := Z14.out; have := Z15.out; have := Z16.out; have := Z17.out; have := Z18.out; have := Z19.out; omega)
  replace HX1 := HX1.only ho (by have := Z1.out; have := Z2.out; have := Z3.out; have := Z4.out; have := Z5.out; have := Z6.out; have := Z7.out; have := Z8.out; have := Z9.out; have := Z10.out; have := Z11.out; have := Z12.out; have := Z13.out; have := Z14.out; have := Z15.out; have := Z16.out; have := Z17.out; have := Z18.out; have := Z19.out; omega)
  replace HX2 := HX2.only ho (by have := Z1.out; have := Z2.out; have := Z3.out; have := Z4.out; have := Z5.out; have := Z6.out; have := Z7.out; have := Z8.out; have := Z9.out; have := Z10.out; have := Z11.out; have := Z12.out; have := Z13.out; have := Z14.out; have := Z15.out; have := Z16.out; have := Z17.out; have := Z18.out; have := Z19.out; omega)
  replace HO0 := HO0.only ho (by have := Z1.out; have := Z2.out; have := Z3.out; have := Z4.out; have := Z5.out; have := Z6.out; have := Z7.out; have := Z8.out; have := Z9.out; have := Z10.out; have := Z11.out; have := Z12.out; have := Z13.out; have := Z14.out; have := Z15.out; have := Z16.out; have := Z17.out; have := Z18.out; have := Z19.out; omega)
  replace HW1 := HW1.only ho (by have := Z1.out; have := Z2.out; have := Z3.out; have := Z4.out; have := Z5.out; have := Z6.out; have := Z7.out; have := Z8.out; have := Z9.out; have := Z10.out; have := Z11.out; have := Z12.out; have := Z13.out; have := Z14.out; have := Z15.out; have := Z16.out; have := Z17.out; have := Z18.out; have := Z19.out; omega)
  replace HX3 := HX3.only ho (by have := Z1.out; have := Z2.out; have := Z3.out; have := Z4.out; have := Z5.out; have := Z6.out; have := Z7.out; have := Z8.out; have := Z9.out; have := Z10.out; have := Z11.out; have := Z12.out; have := Z13.out; have := Z14.out; have := Z15.out; have := Z16.out; have := Z17.out; have := Z18.out; have := Z19.out; omega)
  replace HW2 := HW2.only ho (by have := Z1.out; have := Z2.out; have := Z3.out; have := Z4.out; have := Z5.out; have := Z6.out; have := Z7.out; have := Z8.out; have := Z9.out; have := Z10.out; have := Z11.out; have := Z12.out; have := Z13.out; have := Z14.out; have := Z15.out; have := Z16.out; have := Z17.out; have := Z18.out; have := Z19.out; omega)
  replace HB := Lib.hid (Below.only HB.out ho (by have := Z1.out; have := Z2.out; have := Z3.out; have := Z4.out; have := Z5.out; have := Z6.out; have := Z7.out; have := Z8.out; have := Z9.out; have := Z10.out; have := Z11.out; have := Z12.out; have := Z13.out; have := Z14.out; have := Z15.out; have := Z16.out; have := Z17.out; have := Z18.out; have := Z19.out; omega) HB.out.size)
  have HM := ResK.kept (ys := vs1) (zs := mTimers (1 + 4 * (tot us : Int)) m0) ⟨bs, cs, hfr2, hfs2, hnd, hin⟩ (Nat.le_trans HLE ho.size); clear HO1 hob ho hfr hfs hnd hin hfr2 hfs2 HLE
  have HMK := Lib.hid hmk; clear hmk
  obtain ⟨tt, htt⟩ : ∃ t, tot us = t := ⟨_, rfl⟩
  have HTT := Lib.hid htt
  have hbt : tt ≤ 1048576 := by have := HBD.out.2.2.1; omega
  rw [htt]
  clear htt
  have hq1 : ¬ (1 + 4 * (tt : Int) + 4 * (m0 : Int) < 0) := by omega
  have c10_0 := HW2.look 0
  have c10_1 := HW2.look 1
  have c10_2 := HW2.look 2
  have c10_3 := HW2.look 3
  have l10_0 := HX1.bx.lt
  have l10_1 := HX2.bx.lt
  have l10_2 := HW1.bx.lt
  have l10_3 := HX3.bx.lt
  have l10_4 := HW2.bx.lt
  go_wp2_with fail
  clear c10_0 c10_1 c10_2 c10_3 l10_0 l10_1 l10_2 l10_3 l10_4
  refine (heldWheelResult_yes false true _ _ _ _ O1 j0 b1 us vs1 E1 m0 d1 r x 1 _ HMK.out HM.res_rows HM.le HM.res_due HM.le hj0 HBD.out.2.2.1 hm0 (by omega) (by omega)).mono ?_
  rw [HTT.out]
  rintro e w9 ⟨rfl, hb⟩
  have Z20 := Lib.hid hb.size
  replace HA0 := HA0.below hb
  replace HX1 := HX1.below hb
  replace HX2 := HX2.below hb
  replace HO0 := HO0.below hb
  replace HW1 := HW1.below hb
  replace HX3 := HX3.below hb
  replace HW2 := HW2.below hb
  replace HM := HM.below hb
  replace HB := Lib.hid (below_step HB.out hb)
  clear hb
  have l11_0 := HX1.bx.lt
  have l11_1 := HX2.bx.lt
  have l11_2 := HW1.bx.lt
  have l11_3 := HX3.bx.lt
  have l11_4 := HW2.bx.lt
  go_wp2_with fail
  clear l11_0 l11_1 l11_2 l11_3 l11_4
  have SB : Hid (∀ W, Hid (Below w9.heap.size w9 W) → (fun W => W.cell? ⟨w.heap.size, 0, none⟩ = some (.int .i64 v0) ∧ W.cell? ⟨w.heap.size, 1, none⟩ = some (.slice A0 n0 c0) ∧ W.cell? ⟨w.heap.size + 1, 0, none⟩ = some (.int .i64 s1) ∧ W.cell? ⟨w.heap.size + 1, 1, none⟩ = some (.int .i64 t1) ∧ W.cell? ⟨w.heap.size + 1, 2, none⟩ = some (.int .i64 u1)) W) := fun W h => ⟨(HX1.below h.out).look 0, (HX1.below h.out).look 1, (HX2.below h.out).look 0, (HX2.below h.out).look 1, (HX2.below h.out).look 2⟩
  have V0 : Hid (Below w9.heap.size w9 w9.drew) := (Below.refl _ _).drew
  have VA0 : ∀ o, Hid (Below w9.heap.size w9 (w9.alloc o).drew) := fun o => ((Below.refl _ _).alloc (Nat.le_refl _) o).drew
  go_upto_region 24 with (fail)
  go_cut [12] (fun s6 wx => ∃ g O j b E m d lo hi, s6 = .pointer (some ⟨g, 0, none⟩) ∧ Hid (w9.heap.size ≤ g) ∧ Kept g (g + 1) (BoxK g 31 #[.int .i64 r, .int .i64 x, .slice O j b, .slice E m d]) wx ∧ Hid (Below w9.heap.size w9 wx) ∧ Hid (w9.heap.size ≤ lo ∧ (g < lo ∨ hi ≤ g)) ∧ Kept lo hi (ResK Rep.timer lo hi O j us E m zs) wx)
  case first =>
    have VN0 : ∀ o, Hid (Below w9.heap.size w9 (w9.alloc o).drew) := VA0
    go_region_held3 (fun W => W.cell? ⟨w.heap.size, 0, none⟩ = some (.int .i64 v0) ∧ W.cell? ⟨w.heap.size, 1, none⟩ = some (.slice A0 n0 c0) ∧ W.cell? ⟨w.heap.size + 1, 0, none⟩ = some (.int .i64 s1) ∧ W.cell? ⟨w.heap.size + 1, 1, none⟩ = some (.int .i64 t1) ∧ W.cell? ⟨w.heap.size + 1, 2, none⟩ = some (.int .i64 u1)) (first | (with_reducible exact SB.out _ V0) | (with_reducible exact SB.out _ (VA0 _)) | (with_reducible exact SB.out _ V1) | (with_reducible exact SB.out _ (VA1 _)) | (with_reducible exact SB.out _ V2) | (with_reducible exact SB.out _ (VA2 _)) | (with_reducible exact SB.out _ V3) | (with_reducible exact SB.out _ (VA3 _)) | (with_reducible exact SB.out _ (VS _ (by first | exact Nat.le_refl _ | assumption) _ _ _ _)))
      (first
        | (go_at_call 44; ((with_reducible refine (toWheel_any q0 lo0 hi0 A0 n0 c0 ys0 v0 _ (HA0.below V0.out).sl (HA0.below V0.out).le hN0 HM0.out).mono ?_); rintro e u4_0 ⟨Py0, rfl, hk, hb⟩; have V1 := Lib.hid (below_step V0.out hb); (try replace HW := HW.below hb); have VN1 : ∀ o, Hid (Below u4_0.heap.size u4_0 (u4_0.alloc o)) := (fun o => (Below.refl _ _).alloc (Nat.le_refl _) o); have VA1 : ∀ o, Hid (Below w9.heap.size w9 (u4_0.alloc o)) := (fun o => Below.alloc V1.out V1.out.size o); have VQ1 := V1.out.size; clear hb; have HH0 := hk; clear hk))
        | (go_at_call 44; ((with_reducible refine (toWheel_any q0 lo0 hi0 A0 n0 c0 ys0 v0 _ (HA0.below (VA0 _).out).sl (HA0.below (VA0 _).out).le hN0 HM0.out).mono ?_); rintro e u4_0 ⟨Py0, rfl, hk, hb⟩; have V1 := Lib.hid (below_step (VA0 _).out hb); have HW := ((Kept.box (show Box ((w9.alloc (.cells #[.int .i64 0, .int .i64 0, .slice none 0 0, .slice none 0 0] 31)).drew) w9.heap.size 31 #[.int .i64 0, .int .i64 0, .slice none 0 0, .slice none 0 0] from Box.made _ _ _))).below hb; have VN1 : ∀ o, Hid (Below u4_0.heap.size u4_0 (u4_0.alloc o)) := (fun o => (Below.refl _ _).alloc (Nat.le_refl _) o); have VA1 : ∀ o, Hid (Below w9.heap.size w9 (u4_0.alloc o)) := (fun o => Below.alloc V1.out V1.out.size o); have VQ1 := V1.out.size; clear hb; have HH0 := hk; clear hk))
        | (go_at_call 51; ((with_reducible refine (toKey_any s1 t1 u1 _).mono ?_); rintro e u4_1 ⟨rfl, hb⟩; have V2 := Lib.hid (below_step V1.out hb); replace HH0 := HH0.below hb; (try replace HW := HW.below hb); have VN2 : ∀ o, Hid (Below u4_1.heap.size u4_1 (u4_1.alloc o)) := (fun o => (Below.refl _ _).alloc (Nat.le_refl _) o); have VA2 : ∀ o, Hid (Below w9.heap.size w9 (u4_1.alloc o)) := (fun o => Below.alloc V2.out V2.out.size o); have VQ2 := V2.out.size; clear hb))
        | (go_at_call 51; ((with_reducible refine (toKey_any s1 t1 u1 _).mono ?_); rintro e u4_1 ⟨rfl, hb⟩; have V2 := Lib.hid (below_step (VA1 _).out hb); replace HH0 := (HH0.below (VN1 _).out).below hb; have HW := ((Kept.box (show Box ((u4_0.alloc (.cells #[.int .i64 0, .int .i64 0, .slice none 0 0, .slice none 0 0] 31))) u4_0.heap.size 31 #[.int .i64 0, .int .i64 0, .slice none 0 0, .slice none 0 0] from Box.made _ _ _))).below hb; have VN2 : ∀ o, Hid (Below u4_1.heap.size u4_1 (u4_1.alloc o)) := (fun o => (Below.refl _ _).alloc (Nat.le_refl _) o); have VA2 : ∀ o, Hid (Below w9.heap.size w9 (u4_1.alloc o)) := (fun o => Below.alloc V2.out V2.out.size o); have VQ2 := V2.out.size; clear hb))
        | (go_at_call 20; (try have HGL := HW.le); ((with_reducible refine (dropTimer_any v0 ⟨s1, t1, u1, 0⟩ false _ _ Py0 n0 n0 ys0 _ HH0.rows HH0.le hN0 HM0.out (Nat.le_refl _)).mono ?_); rw [HRr.out, HRx.out, HRus.out, HRzs.out]; rintro e u4_2 ⟨O2, j2, b2, E2, m2, d2, rfl, hk, hb⟩; have V3 := Lib.hid (below_step V2.out hb); replace HH0 := HH0.below hb; (try replace HW := HW.below hb); have VN3 : ∀ o, Hid (Below u4_2.heap.size u4_2 (u4_2.alloc o)) := (fun o => (Below.refl _ _).alloc (Nat.le_refl _) o); have VA3 : ∀ o, Hid (Below w9.heap.size w9 (u4_2.alloc o)) := (fun o => Below.alloc V3.out V3.out.size o); have VQ3 := V3.out.size; clear hb; have HOk := hk; clear hk; have VS : ∀ (g : Nat) (hg : w9.heap.size ≤ g) (v0 v1 v2 v3 : Value), Hid (Below w9.heap.size w9 ((((u4_2.setCell ⟨g, 0, none⟩ v0).setCell ⟨g, 1, none⟩ v1).setCell ⟨g, 2, none⟩ v2).setCell ⟨g, 3, none⟩ v3)) := (fun g hg v0 v1 v2 v3 => (Below.setCell (p := ⟨g, 3, none⟩) (Below.setCell (p := ⟨g, 2, none⟩) (Below.setCell (p := ⟨g, 1, none⟩) (Below.setCell (p := ⟨g, 0, none⟩) V3.out hg v0) hg v1) hg v2) hg v3)); (try (have hk0 := HW.look 0; have hf0 := HW.free 0)); (try (have hk1 := HW.look 1; have hf1 := HW.free 1)); (try (have hk2 := HW.look 2; have hf2 := HW.free 2)); (try (have hk3 := HW.look 3; have hf3 := HW.free 3))))
        | (go_at_call 20; have HGL := ((Kept.box (show Box ((u4_1.alloc (.cells #[.int .i64 0, .int .i64 0, .slice none 0 0, .slice none 0 0] 31))) u4_1.heap.size 31 #[.int .i64 0, .int .i64 0, .slice none 0 0, .slice none 0 0] from Box.made _ _ _))).le; ((with_reducible refine (dropTimer_any v0 ⟨s1, t1, u1, 0⟩ false _ _ Py0 n0 n0 ys0 _ (HH0.below (VN2 _).out).rows (HH0.below (VN2 _).out).le hN0 HM0.out (Nat.le_refl _)).mono ?_); rw [HRr.out, HRx.out, HRus.out, HRzs.out]; rintro e u4_2 ⟨O2, j2, b2, E2, m2, d2, rfl, hk, hb⟩; have V3 := Lib.hid (below_step (VA2 _).out hb); replace HH0 := (HH0.below (VN2 _).out).below hb; have HW := ((Kept.box (show Box ((u4_1.alloc (.cells #[.int .i64 0, .int .i64 0, .slice none 0 0, .slice none 0 0] 31))) u4_1.heap.size 31 #[.int .i64 0, .int .i64 0, .slice none 0 0, .slice none 0 0] from Box.made _ _ _))).below hb; have VN3 : ∀ o, Hid (Below u4_2.heap.size u4_2 (u4_2.alloc o)) := (fun o => (Below.refl _ _).alloc (Nat.le_refl _) o); have VA3 : ∀ o, Hid (Below w9.heap.size w9 (u4_2.alloc o)) := (fun o => Below.alloc V3.out V3.out.size o); have VQ3 := V3.out.size; clear hb; have HOk := hk; clear hk; have VS : ∀ (g : Nat) (hg : w9.heap.size ≤ g) (v0 v1 v2 v3 : Value), Hid (Below w9.heap.size w9 ((((u4_2.setCell ⟨g, 0, none⟩ v0).setCell ⟨g, 1, none⟩ v1).setCell ⟨g, 2, none⟩ v2).setCell ⟨g, 3, none⟩ v3)) := (fun g hg v0 v1 v2 v3 => (Below.setCell (p := ⟨g, 3, none⟩) (Below.setCell (p := ⟨g, 2, none⟩) (Below.setCell (p := ⟨g, 1, none⟩) (Below.setCell (p := ⟨g, 0, none⟩) V3.out hg v0) hg v1) hg v2) hg v3)); (try (have hk0 := HW.look 0; have hf0 := HW.free 0)); (try (have hk1 := HW.look 1; have hf1 := HW.free 1)); (try (have hk2 := HW.look 2; have hf2 := HW.free 2)); (try (have hk3 := HW.look 3; have hf3 := HW.free 3)))))
    all_goals (go_wp2_with fail; go_meet; first | exact ⟨_, O2, j2, b2, E2, m2, d2, _, _, rfl, Lib.hid (by first | exact Nat.le_refl _ | assumption), Kept.box ((((HW.bx.puts 0 (.int .i64 r) (cs' := #[.int .i64 r, .int .i64 0, .slice none 0 0, .slice none 0 0]) rfl).puts 1 (.int .i64 x) (cs' := #[.int .i64 r, .int .i64 x, .slice none 0 0, .slice none 0 0]) rfl).puts 2 (.slice O2 j2 b2) (cs' := #[.int .i64 r, .int .i64 x, .slice O2 j2 b2, .slice none 0 0]) rfl).puts 3 (.slice E2 m2 d2) (cs' := #[.int .i64 r, .int .i64 x, .slice O2 j2 b2, .slice E2 m2 d2]) rfl), VS _ (by first | exact Nat.le_refl _ | assumption) _ _ _ _, Lib.hid ⟨(by first | exact V2.out.size | exact (VA2 _).out.size), .inl HGL⟩, HOk.only (only4 _ _ _ _ _ _) (.inr HGL)⟩ | exact ⟨_, O2, j2, b2, E2, m2, d2, _, _, rfl, Lib.hid VQ3, Kept.box (Box.made _ _ _), VA3 _, Lib.hid ⟨(by first | exact V2.out.size | exact (VA2 _).out.size), .inr (Nat.le_refl _)⟩, HOk.below (VN3 _).out⟩)
  obtain ⟨g4, O2, j2, b2, E2, m2, d2, ol2, oh2, rfl, hg, HW4, HC, HLH, HO2⟩ := hcut
  obtain ⟨wx4, rfl⟩ : ∃ W : World, W = wc := ⟨_, rfl⟩
  have hb := HC.out
  clear HC SB V0 VA0
  have Z21 := hg; clear hg
  have Z22 := HLH; clear HLH
  have Z23 := Lib.hid hb.size
  have Z24 := Lib.hid HW4.le
  have Z25 := Lib.hid HO2.le
  replace HA0 := HA0.below hb
  replace HX1 := HX1.below hb
  replace HX2 := HX2.below hb
  replace HO0 := HO0.below hb
  replace HW1 := HW1.below hb
  replace HX3 := HX3.below hb
  replace HW2 := HW2.below hb
  replace HM := HM.below hb
  replace HB := Lib.hid (below_step HB.out hb)
  clear hb
  obtain rfl : j0 = j2 := by have := HO2.res_rows.1; have := HO0.res_rows.1; omega
  obtain rfl : m0 = m2 := by have := HO2.res_due.1; have := HO0.res_due.1; omega
  have c12_0 := HW1.look 0
  have c12_1 := HW1.look 1
  have c12_2 := HW1.look 2
  have c12_3 := HW1.look 3
  have c12_4 := HW4.look 0
  have c12_5 := HW4.look 1
  have c12_6 := HW4.look 2
  have c12_7 := HW4.look 3
  have l12_0 := HX1.bx.lt
  have l12_1 := HX2.bx.lt
  have l12_2 := HW1.bx.lt
  have l12_3 := HX3.bx.lt
  have l12_4 := HW2.bx.lt
  have l12_5 := HW4.bx.lt
  go_wp2_with fail
  clear c12_0 c12_1 c12_2 c12_3 c12_4 c12_5 c12_6 c12_7 l12_0 l12_1 l12_2 l12_3 l12_4 l12_5
  refine (eqWheelResult_yes false false _ _ _ _ O2 O0 j0 b2 b0 us _ _ _ _ E2 E0 m0 d2 d0 zs r x _ HO2.res_rows HO0.res_rows HO2.le HO0.le hj0 HBD.out.2.1 (Rep.Sl.unq HO2.res_due) (Rep.Sl.unq HO0.res_due) HO2.le HO0.le hm0).mono ?_
  rintro e w10 ⟨rfl, hb⟩
  have Z26 := Lib.hid hb.size
  replace HA0 := HA0.below hb
  replace HX1 := HX1.below hb
  replace HX2 := HX2.below hb
  replace HO0 := HO0.below hb
  replace HW1 := HW1.below hb
  replace HX3 := HX3.below hb
  replace HW2 := HW2.below hb
  replace HM := HM.below hb
  replace HO2 := HO2.below hb
  replace HW4 := HW4.below hb
  replace HB := Lib.hid (below_step HB.out hb)
  clear hb
  have c13_0 := HW2.look 0
  have c13_1 := HW2.look 1
  have c13_2 := HW2.look 2
  have c13_3 := HW2.look 3
  have l13_0 := HX1.bx.lt
  have l13_1 := HX2.bx.lt
  have l13_2 := HW1.bx.lt
  have l13_3 := HX3.bx.lt
  have l13_4 := HW2.bx.lt
  have l13_5 := HW4.bx.lt
  go_wp2_with fail
  clear c13_0 c13_1 c13_2 c13_3 l13_0 l13_1 l13_2 l13_3 l13_4 l13_5
  refine (heldWheelResult_yes false true _ _ _ _ O1 j0 b1 us vs1 E1 m0 d1 r x 1 _ HMK.out HM.res_rows HM.le HM.res_due HM.le hj0 HBD.out.2.2.1 hm0 (by omega) (by omega)).mono ?_
  rw [HTT.out]
  rintro e w11 ⟨rfl, hb⟩
  have Z27 := Lib.hid hb.size
  replace HA0 := HA0.below hb
  replace HX1 := HX1.below hb
  replace HX2 := HX2.below hb
  replace HO0 := HO0.below hb
  replace HW1 := HW1.below hb
  replace HX3 := HX3.below hb
  replace HW2 := HW2.below hb
  replace HM := HM.below hb
  replace HO2 := HO2.below hb
  replace HW4 := HW4.below hb
  replace HB := Lib.hid (below_step HB.out hb)
  clear hb
  have l14_0 := HX1.bx.lt
  have l14_1 := HX2.bx.lt
  have l14_2 := HW1.bx.lt
  have l14_3 := HX3.bx.lt
  have l14_4 := HW2.bx.lt
  have l14_5 := HW4.bx.lt
  go_wp2
  clear l14_0 l14_1 l14_2 l14_3 l14_4 l14_5
  go_ret
  exact ⟨rfl, HB.out⟩

end Go.Proofs.Ytfgbjjaipakpaaa

namespace Go.Proofs.Ytfgbjjaipakpaaa.fnExactDropTimer
open Go.ChangeShapes Go.WideShapes Go.ChangeAt Go.RowKit
open Go.ChangeMaps (open_string shut_string)
set_option linter.unusedVariables false

theorem own : ownKnob Try.prog.godebug = none := by kernel_rfl
theorem laidOut : laidOutB Try.prog = true := by kernel_rfl

theorem walk (v0 : Int) (A0 : Option Addr) (n0 c0 : Nat) (ys0 : List (List Tmr)) (s1 t1 u1 : Int) (w : World) (hl0 : Rep.timer.rows.Sl false 0 w.heap.size w A0 n0 ys0) (hn0 : n0 ≤ maxLen) (hm0 : ∀ y ∈ ys0, y.length ≤ maxLen)  :
    Calls Try.prog 9 #[.agg (#[.int .i64 v0, .slice A0 n0 c0]), .agg (#[.int .i64 s1, .int .i64 t1, .int .i64 u1])] w fun e w' => e = .returned (.bool true) ∧ Below w.heap.size w w' := by
  exact law_DropTimer v0 ys0 false 0 w.heap.size A0 n0 c0 s1 t1 u1 w hl0 (Nat.le_refl _) hn0 hm0

set_option maxRecDepth 100000 in
theorem lifted (os : Os) (started : os.Started) (H : Type) (enc : TypeId × Value → H) :
    ReturnsInHanded {} Try.checked os 9 .any (Rows.fnExactDropTimerSpec.pre6 enc Try.prog Try.f9 Rows.fnExactDropTimerRow.domain false) (Rows.fnExactDropTimerSpec.post enc Try.prog Try.f9 false true false false) := by
  refine returnsInHanded_of_change (C := Try.checked) own started (by kernel_rfl) Try.func9
    (ChangeSpec.witness6 (enc := enc) (C := Try.checked) false ⟨#[], #[.agg #[.int .i64 0, .slice none 0 0], .agg #[.int .i64 0, .int .i64 0, .int .i64 0]], []⟩ 8 (by kernel_rfl) (by kernel_rfl) (by kernel_rfl) (by kernel_rfl)) ?_
  intro W base args ds gs before hval0 hW hcnd _
  have hval : ∀ (j : Nat) t v, Try.f9.params[j]? = some t → args[j]? = some v → Value.okWide Try.prog W .any base t v := hval0
  have hW' := hW
  obtain ⟨p, q, hA0, hV, rfl, hfz, hnd⟩ := hW
  have hA : DataW.TrodAll enc Try.prog W 0 (fun _ => true) true Try.f9.params.toList args.toList ds p := hA0
  rw [Try.params9] at hA hval
  obtain ⟨v0, vs0, d0, ds0, p0, q0, hargs, rfl, rfl, h0, r0⟩ := trodAll_cons hA
  obtain ⟨v1, vs1, d1, ds1, p1, q1, rfl, rfl, rfl, h1, r1⟩ := trodAll_cons r0
  obtain ⟨rfl, rfl, rfl⟩ := trodAll_nil r1
  obtain rfl : args = #[v0, v1] := by cases args; simp_all
  obtain ⟨rfl, rfl⟩ := trodVars_none hV
  obtain ⟨cs0, rfl, hsz0⟩ := okWide_struct Try.underlying61 (hval 0 61 v0 rfl rfl)
  have k0 := h0
  have lt0 : ∀ x ∈ p0, x.block < W.heap.size := by obtain ⟨m, hm⟩ := k0; exact DataW.trod_lt m _ _ _ hm
  obtain ⟨fuel0, hf0⟩ := h0
  obtain ⟨v0, A0, n0, c0, ys0, he0, hl0, hn0, hm0⟩ := open_wheel hf0
  obtain rfl : cs0 = #[.int .i64 v0, .slice A0 n0 c0] := by cases cs0; simp [Value.cells] at he0; simp [he0]
  obtain ⟨cs1, rfl, hsz1⟩ := okWide_struct Try.underlying68 (hval 1 68 v1 rfl rfl)
  have k1 := h1
  have lt1 : ∀ x ∈ p1, x.block < W.heap.size := by obtain ⟨m, hm⟩ := k1; exact DataW.trod_lt m _ _ _ hm
  obtain ⟨fuel1, hf1⟩ := h1
  obtain ⟨s1, t1, u1, he1⟩ := open_key hf1
  obtain rfl : cs1 = #[.int .i64 s1, .int .i64 t1, .int .i64 u1] := by cases cs1; simp [Value.cells] at he1; simp [he1]
  clear hA0 hval0
  refine (walk v0 A0 n0 c0 ys0 s1 t1 u1 W hl0 hn0 hm0 ).mono fun e W' ⟨he, bel⟩ => ?_
  subst he
  exact ⟨_, rfl, _, _, _, [], _, [], hW', trodAll_mk1 (shut_bool Try.underlying4 _), (trodAll_cons_mk (Below.trod laidOut (by kernel_rfl) (of_decide_eq_true (by kernel_rfl)) k0 bel lt0) (trodAll_cons_mk (Below.trod laidOut (by kernel_rfl) (of_decide_eq_true (by kernel_rfl)) k1 bel lt1) trodAll_mk0)), rfl, bel.frame _, fun h => by cases h⟩

theorem over : Rows.fnExactDropTimerRow.holds Try.pinned (OpenSpec.ofChange Rows.fnExactDropTimerSpec) :=
  OpenClaim.holds_of_wide 9 Try.f9 rfl rfl rfl rfl rfl rfl rfl ⟨rfl, rfl, rfl, rfl, rfl⟩ rfl rfl rfl rfl rfl (by kernel_rfl) Try.func9 (by kernel_rfl)
    (of_decide_eq_true (by kernel_rfl)) (by unfold Func.isWrapper; first | (rw [if_pos (by decide +kernel)]; kernel_rfl) | (rw [if_neg (by decide +kernel)]; exact ⟨rfl, rfl⟩))
    (fun os started H enc _ => lifted os started H enc)

theorem proved : Rows.FnExactDropTimerSaid := over
#print axioms proved
end Go.Proofs.Ytfgbjjaipakpaaa.fnExactDropTimer
