/-
  The program's TimersIn. No statement is proved here.
-/
import Derived.Test.YtfgbjjaipakpaaaWheelRes
namespace Go.Proofs.Ytfgbjjaipakpaaa
open Go.RowKit Go.Shelf
set_option linter.unusedVariables false

section
attribute [local go_sem] Oper.semAt_some

set_option maxRecDepth 100000 in
set_option maxHeartbeats 4000000 in
theorem timersIn_any (now : Int) (q : Bool) (lo hi : Nat) (A : Option Addr) (n c : Nat) (ys : List (List Tmr)) (w : World) (ha : Rep.timer.rows.Sl q lo hi w A n ys) (hh : hi ≤ w.heap.size) (hn : n ≤ 1048576) (hm : ∀ y ∈ ys, y.length ≤ 1048576) (hc : n ≤ c) :
    Calls Try.prog 30 #[.agg #[.int .i64 now, .slice A n c]] w (WOut w (faultW now ys) (tiN now ys) (tiR now ys) (tiD now ys)) := by
  have HA := Rep.Sl.kept ha hh
  have hl := ha.1
  have HM := Lib.hid hm
  obtain ⟨r, hr⟩ : ∃ r, faultW now ys = r := ⟨_, rfl⟩
  have HRR := Lib.hid hr
  clear ha hm hr
  go_enter Try.func30, Try.ntmps30
  go_upto_region 1 with (fail)
  refine Code.wp_name ?_
  intro V hV
  have HX : Hid (Box V w.heap.size 26 #[.int .i64 now, .slice A n c]) := Lib.hid (by rw [hV]; exact (Box.made _ _ _).over _)
  have HR : Hid (Box V (w.heap.size + 1) 31 #[.int .i64 0, .int .i64 0, .slice none 0 0, .slice none 0 0]) := Lib.hid (by rw [hV]; exact Box.made_at _ _ _ (by simp))
  have HB : Hid (Below w.heap.size w V) := Lib.hid (by rw [hV]; exact ((Below.refl _ _).alloc (Nat.le_refl _) _).alloc (by simp) _)
  have HZ : Hid (w.heap.size + 2 = V.heap.size) := Lib.hid (by rw [hV]; simp)
  clear hV
  have c0 := HX.out.look 0
  have c1 := HX.out.look 1
  have hxl := HX.out.lt
  go_wp2_with fail
  refine (wheelFault_any now q lo hi A n c ys _ (HA.below HB.out).sl (HA.below HB.out).le hn HM.out hc).mono ?_
  rw [HRR.out]
  rintro e w1 ⟨rfl, hb1⟩
  have HX1 := Lib.hid (HX.out.below hb1)
  have HR1 := Lib.hid (HR.out.below hb1)
  have HB1 := Lib.hid (below_step HB.out hb1)
  have HZ1 : Hid (w.heap.size + 2 ≤ w1.heap.size) := Lib.hid (by have := HZ.out; have := hb1.size; omega)
  clear hb1 HX HR HB HZ c0 c1 hxl
  have c0 := HX1.out.look 0
  have c1 := HX1.out.look 1
  have hxl := HX1.out.lt
  have hrl := HR1.out.lt
  by_cases hr0 : r = 0
  · subst hr0
    obtain ⟨hok, h24, h60⟩ := fault_ok HRR.out
    obtain rfl : n = 24 := by omega
    go_wp2_with fail
    refine (dialOf_rows now q lo hi A c ys _ (HA.below HB1.out).sl (HA.below HB1.out).le hc).mono ?_
    rintro e w2 ⟨s, rfl, hds, hb2⟩
    have HR2 := Lib.hid (HR1.out.below hb2)
    have HB2 := Lib.hid (below_step HB1.out hb2)
    have HZ2 : Hid (w.heap.size + 2 ≤ w2.heap.size) := Lib.hid (by have := HZ1.out; have := hb2.size; omega)
    have HS2 := Lib.hid (hds.below hb2 (HA.below HB1.out).le)
    have HONE : Hid (∀ k, k < 24 → (s k).oneCell' = true) := Lib.hid (fun k hk => by obtain ⟨E, d, e, _⟩ := hds k hk; rw [e]; rfl)
    clear hds hb2 HX1 HR1 HB1 c0 c1 hxl hrl
    go_upto_region 5 with (refine wpList_store_dial (now := 0) (now' := now) (s := fun _ => .slice none 0 0) (s' := s) rfl _ _ rfl rfl rfl (Box.made w2 87 (dialCells 0 fun _ => .slice none 0 0)) HONE.out ?_)
    refine Code.wp_name ?_
    intro V3 hV3
    have HR3 : Hid (Box V3 (w.heap.size + 1) 31 #[.int .i64 0, .int .i64 0, .slice none 0 0, .slice none 0 0]) := Lib.hid (by rw [hV3]; exact (HR2.out.over _).grown (setRow_grown _ _ _) (by have := HZ2.out; simp; omega))
    have HD3 : Hid (Box V3 w2.heap.size 87 (dialCells now s)) := Lib.hid (by rw [hV3]; exact (Box.made w2 _ _).setRow)
    have hb3 : Below w2.heap.size w2 V3 := by rw [hV3]; exact ((Below.refl _ _).alloc (Nat.le_refl _) _).grown (setRow_grown _ _ _) (by simp) (fun k e => by injection e with e; omega)
    have HB3 := Lib.hid (below_step HB2.out hb3)
    have HHI : Hid (hi ≤ w2.heap.size) := Lib.hid (Nat.le_trans hh HB2.out.size)
    have HS3 := Lib.hid (HS2.out.below hb3 HHI.out)
    have HZ3 : Hid (w2.heap.size + 1 = V3.heap.size) := Lib.hid (by rw [hV3]; simp [World.setRow])
    have HT : Hid (∀ k, k < 24 → (ys.getD k []).length ≤ 40000) := Lib.hid (fun k hk => by have := getD_tot (ys := ys) k; omega)
    clear hV3 HR2 HB2 HS2 hb3
    refine wp_region_held_drew (S := (fun W => Box W w2.heap.size 87 (dialCells now s))) (by kernel_rfl) ?_ (fun hHeld => ?_)
    · exact (show Box V3.drew w2.heap.size 87 (dialCells now s) from HD3.out)
    refine wpAnyH_take (i := 0) (v := .agg (dialCells now s)) rfl (by kernel_rfl) (by kernel_rfl) (by kernel_rfl) (fun _ _ _ h => h) (Or.inl ⟨by rfl, ?hy0⟩) (by assumption) ?rest0
    case hy0 => (intro W hSw; exact exec_load_dial (.tmp 4) rfl rfl hSw)
    (try simp only [List.getElem_toArray, List.getElem_cons_zero, Act.put, List.setIfInBounds_toArray, List.set_cons_zero, List.set_cons_succ])
    refine wpAnyH_take (i := 2) (v := .agg (dialCells now s)) rfl (by kernel_rfl) (by kernel_rfl) (by kernel_rfl) (fun _ _ _ h => h) (Or.inl ⟨by rfl, ?hy2⟩) (by assumption) ?rest2
    case hy2 => (intro W hSw; exact exec_load_dial (.tmp 4) rfl rfl hSw)
    (try simp only [List.getElem_toArray, List.getElem_cons_succ, List.getElem_cons_zero, Act.put, List.setIfInBounds_toArray, List.set_cons_zero, List.set_cons_succ])
    refine wpAnyH_ready (rs := [1]) (by kernel_rfl) (by simp) ?_
    refine AllReadyH.cons rfl (fun K hK => ?_) AllReadyH.nil
    go_simp
    have V0 : Hid (Below V3.heap.size V3 V3.drew) := (Below.refl _ _).drew
    have HH3 : Hid (hi ≤ V3.heap.size) := Lib.hid (by have := HHI.out; have := HZ3.out; omega)
    refine (wheel_any now s (fun k => ys.getD k []) lo hi _ (HS3.out.below V0.out HH3.out) HH3.out HT.out).mono ?_
    rw [map24 hl]
    rintro e u ⟨P, pc, vs, rfl, hor, hrr, hb⟩
    have V1 := Lib.hid (below_step V0.out hb)
    clear hb
    refine hK.out _ _ ?_ (fun hHeld => ?_)
    · exact HD3.out.below V1.out
    clear hK K
    (try simp only [List.getElem_toArray, List.getElem_cons_succ, List.getElem_cons_zero, Act.put, List.setIfInBounds_toArray, List.set_cons_zero, List.set_cons_succ])
    refine wpAnyH_ready (rs := [3]) (by kernel_rfl) (by simp) ?_
    refine AllReadyH.cons rfl (fun K hK => ?_) AllReadyH.nil
    go_simp
    refine (timers_any now s (fun k => ys.getD k []) lo hi _ (HS3.out.below V1.out HH3.out) (Nat.le_trans HH3.out V1.out.size) HT.out).mono ?_
    rw [rows24 hl]
    rintro e u2 ⟨E, m, d, rfl, hoe, hb⟩
    have V2 := Lib.hid (below_step V1.out hb)
    have hor2 := (hor.below hb).mono (show V3.heap.size ≤ _ from Nat.le_refl _)
    have hrr2 := (hrr.below hb).mono (show V3.heap.size ≤ _ from Nat.le_refl _)
    have hoe2 := hoe.mono (show V3.heap.size ≤ _ from V1.out.size)
    have HK0 := RowsO.resK2 hrr2 hor2 hoe2 (fun v hv r hr e => by
      have h1 := (hrr.blk v hv r hr).2.1
      have h2 := (hoe.block r e).1
      omega)
    have HK := ResK.kept HK0 (Nat.le_refl _)
    clear hb hor hrr hoe hor2 hrr2 hoe2 HK0
    refine hK.out _ _ ?_ (fun hHeld => ?_)
    · exact HD3.out.below V2.out
    clear hK K
    (try simp only [List.getElem_toArray, List.getElem_cons_succ, List.getElem_cons_zero, Act.put, List.setIfInBounds_toArray, List.set_cons_zero, List.set_cons_succ])
    refine wpAnyH_take (i := 4) (v := ?v4) rfl (by kernel_rfl) (by kernel_rfl) (by kernel_rfl) (fun _ _ _ h => h) (Or.inl ⟨by rfl, ?hy4⟩) (by assumption) ?rest4
    case hy4 => (intro W hSw; clear hSw; (go_simp <;> with_reducible rfl))
    (try simp only [List.getElem_toArray, List.getElem_cons_succ, List.getElem_cons_zero, Act.put, List.setIfInBounds_toArray, List.set_cons_zero, List.set_cons_succ])
    have HR6 := HR3.out.below V2.out
    have HB6 := below_step HB3.out V2.out
    obtain ⟨hbx, hres⟩ := res_stored (g := w.heap.size + 1) HR6 (by omega) (by have := HZ2.out; have := HZ3.out; omega) HB6 HK 0 now pc d
    have r0 := HR6.look 0
    have r1 := HR6.look 1
    have r2 := HR6.look 2
    have r3 := HR6.look 3
    have f0 := HR6.free 0
    have f1 := HR6.free 1
    have f2 := HR6.free 2
    have f3 := HR6.free 3
    have hrl := HR6.lt
    refine wpAnyH_ready (rs := [5]) (by kernel_rfl) (by simp) ?_
    refine AllReadyH.cons rfl (fun K hK => ?_) AllReadyH.nil
    clear hHeld
    go_simp
    refine hK.out _ _ ?_ (fun hHeld => ?_)
    · exact HD3.out.below V2.out |>.aside (by have := HZ2.out; simp; omega) _ |>.aside (by have := HZ2.out; simp; omega) _ |>.aside (by have := HZ2.out; simp; omega) _ |>.aside (by have := HZ2.out; simp; omega) _
    clear hK K
    (try simp only [List.getElem_toArray, List.getElem_cons_succ, List.getElem_cons_zero, Act.put, List.setIfInBounds_toArray, List.set_cons_zero, List.set_cons_succ])
    refine wpAnyH_done (by kernel_rfl) ?_ _
    have HWO : Hid (tiN now ys = now ∧ tiR now ys = ys ∧ tiD now ys = ys.flatten) := Lib.hid ⟨if_pos HRR.out, if_pos HRR.out, if_pos HRR.out⟩
    clear r0 r1 r2 r3 f0 f1 f2 f3 hrl hHeld
    go_wp2
    have q0 := hbx.look 0
    have q1 := hbx.look 1
    have q2 := hbx.look 2
    have q3 := hbx.look 3
    exact bodyPost_ret (v := .agg #[.int .i64 0, .int .i64 now, .slice P 24 pc, .slice E m d]) (by simp [results, Try.results30, go_sem, q0, q1, q2, q3]) rfl (by rw [HRR.out, HWO.out.1, HWO.out.2.1, HWO.out.2.2]; exact hres)
  · have HWO : Hid (tiN now ys = 0 ∧ tiR now ys = [] ∧ tiD now ys = []) := Lib.hid (by have h : ¬ faultW now ys = 0 := by rw [HRR.out]; exact hr0
                                                                                       exact ⟨if_neg h, if_neg h, if_neg h⟩)
    have hr0' : (r != 0) = true := by rw [bne_iff_ne]; exact hr0
    clear hr0
    have r0 := HR1.out.look 0
    have r1 := HR1.out.look 1
    have r2 := HR1.out.look 2
    have r3 := HR1.out.look 3
    have f0 := HR1.out.free 0
    have f1 := HR1.out.free 1
    have f2 := HR1.out.free 2
    have f3 := HR1.out.free 3
    go_wp2
    clear r0 r1 r2 r3 f0 f1 f2 f3
    have hbx := (((HR1.out.puts 0 (.int .i64 r) (cs' := #[.int .i64 r, .int .i64 0, .slice none 0 0, .slice none 0 0]) rfl).puts 1 (.int .i64 0) (cs' := #[.int .i64 r, .int .i64 0, .slice none 0 0, .slice none 0 0]) rfl).puts 2 (.slice none 0 0) (cs' := #[.int .i64 r, .int .i64 0, .slice none 0 0, .slice none 0 0]) rfl).puts 3 (.slice none 0 0) (cs' := #[.int .i64 r, .int .i64 0, .slice none 0 0, .slice none 0 0]) rfl
    have q0 := hbx.look 0
    have q1 := hbx.look 1
    have q2 := hbx.look 2
    have q3 := hbx.look 3
    exact bodyPost_ret (v := .agg #[.int .i64 r, .int .i64 0, .slice none 0 0, .slice none 0 0]) (by simp [results, Try.results30, go_sem, q0, q1, q2, q3]) rfl (by rw [HRR.out, HWO.out.1, HWO.out.2.1, HWO.out.2.2]; refine WOut.zero ?_; exact (((HB1.out.setCell (by simp) _).setCell (by simp) _).setCell (by simp) _).setCell (by simp) _)

end
end Go.Proofs.Ytfgbjjaipakpaaa
