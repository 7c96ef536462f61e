/-
  The model's l4Copy and TimersIn. No statement is proved here.
-/
import Derived.Test.YtfgbjjaipakpaaaWheelRes
import Derived.Test.YtfgbjjaipakpaaaSpecFault2
namespace Go.Proofs.Ytfgbjjaipakpaaa
open Go.RowKit Go.Shelf
set_option linter.unusedVariables false

theorem scell_map (vs : List SlV) : vs.flatMap scell = vs.map fun v => .slice v.1 v.2.1 v.2.2 := by
  induction vs with
  | nil => rfl
  | cons v r ih => simp [scell, ih]
/-- A row is put into the outer list. -/
theorem OwnF.put1 {w : World} {B g c n : Nat} {vs : List SlV} (h : OwnF 29 1 scell w B (some ⟨g, 0, none⟩) n c vs) (k : Nat) (v : SlV) : OwnF 29 1 scell (w.setCell ⟨g, k, none⟩ (.slice v.1 v.2.1 v.2.2)) B (some ⟨g, 0, none⟩) n c (vs.set k v) := by
  refine ⟨by simpa using h.1, ?_⟩
  have := (World.ownsRow.stored h.2 k (.slice v.1 v.2.1 v.2.2)).1
  rw [scell_map] at this ⊢
  rw [List.map_set]
  exact this
theorem rows_step {ys : List (List Tmr)} {k N : Nat} {y : List Tmr} (hk : k < N) (hy : ys[k]? = some y) : (ys.take k ++ List.replicate (N - k) []).set k y = ys.take (k + 1) ++ List.replicate (N - (k + 1)) [] := by
  have hkl := (List.getElem?_eq_some_iff.1 hy).1
  have hlen : (ys.take k).length = k := by simp; omega
  rw [List.set_append_right _ _ (by omega), hlen, Nat.sub_self, show N - k = (N - (k + 1)) + 1 by omega, List.replicate_succ, List.set_cons_zero, List.take_succ_eq_append_getElem hkl, (List.getElem?_eq_some_iff.1 hy).2, List.append_assoc, List.singleton_append]

section
attribute [local go_sem] Oper.semAt_some

set_option maxRecDepth 100000 in
set_option maxHeartbeats 4000000 in
theorem l4Copy_any (q : Bool) (lo hi g : Nat) (A : Option Addr) (c : Nat) (now : Int) (ys : List (List Tmr)) (w : World) (hg : Box w g 26 #[.int .i64 now, .slice A 24 c]) (ha : Rep.timer.rows.Sl q lo hi w A 24 ys) (hh : hi ≤ w.heap.size) (hm : ∀ y ∈ ys, y.length ≤ 1048576) :
    Calls Try.prog 68 #[.pointer (some ⟨g, 0, none⟩)] w fun e w' => ∃ P pc vs, e = .returned (.agg #[.int .i64 now, .slice P 24 pc]) ∧ OwnF 29 1 scell w' w.heap.size P 24 pc vs ∧ RowsO w' w.heap.size vs ys ∧ Below w.heap.size w w' := by
  have HA := Rep.Sl.kept ha hh
  have HG := Lib.hid hg
  have HM := Lib.hid hm
  have hl := ha.1
  have hgl := hg.lt
  clear ha hg hm
  go_enter Try.func68, Try.ntmps68
  go_upto_region 1 with (fail)
  refine Code.wp_name ?_
  intro V hV
  have HR : Hid (Box V w.heap.size 26 #[.int .i64 0, .slice none 0 0]) := Lib.hid (by rw [hV]; exact Box.made _ _ _)
  have HB : Hid (Below w.heap.size w V) := Lib.hid (by rw [hV]; exact (Below.refl _ _).alloc (Nat.le_refl _) _)
  have HZ : Hid (w.heap.size + 1 = V.heap.size) := Lib.hid (by rw [hV]; simp)
  clear hV
  have HG1 := Lib.hid (HG.out.below HB.out)
  have c0 := HG1.out.look 0
  have c1 := HG1.out.look 1
  have hgl' := HG1.out.lt
  go_wp2_with fail
  refine (l4New_any now _).mono ?_
  rintro e w1 ⟨P, pc, rfl, ho1, hb1⟩
  clear c0 c1 hgl'
  have HR1 := Lib.hid (HR.out.below hb1)
  have HB1 := Lib.hid (below_step HB.out hb1)
  have HZ1 : Hid (w.heap.size + 1 ≤ w1.heap.size) := Lib.hid (by have := HZ.out; have := hb1.size; omega)
  obtain ⟨pg, rfl, hp1, hp2⟩ := ho1.form (by omega)
  have HP : Hid (w.heap.size < pg ∧ pg < w1.heap.size) := Lib.hid ⟨by have := HZ.out; omega, hp2⟩
  have HO1 := Lib.hid (ho1.mono (show w.heap.size ≤ V.heap.size from HB.out.size))
  have HQ1 := Lib.hid (@rowsNew w1 w.heap.size)
  clear HB HR hb1 ho1 hp1 hp2 HG1 HZ
  go_upto_region 2 with (fail)
  refine Code.wp_name ?_
  intro V2 hV2
  have hb2 : Below w1.heap.size w1 V2 := by rw [hV2]; exact (Below.refl _ _).alloc (Nat.le_refl _) _
  have HT2 : Hid (Box V2 w1.heap.size 26 #[.int .i64 now, .slice (some ⟨pg, 0, none⟩) 24 pc]) := Lib.hid (by rw [hV2]; exact Box.made _ _ _)
  have HR2 := Lib.hid (HR1.out.below hb2)
  have HB2 := Lib.hid (below_step HB1.out hb2)
  have HO2 := Lib.hid (HO1.out.below hb2)
  have HQ2 := Lib.hid (HQ1.out.below hb2)
  clear hV2 hb2 HR1 HB1 HO1 HQ1
  go_wp2
  go_loopw [4] (fun i wr => ∃ (k : Nat) (vs : List SlV), k ≤ 24 ∧ i = .int .i64 k ∧ Hid (Below w.heap.size w wr) ∧ Hid (Box wr w.heap.size 26 #[.int .i64 0, .slice none 0 0]) ∧ Hid (Box wr w1.heap.size 26 #[.int .i64 now, .slice (some ⟨pg, 0, none⟩) 24 pc]) ∧ Hid (OwnF 29 1 scell wr w.heap.size (some ⟨pg, 0, none⟩) 24 pc vs) ∧ Hid (RowsO wr w.heap.size vs (ys.take k ++ List.replicate (24 - k) []))) (fun i _ => 24 - (intOf i).toNat)
  case atStart => exact ⟨0, _, Nat.zero_le _, rfl, HB2, HR2, HT2, HO2, HQ2⟩
  case round =>
    obtain ⟨k, vs, hk, rfl, HB, HR, HT, HO, HQ⟩ := hrel
    have hG := HG.out.below HB.out
    have c1 := hG.look 1
    have hgl' := hG.lt
    by_cases hlt : k < 24
    · obtain ⟨b, o, y, F, m', c', rfl, hya, ce, hy⟩ := Rep.rows_at HA.sl hlt
      have hlt' : (k : Int) < 24 := by omega
      have hml : m' ≤ 1048576 := by rw [← hy.1]; exact HM.out y (List.mem_of_getElem? hya)
      have hbl := World.block_lt_of_cell? _ _ ce
      have HI := Lib.hid (Rep.timer_inF (hy.below HB.out hh))
      have HY := Lib.hid hya
      have HC := Lib.hid ce
      clear hya hy ce
      go_upto_region 5 with (fail)
      clear c1 hgl' hG
      have SB : Hid (∀ W, Hid (Below wr.heap.size wr W) → (fun W : World => W.cell? ⟨w1.heap.size, 1, none⟩ = some (.slice (some ⟨pg, 0, none⟩) 24 pc) ∧ W.cell? ⟨g, 1, none⟩ = some (.slice (some ⟨b, o, none⟩) 24 c) ∧ W.cell? ⟨b, o + k, none⟩ = some (.slice F m' c')) W) := fun W h => by
        have hbw := below_step HB.out h.out
        exact ⟨(HT.out.below h.out).look 1, (HG.out.below hbw).look 1, (hbw.cell (p := ⟨b, o + k, none⟩) hbl).trans HC.out⟩
      have V0 : Hid (Below wr.heap.size wr wr.drew) := (Below.refl _ _).drew
      refine wp_region_held_drew (S := (fun W : World => W.cell? ⟨w1.heap.size, 1, none⟩ = some (.slice (some ⟨pg, 0, none⟩) 24 pc) ∧ W.cell? ⟨g, 1, none⟩ = some (.slice (some ⟨b, o, none⟩) 24 c) ∧ W.cell? ⟨b, o + k, none⟩ = some (.slice F m' c'))) (by kernel_rfl) ?_ (fun hHeld => ?_)
      · (try dsimp only); exact SB.out _ V0
      refine wpAnyH_take (i := 0) (v := ?va0) rfl (by kernel_rfl) (by kernel_rfl) (by kernel_rfl) (fun _ _ _ h => h) (Or.inl ⟨by rfl, ?hya0⟩) (by assumption) ?resta0
      case hya0 => (intro W hSw; (try dsimp only at hSw); obtain ⟨hS1, hS2, hS3⟩ := hSw; (go_simp <;> with_reducible rfl))
      (try simp only [List.getElem_toArray, List.getElem_cons_zero, Act.put, List.setIfInBounds_toArray, List.set_cons_zero, List.set_cons_succ])
      refine wpAnyH_take (i := 1) (v := ?va1) rfl (by kernel_rfl) (by kernel_rfl) (by kernel_rfl) (fun _ _ _ h => h) (Or.inl ⟨by rfl, ?hya1⟩) (by assumption) ?resta1
      case hya1 => (intro W hSw; (try dsimp only at hSw); obtain ⟨hS1, hS2, hS3⟩ := hSw; (go_simp <;> with_reducible rfl))
      (try simp only [List.getElem_toArray, List.getElem_cons_succ, List.getElem_cons_zero, Act.put, List.setIfInBounds_toArray, List.set_cons_zero, List.set_cons_succ])
      refine wpAnyH_take (i := 2) (v := ?va2) rfl (by kernel_rfl) (by kernel_rfl) (by kernel_rfl) (fun _ _ _ h => h) (Or.inl ⟨by rfl, ?hya2⟩) (by assumption) ?resta2
      case hya2 => (intro W hSw; (try dsimp only at hSw); obtain ⟨hS1, hS2, hS3⟩ := hSw; (go_simp <;> with_reducible rfl))
      (try simp only [List.getElem_toArray, List.getElem_cons_succ, List.getElem_cons_zero, Act.put, List.setIfInBounds_toArray, List.set_cons_zero, List.set_cons_succ])
      refine wpAnyH_take (i := 4) (v := ?va4) rfl (by kernel_rfl) (by kernel_rfl) (by kernel_rfl) (fun _ _ _ h => h) (Or.inl ⟨by rfl, ?hya4⟩) (by assumption) ?resta4
      case hya4 => (intro W hSw; (try dsimp only at hSw); obtain ⟨hS1, hS2, hS3⟩ := hSw; (go_simp <;> with_reducible rfl))
      (try simp only [List.getElem_toArray, List.getElem_cons_succ, List.getElem_cons_zero, Act.put, List.setIfInBounds_toArray, List.set_cons_zero, List.set_cons_succ])
      refine wpAnyH_take (i := 5) (v := ?va5) rfl (by kernel_rfl) (by kernel_rfl) (by kernel_rfl) (fun _ _ _ h => h) (Or.inl ⟨by rfl, ?hya5⟩) (by assumption) ?resta5
      case hya5 => (intro W hSw; (try dsimp only at hSw); obtain ⟨hS1, hS2, hS3⟩ := hSw; (go_simp <;> with_reducible rfl))
      (try simp only [List.getElem_toArray, List.getElem_cons_succ, List.getElem_cons_zero, Act.put, List.setIfInBounds_toArray, List.set_cons_zero, List.set_cons_succ])
      refine wpAnyH_take (i := 6) (v := ?va6) rfl (by kernel_rfl) (by kernel_rfl) (by kernel_rfl) (fun _ _ _ h => h) (Or.inl ⟨by rfl, ?hya6⟩) (by assumption) ?resta6
      case hya6 => (intro W hSw; (try dsimp only at hSw); obtain ⟨hS1, hS2, hS3⟩ := hSw; (go_simp <;> with_reducible rfl))
      (try simp only [List.getElem_toArray, List.getElem_cons_succ, List.getElem_cons_zero, Act.put, List.setIfInBounds_toArray, List.set_cons_zero, List.set_cons_succ])
      refine wpAnyH_take (i := 7) (v := ?va7) rfl (by kernel_rfl) (by kernel_rfl) (by kernel_rfl) (fun _ _ _ h => h) (Or.inl ⟨by rfl, ?hya7⟩) (by assumption) ?resta7
      case hya7 => (intro W hSw; (try dsimp only at hSw); obtain ⟨hS1, hS2, hS3⟩ := hSw; (go_simp <;> with_reducible rfl))
      (try simp only [List.getElem_toArray, List.getElem_cons_succ, List.getElem_cons_zero, Act.put, List.setIfInBounds_toArray, List.set_cons_zero, List.set_cons_succ])
      refine wpAnyH_take (i := 8) (v := ?va8) rfl (by kernel_rfl) (by kernel_rfl) (by kernel_rfl) (fun _ _ _ h => h) (Or.inl ⟨by rfl, ?hya8⟩) (by assumption) ?resta8
      case hya8 => (intro W hSw; (try dsimp only at hSw); obtain ⟨hS1, hS2, hS3⟩ := hSw; (go_simp <;> with_reducible rfl))
      (try simp only [List.getElem_toArray, List.getElem_cons_succ, List.getElem_cons_zero, Act.put, List.setIfInBounds_toArray, List.set_cons_zero, List.set_cons_succ])
      refine wpAnyH_take (i := 9) (v := ?va9) rfl (by kernel_rfl) (by kernel_rfl) (by kernel_rfl) (fun _ _ _ h => h) (Or.inl ⟨by rfl, ?hya9⟩) (by assumption) ?resta9
      case hya9 => (intro W hSw; (try dsimp only at hSw); obtain ⟨hS1, hS2, hS3⟩ := hSw; (go_simp <;> with_reducible rfl))
      (try simp only [List.getElem_toArray, List.getElem_cons_succ, List.getElem_cons_zero, Act.put, List.setIfInBounds_toArray, List.set_cons_zero, List.set_cons_succ])
      refine wpAnyH_take (i := 10) (v := ?va10) rfl (by kernel_rfl) (by kernel_rfl) (by kernel_rfl) (fun _ _ _ h => h) (Or.inl ⟨by rfl, ?hya10⟩) (by assumption) ?resta10
      case hya10 => (intro W hSw; (try dsimp only at hSw); obtain ⟨hS1, hS2, hS3⟩ := hSw; (go_simp <;> with_reducible rfl))
      (try simp only [List.getElem_toArray, List.getElem_cons_succ, List.getElem_cons_zero, Act.put, List.setIfInBounds_toArray, List.set_cons_zero, List.set_cons_succ])
      have hE0 := emptyF 36 4 tcell wr.drew
      have hI0 : InF 4 tcell (wr.drew.alloc (.cells #[] 36)) F m' y := HI.out.below ((show Below wr.heap.size wr wr.drew from V0.out).alloc (Nat.le_refl _) _)
      refine wpAnyH_ready (rs := [3]) (by kernel_rfl) (by simp) ?_
      refine AllReadyH.cons rfl (fun K hK => ?_) AllReadyH.nil
      go_simp
      refine hK.out _ _ ?_ (fun hHeld => ?_)
      · (try dsimp only); exact SB.out _ (Lib.hid (V0.out.alloc (Nat.le_refl _) _))
      clear hK K
      (try simp only [List.getElem_toArray, List.getElem_cons_succ, List.getElem_cons_zero, Act.put, List.setIfInBounds_toArray, List.set_cons_zero, List.set_cons_succ])
      refine wpAnyH_ready (rs := [11]) (by kernel_rfl) (by simp) ?_
      refine AllReadyH.cons rfl (fun K hK => ?_) AllReadyH.nil
      refine step_appF0 tcell_len tcell_one Try.underlying29 timerInfo rfl (by decide) (by decide) rfl (.tmp 22) (.tmp 29) rfl (B := wr.heap.size) rfl hE0 rfl hI0 (by omega) (by simp) ?_
      intro A2 c2 u ho2 hg2
      rw [Nat.zero_add, List.nil_append] at ho2
      have V1 : Hid (Below wr.heap.size wr u) := Lib.hid ((V0.out.alloc (Nat.le_refl _) _).grown hg2 (by simp) (fun r e => by simp at e; omega))
      refine hK.out _ _ ?_ (fun hHeld => ?_)
      · (try dsimp only); exact SB.out _ V1
      clear hK K hE0 hI0 hg2
      (try simp only [List.getElem_toArray, List.getElem_cons_succ, List.getElem_cons_zero, Act.put, List.setIfInBounds_toArray, List.set_cons_zero, List.set_cons_succ])
      have hOu := HO.out.below V1.out
      have hvl : vs.length = 24 := hOu.1
      obtain ⟨v0, hv0⟩ : ∃ v, vs[k]? = some v := ⟨_, List.getElem?_eq_getElem (by omega)⟩
      have hpc := World.ownsRow.cellAt hOu.2 k (by omega)
      rw [scell_map, List.getElem?_map, hv0, Option.map_some] at hpc
      have hpf := World.ownsRow.frozenAt hOu.2 k
      have hul : pg < u.heap.size := by have := HP.out.2; have := HT.out.lt; have := V1.out.size; omega
      refine wpAnyH_take (i := 12) (v := ?va12) rfl (by kernel_rfl) (by kernel_rfl) (by kernel_rfl) (fun _ _ _ h => h) (Or.inl ⟨by rfl, ?hya12⟩) (by assumption) ?resta12
      case hya12 => (intro W hSw; (try dsimp only at hSw); obtain ⟨hS1, hS2, hS3⟩ := hSw; (go_simp <;> with_reducible rfl))
      (try simp only [List.getElem_toArray, List.getElem_cons_succ, List.getElem_cons_zero, Act.put, List.setIfInBounds_toArray, List.set_cons_zero, List.set_cons_succ])
      refine wpAnyH_ready (rs := [13]) (by kernel_rfl) (by simp) ?_
      refine AllReadyH.cons rfl (fun K hK => ?_) AllReadyH.nil
      clear hHeld
      go_simp
      have hbu := (below_step HB.out V1.out).setCell (p := ⟨pg, k, none⟩) (by have := HP.out.1; simp; omega) (.slice A2 m' c2)
      refine hK.out _ _ ?_ (fun hHeld => ?_)
      · (try dsimp only)
        exact ⟨((HT.out.below V1.out).aside (p := ⟨pg, k, none⟩) (by have := HP.out.2; simp; omega) _).look 1, (HG.out.below hbu).look 1, (hbu.cell (p := ⟨b, o + k, none⟩) hbl).trans HC.out⟩
      clear hK K
      (try simp only [List.getElem_toArray, List.getElem_cons_succ, List.getElem_cons_zero, Act.put, List.setIfInBounds_toArray, List.set_cons_zero, List.set_cons_succ])
      refine wpAnyH_done (by kernel_rfl) ?_ _
      have hRu := (HR.out.below V1.out).aside (p := ⟨pg, k, none⟩) (by have := HP.out.1; simp; omega) (.slice A2 m' c2)
      have hTu := (HT.out.below V1.out).aside (p := ⟨pg, k, none⟩) (by have := HP.out.2; simp; omega) (.slice A2 m' c2)
      have hOu2 := hOu.put1 k (A2, m', c2)
      have hQu := (HQ.out.below V1.out).set (v := (A2, m', c2)) (y := y) (w' := u.setCell ⟨pg, k, none⟩ (.slice A2 m' c2)) hv0
        ((ho2.mono (show w.heap.size ≤ wr.heap.size from HB.out.size)).grown (setCell_grown _ _ _) (.inr (fun e => by
          obtain ⟨cs1, h1⟩ := hOu.typ (r := pg) rfl
          obtain ⟨cs2, h2⟩ := ho2.typ (r := pg) e
          rw [h1] at h2; simp at h2)))
        (fun x hx r hr _ => (setCell_grown u ⟨pg, k, none⟩ (.slice A2 m' c2)).block r ((HQ.out.below V1.out).blk x hx r hr).2.1 (fun e => by
          obtain ⟨cs1, h1⟩ := hOu.typ (r := pg) rfl
          obtain ⟨_, _, cs2, h2⟩ := (HQ.out.below V1.out).blk x hx r hr
          injection e with e
          subst e
          rw [h1] at h2; simp at h2))
        (.inr fun x hx r hr e => by
          have h1 := (HQ.out.blk x hx r hr).2.1
          have h2 := (ho2.block r e).1
          omega)
      rw [rows_step hlt HY.out] at hQu
      clear hHeld hpc hpf hul hOu ho2
      go_wp2
      go_roundw
      case rel => exact ⟨k + 1, _, by omega, by go_num, Lib.hid hbu, Lib.hid hRu, Lib.hid hTu, Lib.hid hOu2, Lib.hid hQu⟩
      case measure => simp [intOf]; omega
    · have hk24 : k = 24 := by omega
      subst hk24
      have hQ := HQ.out
      rw [Nat.sub_self, List.replicate_zero, List.append_nil, List.take_of_length_le (by omega)] at hQ
      have hT := HT.out
      have hR := HR.out
      have t0 := hT.look 0
      have t1 := hT.look 1
      have htl := hT.lt
      have r0 := hR.look 0
      have r1 := hR.look 1
      have f0 := hR.free 0
      have f1 := hR.free 1
      have hrl := hR.lt
      go_wp2
      clear t0 t1 htl r0 r1 f0 f1
      have hbx := (hR.puts 0 (.int .i64 now) (cs' := #[.int .i64 now, .slice none 0 0]) rfl).puts 1 (.slice (some ⟨pg, 0, none⟩) 24 pc) (cs' := #[.int .i64 now, .slice (some ⟨pg, 0, none⟩) 24 pc]) rfl
      have q0 := hbx.look 0
      have q1 := hbx.look 1
      have hQ2 := hQ.same (w' := (wr.setCell ⟨w.heap.size, 0, none⟩ (.int .i64 now)).setCell ⟨w.heap.size, 1, none⟩ (.slice (some ⟨pg, 0, none⟩) 24 pc)) (fun v hv r hr => by
        have h1 := hQ.blk v hv r hr
        have hne : r ≠ w.heap.size := fun e => by
          obtain ⟨_, _, cs, h2⟩ := h1
          rw [e, show wr.heap[w.heap.size]? = _ from hR] at h2; simp at h2
        rw [Below.heap_setCell _ _ _ _ hne, Below.heap_setCell _ _ _ _ hne])
      refine bodyPost_ret (v := .agg #[.int .i64 now, .slice (some ⟨pg, 0, none⟩) 24 pc]) (by simp [results, Try.results68, go_sem, q0, q1]) rfl ⟨_, _, _, rfl, ?_, hQ2, (HB.out.setCell (by simp) _).setCell (by simp) _⟩
      exact (HO.out.grown (setCell_grown _ _ _) (.inr (by have := HP.out.1; simp; omega))).grown (setCell_grown _ _ _) (.inr (by have := HP.out.1; simp; omega))

set_option maxRecDepth 100000 in
set_option maxHeartbeats 4000000 in
theorem specTimersIn_any (now : Int) (q : Bool) (lo hi : Nat) (A : Option Addr) (n c : Nat) (ys : List (List Tmr)) (w : World) (ha : Rep.timer.rows.Sl q lo hi w A n ys) (hh : hi ≤ w.heap.size) (hn : n ≤ 1048576) (ht : tot ys ≤ 1048576) :
    Calls Try.prog 31 #[.agg #[.int .i64 now, .slice A n c]] w (WOut w (faultW now ys) (tiN now ys) (tiR now ys) (tiD now ys)) := by
  have HA := Rep.Sl.kept ha hh
  have hl := ha.1
  have HM : Hid (∀ y ∈ ys, y.length ≤ 1048576) := Lib.hid (fun y hy => by
    obtain ⟨i, hi, rfl⟩ := List.getElem_of_mem hy
    have := tot_at ys i _ (List.getElem?_eq_getElem hi)
    omega)
  obtain ⟨r, hr⟩ : ∃ r, faultW now ys = r := ⟨_, rfl⟩
  have HRR := Lib.hid hr
  have HTT := Lib.hid ht
  clear ha hr ht
  go_enter Try.func31, Try.ntmps31
  go_upto_region 1 with (fail)
  refine Code.wp_name ?_
  intro V hV
  have HX : Hid (Box V w.heap.size 26 #[.int .i64 now, .slice A n c]) := Lib.hid (by rw [hV]; exact (Box.made _ _ _).over _)
  have HR : Hid (Box V (w.heap.size + 1) 31 #[.int .i64 0, .int .i64 0, .slice none 0 0, .slice none 0 0]) := Lib.hid (by rw [hV]; exact Box.made_at _ _ _ (by simp))
  have HB : Hid (Below w.heap.size w V) := Lib.hid (by rw [hV]; exact ((Below.refl _ _).alloc (Nat.le_refl _) _).alloc (by simp) _)
  have HZ : Hid (w.heap.size + 2 = V.heap.size) := Lib.hid (by rw [hV]; simp)
  clear hV
  have c0 := HX.out.look 0
  have c1 := HX.out.look 1
  have hxl := HX.out.lt
  go_wp2_with fail
  refine (specWheelFault_any now q lo hi A n c ys _ (HA.below HB.out).sl (HA.below HB.out).le hn HTT.out).mono ?_
  rw [HRR.out]
  rintro e w1 ⟨rfl, hb1⟩
  have HX1 := Lib.hid (HX.out.below hb1)
  have HR1 := Lib.hid (HR.out.below hb1)
  have HB1 := Lib.hid (below_step HB.out hb1)
  have HZ1 : Hid (w.heap.size + 2 ≤ w1.heap.size) := Lib.hid (by have := HZ.out; have := hb1.size; omega)
  clear hb1 HX HR HB HZ c0 c1 hxl
  have hxl := HX1.out.lt
  have hrl := HR1.out.lt
  by_cases hr0 : r = 0
  · subst hr0
    obtain ⟨hok, h24, h60⟩ := fault_ok HRR.out
    obtain rfl : n = 24 := by omega
    have HWO : Hid (tiN now ys = now ∧ tiR now ys = ys ∧ tiD now ys = ys.flatten) := Lib.hid ⟨if_pos HRR.out, if_pos HRR.out, if_pos HRR.out⟩
    go_wp2_with fail
    refine (l4Copy_any q lo hi w.heap.size A c now ys _ HX1.out (HA.below HB1.out).sl (HA.below HB1.out).le HM.out).mono ?_
    rintro e w2 ⟨P, pc, vs, rfl, hor, hrr, hb2⟩
    have HX2 := Lib.hid (HX1.out.below hb2)
    have HR2 := Lib.hid (HR1.out.below hb2)
    have HB2 := Lib.hid (below_step HB1.out hb2)
    clear hxl hrl
    go_wp2_with fail
    refine (l4All_any q lo hi w.heap.size A 24 c now ys _ HX2.out (HA.below HB2.out).sl (HA.below HB2.out).le (by omega) HTT.out).mono ?_
    rintro e w3 ⟨E, m, d, rfl, hoe, hb3⟩
    have hor2 := hor.below hb3
    have hrr2 := hrr.below hb3
    have hoe2 := hoe.mono (show w1.heap.size ≤ w2.heap.size from hb2.size)
    have HK0 := RowsO.resK2 hrr2 hor2 hoe2 (fun v hv r hr e => by
      have h1 := (hrr.blk v hv r hr).2.1
      have h2 := (hoe.block r e).1
      omega)
    have HK := ResK.kept HK0 (Nat.le_refl _)
    have HR6 := HR2.out.below hb3
    have HB6 := below_step HB2.out hb3
    clear hb3 hor hrr hoe hor2 hrr2 hoe2 HK0 hb2
    obtain ⟨hbx, hres⟩ := res_stored (g := w.heap.size + 1) HR6 (by omega) (by have := HZ1.out; omega) HB6 HK 0 now pc d
    have r0 := HR6.look 0
    have r1 := HR6.look 1
    have r2 := HR6.look 2
    have r3 := HR6.look 3
    have f0 := HR6.free 0
    have f1 := HR6.free 1
    have f2 := HR6.free 2
    have f3 := HR6.free 3
    have hrl := HR6.lt
    go_wp2
    clear r0 r1 r2 r3 f0 f1 f2 f3 hrl
    have q0 := hbx.look 0
    have q1 := hbx.look 1
    have q2 := hbx.look 2
    have q3 := hbx.look 3
    exact bodyPost_ret (v := .agg #[.int .i64 0, .int .i64 now, .slice P 24 pc, .slice E m d]) (by simp [results, Try.results31, go_sem, q0, q1, q2, q3]) rfl (by rw [HRR.out, HWO.out.1, HWO.out.2.1, HWO.out.2.2]; exact hres)
  · have HWO : Hid (tiN now ys = 0 ∧ tiR now ys = [] ∧ tiD now ys = []) := Lib.hid (by have h : ¬ faultW now ys = 0 := by rw [HRR.out]; exact hr0
                                                                                       exact ⟨if_neg h, if_neg h, if_neg h⟩)
    have hr0' : (r != 0) = true := by rw [bne_iff_ne]; exact hr0
    clear hr0
    have r0 := HR1.out.look 0
    have r1 := HR1.out.look 1
    have r2 := HR1.out.look 2
    have r3 := HR1.out.look 3
    have f0 := HR1.out.free 0
    have f1 := HR1.out.free 1
    have f2 := HR1.out.free 2
    have f3 := HR1.out.free 3
    go_wp2
    clear r0 r1 r2 r3 f0 f1 f2 f3
    have hbx := (((HR1.out.puts 0 (.int .i64 r) (cs' := #[.int .i64 r, .int .i64 0, .slice none 0 0, .slice none 0 0]) rfl).puts 1 (.int .i64 0) (cs' := #[.int .i64 r, .int .i64 0, .slice none 0 0, .slice none 0 0]) rfl).puts 2 (.slice none 0 0) (cs' := #[.int .i64 r, .int .i64 0, .slice none 0 0, .slice none 0 0]) rfl).puts 3 (.slice none 0 0) (cs' := #[.int .i64 r, .int .i64 0, .slice none 0 0, .slice none 0 0]) rfl
    have q0 := hbx.look 0
    have q1 := hbx.look 1
    have q2 := hbx.look 2
    have q3 := hbx.look 3
    exact bodyPost_ret (v := .agg #[.int .i64 r, .int .i64 0, .slice none 0 0, .slice none 0 0]) (by simp [results, Try.results31, go_sem, q0, q1, q2, q3]) rfl (by rw [HRR.out, HWO.out.1, HWO.out.2.1, HWO.out.2.2]; refine WOut.zero ?_; exact (((HB1.out.setCell (by simp) _).setCell (by simp) _).setCell (by simp) _).setCell (by simp) _)

end
end Go.Proofs.Ytfgbjjaipakpaaa
