/-
  A dial without a key. No statement is proved here.
-/
import Derived.Test.YtakplomopbnekaaDialWith
namespace Go.Proofs.Ytakplomopbnekaa
open Go.RowKit Go.Shelf
set_option linter.unusedVariables false

/-- The rows of a dial into which timers are put, one after another. -/
def withAll (now : Int) (ts : List Tmr) : Nat → List Tmr := fun k => ts.filter fun t => (poV now t.due).toNat == k
theorem withAll_snoc (now : Int) (ts : List Tmr) (t : Tmr) : withAll now (ts ++ [t]) = putY (withAll now ts) (poV now t.due).toNat t := by
  funext k
  unfold withAll putY
  rw [List.filter_append]
  by_cases h : k = (poV now t.due).toNat
  · subst h; simp
  · rw [if_neg h]
    have : ((poV now t.due).toNat == k) = false := by rw [beq_eq_false_iff_ne]; exact fun e => h e.symm
    simp [this]
theorem withAll_le (now : Int) (ts : List Tmr) (k : Nat) : (withAll now ts k).length ≤ ts.length := List.length_filter_le _ _
theorem take_filter {ts : List Tmr} {j : Nat} {t : Tmr} (p : Tmr → Bool) (h : ts[j]? = some t) : (ts.take (j + 1)).filter p = (ts.take j).filter p ++ (if p t then [t] else []) := by
  rw [List.take_succ_eq_append_getElem (List.getElem?_eq_some_iff.1 h).1, (List.getElem?_eq_some_iff.1 h).2, List.filter_append]
  congr 1
  cases hp : p t <;> simp [hp]

section
attribute [local go_sem] Oper.semAt_some
attribute [local go_sem high] eql_keyT neq_keyT

set_option maxRecDepth 100000 in
set_option maxHeartbeats 4000000 in
theorem without_any (now : Int) (s : Nat → Value) (ys : Nat → List Tmr) (lo hi : Nat) (k : Tmr) (w : World) (hs : DialIn lo hi w s ys) (hh : hi ≤ w.heap.size) (hm : (rowsP ys (upto 24)).length ≤ 40000) (hm2 : ∀ k, k < 24 → (ys k).length ≤ 40000) (hp : ∀ t ∈ rowsP ys (upto 24), poC now t.due = 0) :
    Calls Try.prog 81 #[.agg (dialCells now s), .agg #[.int .i64 k.typ, .int .i64 k.id, .int .i64 k.adv]] w fun e w' => ∃ s', e = .returned (.agg (dialCells now s')) ∧ DialC w.heap.size w'.heap.size w' s' (withAll now ((rowsP ys (upto 24)).filter fun t => !keyT t k)) ∧ Below w.heap.size w w' := by
  have HS := Lib.hid hs
  have HM := Lib.hid hm
  have HM2 := Lib.hid hm2
  have HP := Lib.hid hp
  clear hs hm hp hm2
  obtain ⟨ts, hts⟩ : ∃ ts, rowsP ys (upto 24) = ts := ⟨_, rfl⟩
  rw [hts] at HM HP
  have HTS := Lib.hid hts
  clear hts
  go_enter Try.func81, Try.ntmps81
  go_upto_region 1 with (fail)
  refine Code.wp_name ?_
  intro V0 hV0
  have HX0 : Hid (Box V0 w.heap.size 112 (dialCells now s)) := Lib.hid (by rw [hV0]; exact ((Box.made _ _ _).over _).over _)
  have HK0 : Hid (Box V0 (w.heap.size + 1) 34 #[.int .i64 k.typ, .int .i64 k.id, .int .i64 k.adv]) := Lib.hid (by rw [hV0]; exact (Box.made_at _ _ _ (by simp)).over _)
  have HR0 : Hid (Box V0 (w.heap.size + 2) 112 (dialCells 0 fun _ => .slice none 0 0)) := Lib.hid (by rw [hV0]; exact Box.made_at _ _ _ (by simp))
  have HB0 : Hid (Below w.heap.size w V0) := Lib.hid (by rw [hV0]; exact (((Below.refl _ _).alloc (Nat.le_refl _) _).alloc (by simp) _).alloc (by simp; omega) _)
  have HZ0 : Hid (w.heap.size + 3 = V0.heap.size) := Lib.hid (by rw [hV0]; simp)
  clear hV0
  have c0 := (HX0.out.look 0).trans (show _ = some (Value.int .i64 now) from rfl)
  have hxl := HX0.out.lt
  go_upto_region 2 with (refine wpList_store_dial (now := 0) (now' := now) (s := fun _ => .slice none 0 0) (s' := fun _ => .slice none 0 0) rfl _ _ rfl rfl rfl (Box.made V0 112 (dialCells 0 fun _ => .slice none 0 0)) (fun _ _ => rfl) ?_)
  clear c0 hxl
  refine Code.wp_name ?_
  intro V hV
  have HX : Hid (Box V w.heap.size 112 (dialCells now s)) := Lib.hid (by rw [hV]; exact (HX0.out.over _).grown (setRow_grown _ _ _) (by have := HZ0.out; simp; omega))
  have HK : Hid (Box V (w.heap.size + 1) 34 #[.int .i64 k.typ, .int .i64 k.id, .int .i64 k.adv]) := Lib.hid (by rw [hV]; exact (HK0.out.over _).grown (setRow_grown _ _ _) (by have := HZ0.out; simp; omega))
  have HR : Hid (Box V (w.heap.size + 2) 112 (dialCells 0 fun _ => .slice none 0 0)) := Lib.hid (by rw [hV]; exact (HR0.out.over _).grown (setRow_grown _ _ _) (by have := HZ0.out; simp; omega))
  have HD : Hid (Box V V0.heap.size 112 (dialCells now fun _ => .slice none 0 0)) := Lib.hid (by rw [hV]; exact (Box.made V0 _ _).setRow)
  have HB : Hid (Below w.heap.size w V) := Lib.hid (by rw [hV]; exact (HB0.out.alloc HB0.out.size _).grown (setRow_grown _ _ _) (by have := HZ0.out; simp; omega) (fun k e => by injection e with e; have := HZ0.out; omega))
  have HZ : Hid (V0.heap.size + 1 = V.heap.size) := Lib.hid (by rw [hV]; simp [World.setRow])
  clear hV HX0 HR0 HB0 HK0
  go_wp2_with (refine wpList_load_dial rfl _ rfl rfl HX.out ?_)
  refine (timers_any now s ys lo hi V (HS.out.below HB.out hh) (Nat.le_trans hh HB.out.size) HM2.out).mono ?_
  rw [HTS.out]
  rintro e w1 ⟨E, m, d, rfl, ho, hb⟩
  have hml : m ≤ 40000 := by rw [← ho.1]; exact HM.out
  have HO := Rep.Sl.kept (own_timers ho) (Nat.le_refl _)
  have HK1 := Lib.hid (HK.out.below hb)
  have HR1 := Lib.hid (HR.out.below hb)
  have HD1 := Lib.hid (HD.out.below hb)
  have HB1 := Lib.hid (below_step HB.out hb)
  have HZ1 : Hid (V0.heap.size + 1 ≤ w1.heap.size) := Lib.hid (by have := HZ.out; have := hb.size; omega)
  have HL := Lib.hid ho.1
  clear ho hb HX HK HR HD HB
  go_wp2
  go_loopw [14] (fun i wr => ∃ (j : Nat) (s' : Nat → Value), j ≤ m ∧ i = .int .i64 j ∧ Hid (Below w.heap.size w wr) ∧ Hid (V0.heap.size + 1 ≤ wr.heap.size) ∧ Kept V.heap.size w1.heap.size (fun W => Rep.timer.Sl true V.heap.size w1.heap.size W E m ts) wr ∧ Hid (Box wr (w.heap.size + 1) 34 #[.int .i64 k.typ, .int .i64 k.id, .int .i64 k.adv]) ∧ Hid (Box wr (w.heap.size + 2) 112 (dialCells 0 fun _ => .slice none 0 0)) ∧
      Hid (Box wr V0.heap.size 112 (dialCells now s')) ∧ Hid (DialC (V0.heap.size + 1) wr.heap.size wr s' (withAll now ((ts.take j).filter fun t => !keyT t k)))) (fun i _ => m - (intOf i).toNat)
  case atStart => exact ⟨0, _, Nat.zero_le _, rfl, HB1, HZ1, HO, HK1, HR1, HD1, DialC.zero _ _ _⟩
  case round =>
    obtain ⟨j, s', hj, rfl, HB, HZW, HO, HK, HR, HD, HDC⟩ := hrel
    by_cases hlt : j < m
    · obtain ⟨b, o, t, rfl, hta, a0, a1, a2, a3⟩ := Rep.timer_at HO.sl hlt
      have hlt' : (j : Int) < m := by omega
      have HTA := Lib.hid hta
      have HPT := Lib.hid (HP.out t (List.mem_of_getElem? hta))
      clear hta
      go_upto_region 5 with (fail)
      refine Code.wp_name ?_
      intro u1 hu1
      have hb1 : Below wr.heap.size wr u1 := by rw [hu1]; exact (Below.refl _ _).alloc (Nat.le_refl _) _
      have HT1 : Hid (Box u1 wr.heap.size 36 #[.int .i64 t.typ, .int .i64 t.id, .int .i64 t.adv, .int .i64 t.due]) := Lib.hid (by rw [hu1]; exact Box.made _ _ _)
      have HZu : Hid (wr.heap.size + 1 = u1.heap.size) := Lib.hid (by rw [hu1]; simp)
      have HO1 := HO.below hb1
      have HK1 := Lib.hid (HK.out.below hb1)
      have HR1 := Lib.hid (HR.out.below hb1)
      have HD1 := Lib.hid (HD.out.below hb1)
      have HB1 := Lib.hid (below_step HB.out hb1)
      have HDC1 := Lib.hid ((HDC.out.below hb1 (Nat.le_refl _)).mono (Nat.le_refl _) hb1.size)
      clear hu1 hb1 HK HR HD HB HDC a0 a1 a2 a3
      have t0 := HT1.out.look 0
      have t1 := HT1.out.look 1
      have t2 := HT1.out.look 2
      have t3 := HT1.out.look 3
      have htl := HT1.out.lt
      have k0 := HK1.out.look 0
      have k1 := HK1.out.look 1
      have k2 := HK1.out.look 2
      have hkl := HK1.out.lt
      by_cases hkt : keyT t k = true
      · have HKT := Lib.hid hkt
        go_wp2
        go_roundw
        case rel => exact ⟨j + 1, s', by omega, by go_num, HB1, Lib.hid (by have := HZu.out; have := HZW.out; omega), HO1, HK1, HR1, HD1, Lib.hid (by
          rw [take_filter _ HTA.out, HKT.out]
          simpa using HDC1.out)⟩
        case measure => simp [intOf]; omega
      · have hkt' : keyT t k = false := by simpa using hkt
        have HKT := Lib.hid hkt'
        clear hkt
        have hle : ∀ i, i < 24 → (withAll now ((ts.take j).filter fun t => !keyT t k) i).length ≤ 40000 := fun i _ => by
          have h1 := withAll_le now ((ts.take j).filter fun t => !keyT t k) i
          have h2 := List.length_filter_le (fun t => !keyT t k) (ts.take j)
          have h3 := HM.out
          simp only [List.length_take] at h2
          omega
        have HLE := Lib.hid hle
        clear hle
        go_wp2_with (refine wpList_load_dial rfl _ rfl rfl HD1.out ?_)
        refine (with_any now s' _ (V0.heap.size + 1) u1.heap.size t u1 HDC1.out (by have := HZu.out; have := HZW.out; omega) (Nat.le_refl _) HPT.out HLE.out).mono ?_
        rintro e u2 ⟨s2, rfl, hdc, hb2⟩
        have HDC2 := Lib.hid hdc
        have HO2 := HO1.below hb2
        have HK2 := Lib.hid (HK1.out.below hb2)
        have HR2 := Lib.hid (HR1.out.below hb2)
        have HD2 := Lib.hid (HD1.out.below hb2)
        have HB2 := Lib.hid (below_step HB1.out hb2)
        have HZ2 : Hid (V0.heap.size + 1 ≤ u2.heap.size) := Lib.hid (by have := HZu.out; have := HZW.out; have := hb2.size; omega)
        have HONE : Hid (∀ k, k < 24 → (s2 k).oneCell' = true) := Lib.hid (fun k hk => by obtain ⟨E, d, e, _⟩ := hdc k hk; rw [e]; rfl)
        clear hdc hb2 t0 t1 t2 t3 htl k0 k1 k2 hkl HO1 HK1 HR1 HB1 HT1
        go_wp2_with (refine wpList_store_dial (now := now) (now' := now) (s := s') (s' := s2) rfl _ _ rfl rfl rfl HD2.out HONE.out ?_)
        go_roundw
        case rel =>
          have hg := setRow_grown u2 V0.heap.size (dialCells now s2)
          have hz0 := HZ0.out
          have hzs : (u2.setRow V0.heap.size (dialCells now s2)).heap.size = u2.heap.size := by simp [World.setRow]
          refine ⟨j + 1, s2, by omega, by go_num, Lib.hid (HB2.out.grown hg HB2.out.size (fun k e => by injection e with e; omega)), Lib.hid (by rw [hzs]; exact HZ2.out), ?_, Lib.hid (HK2.out.grown hg (by simp; omega)), Lib.hid (HR2.out.grown hg (by simp; omega)), Lib.hid HD2.out.setRow, ?_⟩
          · exact HO2.only (Only.of_grown (lo := V0.heap.size) (hi := V0.heap.size + 1) hg (fun r e => by injection e with e; omega)) (by have := HZ.out; omega)
          · rw [take_filter _ HTA.out, HKT.out]
            simp only [Bool.not_false, if_true]
            rw [withAll_snoc, hzs]
            intro i hi
            obtain ⟨E, d, e, h1, h2, h3⟩ := HDC2.out i hi
            exact ⟨E, d, e, h1, h2, h3.keep (fun b hb1 hb2 => hg.block b hb2 (fun e => by injection e with e; omega))⟩
        case measure => simp [intOf]; omega
    · have hjm : j = m := by omega
      subst hjm
      have HDF : Hid (DialC (V0.heap.size + 1) wr.heap.size wr s' (withAll now (ts.filter fun t => !keyT t k))) := Lib.hid (by
        have h := HDC.out
        rwa [List.take_of_length_le (by have := HL.out; omega)] at h)
      have HONE : Hid (∀ k, k < 24 → (s' k).oneCell' = true) := Lib.hid (fun k hk => by obtain ⟨E, d, e, _⟩ := HDF.out k hk; rw [e]; rfl)
      clear HDC
      go_wp2_with (first | (refine wpList_load_dial rfl _ rfl rfl HD.out ?_) | (refine wpList_store_dial (now := 0) (now' := now) (s := fun _ => .slice none 0 0) (s' := s') rfl _ _ rfl rfl rfl HR.out HONE.out ?_))
      have hR := (HR.out.setRow (cs' := dialCells now s'))
      have hlv := loadVar_dial hR
      have hg := setRow_grown wr (w.heap.size + 2) (dialCells now s')
      have hz0 := HZ0.out
      have hbf := HB.out.grown hg HB.out.size (fun k e => by injection e with e; omega)
      refine bodyPost_ret (v := .agg (dialCells now s')) (by simp [results, Try.results81, hlv, asAddr, Act.put]) rfl ⟨s', rfl, ?_, hbf⟩
      rw [HTS.out]
      have hzs : (wr.setRow (w.heap.size + 2) (dialCells now s')).heap.size = wr.heap.size := by simp [World.setRow]
      rw [hzs]
      intro i hi
      obtain ⟨E, d, e, h1, h2, h3⟩ := HDF.out i hi
      exact ⟨E, d, e, h1, h2, (h3.keep (fun b hb1 hb2 => hg.block b hb2 (fun e => by injection e with e; omega))).mono (by omega) (Nat.le_refl _)⟩

end
end Go.Proofs.Ytakplomopbnekaa
