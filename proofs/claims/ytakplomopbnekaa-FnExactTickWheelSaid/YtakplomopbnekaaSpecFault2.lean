/-
  The model's l4Slot and WheelFault. No statement is proved here.
-/
import Derived.Test.YtakplomopbnekaaSpecFault
namespace Go.Proofs.Ytakplomopbnekaa
open Go.RowKit Go.Shelf
set_option linter.unusedVariables false

theorem poC_in {now due : Int} (h : nwOk now) (hd : now + 1 ≤ due ∧ due ≤ now + 511) : poC now due = 0 ∧ poV now due = placeV now due :=
  ⟨if_pos ⟨h.1, h.2, hd.1, hd.2⟩, if_pos ⟨h.1, h.2, hd.1, hd.2⟩⟩
theorem poC_out {now due : Int} (hd : ¬ (now + 1 ≤ due ∧ due ≤ now + 511)) : poC now due = 3 := if_neg fun h => hd ⟨h.2.2.1, h.2.2.2⟩

set_option maxRecDepth 100000 in
set_option maxHeartbeats 3200000 in
theorem l4Slot_any (q : Bool) (lo hi g : Nat) (A : Option Addr) (n c : Nat) (now : Int) (p : Nat) (ys : List (List Tmr)) (w : World) (hg : Box w g 26 #[.int .i64 now, .slice A n c]) (ha : Rep.timer.rows.Sl q lo hi w A n ys) (hh : hi ≤ w.heap.size) (hn : n ≤ 1048576) (hp : p < n) (hm : ∀ y ∈ ys, y.length ≤ 1048576) (hok : nwOk now) :
    Calls Try.prog 93 #[.pointer (some ⟨g, 0, none⟩), .int .i64 p] w fun e w' => e = .returned (.int .i64 (slotF now p (ys.getD p []))) ∧ Below w.heap.size w w' := by
  obtain ⟨hok1, hok2⟩ := hok
  obtain ⟨b, o, y, E, m, d, rfl, hya, ce, hy⟩ := Rep.rows_at ha hp
  have hmm := hm y (List.mem_of_getElem? hya)
  have hml : y.length = m := hy.1
  have hpy : ys.getD p [] = y := by simp [List.getD, hya]
  rw [hpy]
  have HY := Rep.Sl.kept hy hh
  have HG := Lib.hid hg
  have hgl := hg.lt
  have hp' : (p : Int) < n := by omega
  have CE := Lib.hid (And.intro (World.block_lt_of_cell? w _ ce) ce)
  clear hpy hya hy ha hg ce hm
  go_enter Try.func93, Try.ntmps93
  go_wp2
  go_loopw [5] (fun i wr => ∃ k : Nat, k ≤ m ∧ i = .int .i64 k ∧ Hid (Below w.heap.size w wr) ∧ Hid (slotF now p y = slotF now p (y.drop k))) (fun i _ => m - (intOf i).toNat)
  case atStart => exact ⟨0, Nat.zero_le _, rfl, Below.refl _ _, rfl⟩
  case round =>
    obtain ⟨k, hk, rfl, HB, HS⟩ := hrel
    have hG := HG.out.below HB.out
    have c0 := hG.look 0
    have c1 := hG.look 1
    have hgl' := hG.lt
    have hce : wr.cell? ⟨b, o + p, none⟩ = some (.slice E m d) := (HB.out.cell (p := ⟨b, o + p, none⟩) CE.out.1).trans CE.out.2
    by_cases hlt : k < m
    · obtain ⟨b', o', t, rfl, hta, a0, a1, a2, a3⟩ := Rep.timer_at (HY.below HB.out).sl hlt
      have hlt' : (k : Int) < m := by omega
      have hd := slotF_drop (now := now) (p := p) hta
      clear hta a0 a1 a2
      obtain ⟨due, hdue⟩ : ∃ z, t.due = z := ⟨_, rfl⟩
      rw [hdue] at hd a3
      clear hdue
      by_cases hin : now + 1 ≤ due ∧ due ≤ now + 511
      · have HAL := Lib.hid (allIn_one_yes hin.1 hin.2)
        obtain ⟨e1, e2⟩ := poC_in ⟨hok1, hok2⟩ hin
        rw [e1, if_pos rfl, e2] at hd
        obtain ⟨d1, d2⟩ := hin
        have hq := fun W : World => l1In_any due (now + 1) (now + 511) W
        rw [HAL.out] at hq
        obtain ⟨pv, hpv⟩ : ∃ z, placeV now due = z := ⟨_, rfl⟩
        have HPV := Lib.hid hpv
        rw [hpv] at hd
        clear hpv e1 e2
        by_cases hpp : pv = p
        · rw [if_pos hpp] at hd
          have HD := Lib.hid hd
          have hpp' : (pv == (p : Int)) = true := by simpa using hpp
          clear hd hpp
          go_wp2
          go_quiet ((go_at_call 84; exact Calls.quiet_of_same (hq _)))
          go_wp2_with fail
          refine (l4Place_any now due _ hok1 (by omega) (by omega) (by omega)).mono ?_
          rw [HPV.out]
          rintro e w2 ⟨rfl, hb2⟩
          have HB2 := Lib.hid (below_step (below_drewN HB.out nq) hb2)
          clear hb2
          go_wp2
          go_roundw
          case rel => exact ⟨k + 1, by omega, by go_num, HB2, Lib.hid (HS.out.trans HD.out)⟩
          case measure => simp [intOf]; omega
        · rw [if_neg hpp] at hd
          have HD := Lib.hid hd
          have hpp' : (pv == (p : Int)) = false := by simpa using hpp
          clear hd hpp
          go_wp2
          go_quiet ((go_at_call 84; exact Calls.quiet_of_same (hq _)))
          go_wp2_with fail
          refine (l4Place_any now due _ hok1 (by omega) (by omega) (by omega)).mono ?_
          rw [HPV.out]
          rintro e w2 ⟨rfl, hb2⟩
          have HB2 := Lib.hid (below_step (below_drewN HB.out nq) hb2)
          clear hb2
          go_wp2
          go_ret
          exact ⟨by rw [HS.out, HD.out]; rfl, HB2.out⟩
      · have HAL := Lib.hid (allIn_one_no hin)
        have e1 := poC_out hin
        rw [e1, if_neg (by omega)] at hd
        have HD := Lib.hid hd
        have hq := fun W : World => l1In_any due (now + 1) (now + 511) W
        rw [HAL.out] at hq
        clear hd e1 hin
        go_wp2
        go_quiet ((go_at_call 84; exact Calls.quiet_of_same (hq _)))
        go_wp2
        go_ret
        exact ⟨by rw [HS.out, HD.out]; rfl, below_drewN HB.out _⟩
    · have HE : Hid (slotF now p (y.drop k) = 0) := Lib.hid (by rw [List.drop_eq_nil_of_le (by omega)]; rfl)
      go_wp2
      go_ret
      exact ⟨by rw [HS.out, HE.out]; rfl, HB.out⟩

/-- Where two bear the same Key, the second one is not the first to be found. -/
theorem twin_find {ts : List Tmr} {k : Nat} {t : Tmr} (ht : ts[k]? = some t) : (findV ts t = k ↔ ((ts.take k).any fun u => keyT t u) = false) := by
  have self : keyT t t = true := by simp [keyT]
  have tk : ∀ (i : Nat), i < k → (ts.take k)[i]? = ts[i]? := fun i hi => by rw [List.getElem?_take, if_pos hi]
  constructor
  · intro h
    rw [Bool.eq_false_iff]
    intro ha
    obtain ⟨u, hu, hku⟩ := List.any_eq_true.1 ha
    obtain ⟨i, hi, rfl⟩ := List.getElem_of_mem hu
    have hik : i < k := by simp at hi; omega
    have hu' : ts[i]? = some (ts.take k)[i] := by rw [← tk i hik]; exact List.getElem?_eq_getElem hi
    -- the first one stands at i or ahead
    have hany : ts.any (fun u => keyT u t) = true := List.any_eq_true.2 ⟨t, List.mem_of_getElem? ht, self⟩
    unfold findV at h
    rw [if_pos hany] at h
    have hle : ts.findIdx (fun u => keyT u t) ≤ i := by
      have hil := (List.getElem?_eq_some_iff.1 hu').1
      have hie := (List.getElem?_eq_some_iff.1 hu').2
      by_cases hc : i < ts.findIdx (fun u => keyT u t)
      · have h0 := List.not_of_lt_findIdx hc
        rw [hie, keyT_comm] at h0
        exact absurd hku (by simpa using h0)
      · omega
    omega
  · intro h
    refine findIdx_at ht self fun i u hi hu => ?_
    have : u ∈ ts.take k := List.mem_of_getElem? (by rw [tk i hi]; exact hu)
    have := List.any_eq_false.1 h u this
    rw [keyT_comm]
    simpa using this

theorem twin_none {ts : List Tmr} (h : ∀ (k : Nat) t, ts[k]? = some t → findV ts t = k) : twinB ts = false := by
  have go : ∀ k, k ≤ ts.length → twinB (ts.take k) = false := by
    intro k
    induction k with
    | zero => intro _; simp [twinB]
    | succ k ih =>
      intro hk
      have ht := List.getElem?_eq_getElem (show k < ts.length by omega)
      rw [twinB_take ht, ih (by omega), Bool.false_or]
      exact (twin_find ht).1 (h k _ ht)
  have := go ts.length (Nat.le_refl _)
  rwa [List.take_of_length_le (Nat.le_refl _)] at this
theorem twin_some {ts : List Tmr} {k : Nat} {t : Tmr} (ht : ts[k]? = some t) (h : findV ts t ≠ k) : twinB ts = true := by
  have hn := fun h' => h ((twin_find ht).2 h')
  refine twinB_more (k := k + 1) ?_
  rw [twinB_take ht]
  simp only [Bool.or_eq_true]
  exact .inr (by simpa using hn)

set_option maxRecDepth 100000 in
set_option maxHeartbeats 3200000 in
theorem specWheelFault_any (now : Int) (q : Bool) (lo hi : Nat) (A : Option Addr) (n c : Nat) (ys : List (List Tmr)) (w : World) (ha : Rep.timer.rows.Sl q lo hi w A n ys) (hh : hi ≤ w.heap.size) (hn : n ≤ 1048576) (ht : tot ys ≤ 1048576) :
    Calls Try.prog 25 #[.agg #[.int .i64 now, .slice A n c]] w fun e w' => e = .returned (.int .i64 (faultW now ys)) ∧ Below w.heap.size w w' := by
  have hl := ha.1
  have hm : ∀ y ∈ ys, y.length ≤ 1048576 := fun y hy => by
    obtain ⟨i, hi, rfl⟩ := List.getElem_of_mem hy
    have := tot_at ys i _ (List.getElem?_eq_getElem hi)
    omega
  have HM := Lib.hid hm
  clear hm
  obtain ⟨V, hV⟩ : ∃ V : World, V = w.alloc (.cells #[.int .i64 now, .slice A n c] 26) := ⟨_, rfl⟩
  have hbV : Below w.heap.size w V := by rw [hV]; exact (Below.refl _ _).alloc (Nat.le_refl _) _
  have HB := Lib.hid hbV
  have HX := Lib.hid (show Box V w.heap.size 26 #[.int .i64 now, .slice A n c] by rw [hV]; exact Box.made _ _ _)
  have HA := (Rep.Sl.kept ha hh).below hbV
  clear ha hbV
  have c0 := HX.out.look 0
  have c1 := HX.out.look 1
  have hxl := HX.out.lt
  by_cases hok : nwOk now
  · have HAL := Lib.hid (allIn_one_yes hok.1 hok.2)
    go_enter Try.func25, Try.ntmps25
    go_wp2_with fail
    rw [← hV]
    clear hV
    refine (l4Time_any now _).mono ?_
    rw [HAL.out]
    rintro e w1 ⟨rfl, rfl⟩
    go_wp2_with fail
    refine (l4All_any q lo hi w.heap.size A n c now ys _ HX.out HA.sl HA.le hn ht).mono ?_
    rintro e w2 ⟨E, m, d, rfl, ho, hb2⟩
    have HX2 := Lib.hid (HX.out.below hb2)
    have HB2 := Lib.hid (below_step HB.out hb2)
    have HA2 := HA.below hb2
    have HO2 := Rep.Sl.kept (own_timers ho) (Nat.le_refl _)
    have HMT : Hid (m = tot ys) := Lib.hid (by rw [← flat_tot]; exact ho.1.symm)
    clear hb2 HX HB HA ho c0 c1 hxl
    have c0 := HX2.out.look 0
    have c1 := HX2.out.look 1
    have hxl := HX2.out.lt
    by_cases h24 : n = 24
    · subst h24
      by_cases h60 : 60 < m
      · have HF : Hid (faultW now ys = 2) := Lib.hid (by unfold faultW; rw [if_neg (fun h => h hok), if_pos (.inr (by have := HMT.out; omega))])
        have h60' : (60 : Int) < m := by omega
        go_wp2
        go_ret
        exact ⟨by rw [HF.out]; rfl, HB2.out⟩
      · have hF1 : faultW now ys = if slotsF now 0 ys ≠ 0 then slotsF now 0 ys else if twinB ys.flatten = true then 8 else 0 := by
          unfold faultW
          rw [if_neg (fun h => h hok), if_neg (by have := HMT.out; omega)]
        have HF1 := Lib.hid hF1
        have h60' : ¬ (60 : Int) < m := by omega
        clear hF1
        go_wp2
        go_loopw [4] (fun i wr => ∃ k : Nat, k ≤ 24 ∧ i = .int .i64 k ∧ Hid (Below w2.heap.size w2 wr) ∧ Hid (∀ j z, j < k → ys[j]? = some z → slotF now (j : Int) z = 0)) (fun i _ => 24 - (intOf i).toNat)
        case atStart => exact ⟨0, Nat.zero_le _, rfl, Below.refl _ _, fun j z hj => absurd hj (by omega)⟩
        case round =>
          obtain ⟨k, hk, rfl, HW, HS⟩ := hrel
          by_cases hlt : k < 24
          · have hlt' : (k : Int) < 24 := by omega
            obtain ⟨r, hr⟩ : ∃ r, slotF now (k : Int) (ys.getD k []) = r := ⟨_, rfl⟩
            have HR := Lib.hid hr
            have hyk := List.getElem?_eq_getElem (show k < ys.length by omega)
            have HYK := Lib.hid (show ys[k]? = some (ys.getD k []) by simp [List.getD, hyk])
            clear hr hyk
            go_wp2_with fail
            refine (l4Slot_any q lo hi w.heap.size A 24 c now k ys _ (HX2.out.below HW.out) (HA2.below HW.out).sl (HA2.below HW.out).le hn hlt HM.out hok).mono ?_
            rw [HR.out]
            rintro e w3 ⟨rfl, hb3⟩
            have HW3 := Lib.hid (below_step HW.out hb3)
            clear hb3
            by_cases hr0 : r = 0
            · subst hr0
              go_wp2
              go_roundw
              case rel => exact ⟨k + 1, by omega, by go_num, HW3, Lib.hid (fun j z hj hz => by
                rcases Nat.lt_succ_iff_lt_or_eq.1 hj with h | rfl
                · exact HS.out j z h hz
                · have := HYK.out; rw [hz] at this; injection this with this; rw [this]; exact HR.out)⟩
              case measure => simp [intOf]; omega
            · have HF : Hid (faultW now ys = r) := Lib.hid (by
                have h1 := slotsF_first now ys 0 k _ HYK.out (fun j z hj hz => by rw [Nat.zero_add]; exact HS.out j z hj hz) (by rw [Nat.zero_add, HR.out]; exact hr0)
                rw [Nat.zero_add, HR.out] at h1
                rw [HF1.out, h1, if_pos hr0])
              have hr0' : (r == 0) = false := by simpa using hr0
              clear hr0
              go_wp2
              go_ret
              exact ⟨by rw [HF.out]; rfl, below_step HB2.out HW3.out⟩
          · have hz : slotsF now 0 ys = 0 := slotsF_all now ys 0 fun j z hz => by rw [Nat.zero_add]; exact HS.out j z (by have := (List.getElem?_eq_some_iff.1 hz).1; omega) hz
            have hf2 := HF1.out
            rw [if_neg (fun h => h hz)] at hf2
            have HF2 := Lib.hid hf2
            have HO3 := HO2.below HW.out
            have HB3 := Lib.hid (below_step HB2.out HW.out)
            clear hf2 hz HF1 HS
            obtain ⟨ts, hts⟩ : ∃ ts, ys.flatten = ts := ⟨_, rfl⟩
            rw [hts] at HF2 HO3
            clear hts
            go_wp2
            go_loopw [6] (fun i wx => ∃ j : Nat, j ≤ m ∧ i = .int .i64 j ∧ Hid (Below wr.heap.size wr wx) ∧ Hid (∀ (t : Nat) z, t < j → ts[t]? = some z → findV ts z = t)) (fun i _ => m - (intOf i).toNat)
            case atStart => exact ⟨0, Nat.zero_le _, rfl, Below.refl _ _, fun j z hj => absurd hj (by omega)⟩
            case round =>
              obtain ⟨j, hj, rfl, HWx, HT⟩ := hrel
              by_cases hjl : j < m
              · have hjl' : (j : Int) < m := by omega
                obtain ⟨b, o, t, rfl, hta, a0, a1, a2, a3⟩ := Rep.timer_at (HO3.below HWx.out).sl hjl
                have HTA := Lib.hid hta
                obtain ⟨f, hf⟩ : ∃ f, findV ts t = f := ⟨_, rfl⟩
                have HFV := Lib.hid hf
                clear hta hf
                go_wp2_with fail
                refine (l4Find_any true _ _ _ m d ts t _ (HO3.below HWx.out).sl (HO3.below HWx.out).le (by omega)).mono ?_
                rw [HFV.out]
                rintro e w4 ⟨rfl, hb4⟩
                have HW4 := Lib.hid (below_step HWx.out hb4)
                clear hb4
                by_cases hfj : f = j
                · subst hfj
                  go_wp2
                  go_roundw
                  case rel => exact ⟨j + 1, by omega, by go_num, HW4, Lib.hid (fun i z hi hz => by
                    rcases Nat.lt_succ_iff_lt_or_eq.1 hi with h | rfl
                    · exact HT.out i z h hz
                    · have := HTA.out; rw [hz] at this; injection this with this; rw [this]; exact HFV.out)⟩
                  case measure => simp [intOf]; omega
                · have HF : Hid (faultW now ys = 8) := Lib.hid (by rw [HF2.out, if_pos (twin_some HTA.out (by rw [HFV.out]; exact hfj))])
                  have hfj' : (f == (j : Int)) = false := by simpa using hfj
                  clear hfj
                  go_wp2
                  go_ret
                  exact ⟨by rw [HF.out]; rfl, below_step HB3.out HW4.out⟩
              · have HF : Hid (faultW now ys = 0) := Lib.hid (by
                  have := twin_none (ts := ts) (fun t z hz => HT.out t z (by have := (List.getElem?_eq_some_iff.1 hz).1; have := HO3.sl.1; omega) hz)
                  rw [HF2.out, this]; rfl)
                go_wp2
                go_ret
                exact ⟨by rw [HF.out]; rfl, below_step HB3.out HWx.out⟩
    · have HF : Hid (faultW now ys = 2) := Lib.hid (by unfold faultW; rw [if_neg (fun h => h hok), if_pos (.inl (by omega))])
      have h24' : ((n : Int) == 24) = false := by simp; omega
      go_wp2
      go_ret
      exact ⟨by rw [HF.out]; rfl, HB2.out⟩
  · have HAL := Lib.hid (allIn_one_no hok)
    have HF : Hid (faultW now ys = 3) := Lib.hid (by unfold faultW; rw [if_pos hok])
    go_enter Try.func25, Try.ntmps25
    go_wp2_with fail
    rw [← hV]
    clear hV
    refine (l4Time_any now _).mono ?_
    rw [HAL.out]
    rintro e w1 ⟨rfl, rfl⟩
    go_wp2
    go_ret
    exact ⟨by rw [HF.out]; rfl, HB.out⟩

end Go.Proofs.Ytakplomopbnekaa
