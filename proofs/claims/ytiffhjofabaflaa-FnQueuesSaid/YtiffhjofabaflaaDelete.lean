/-
  slices.DeleteFunc by a Key and slices.Delete from the head, at items of the call's own. No statement is proved here.
-/
import Derived.Test.YtiffhjofabaflaaItemRow
namespace Go.Proofs.Ytiffhjofabaflaa
open Go.RowKit
set_option linter.unusedVariables false

/-- Those that do not bear the Key. -/
def without (ys : List Tmr) (k : Tmr) : List Tmr := ys.filter fun t => !keyT t k
theorem without_le (ys : List Tmr) (k : Tmr) : (without ys k).length ≤ ys.length := List.length_filter_le _ _
theorem without_all {ys : List Tmr} {k : Tmr} (h : ∀ (i : Nat) t, ys[i]? = some t → keyT t k = false) : without ys k = ys := by
  unfold without
  rw [List.filter_eq_self]
  intro t ht
  obtain ⟨i, hi, rfl⟩ := List.getElem_of_mem ht
  rw [h i _ (List.getElem?_eq_getElem hi)]; rfl
theorem without_take_no {ys : List Tmr} {k : Tmr} {j : Nat} {a : Tmr} (h : ys[j]? = some a) (hk : keyT a k = false) : without (ys.take (j + 1)) k = without (ys.take j) k ++ [a] := by
  have hj := (List.getElem?_eq_some_iff.1 h).1
  unfold without
  rw [List.take_succ_eq_append_getElem hj, (List.getElem?_eq_some_iff.1 h).2, List.filter_append]
  simp [hk]
theorem without_take_yes {ys : List Tmr} {k : Tmr} {j : Nat} {a : Tmr} (h : ys[j]? = some a) (hk : keyT a k = true) : without (ys.take (j + 1)) k = without (ys.take j) k := by
  have hj := (List.getElem?_eq_some_iff.1 h).1
  unfold without
  rw [List.take_succ_eq_append_getElem hj, (List.getElem?_eq_some_iff.1 h).2, List.filter_append]
  simp [hk]
theorem find_cases (ys : List Tmr) (k : Tmr) : (findV ys k = -1 ∧ ∀ (i : Nat) t, ys[i]? = some t → keyT t k = false) ∨
    ∃ (p : Nat) (a : Tmr), findV ys k = p ∧ ys[p]? = some a ∧ keyT a k = true ∧ ∀ (i : Nat) t, i < p → ys[i]? = some t → keyT t k = false := by
  by_cases h : ys.any (fun t => keyT t k) = true
  · refine .inr ⟨ys.findIdx fun t => keyT t k, ?_⟩
    have hl : (ys.findIdx fun t => keyT t k) < ys.length := List.findIdx_lt_length.2 (by
      obtain ⟨t, ht, hk⟩ := List.any_eq_true.1 h
      exact ⟨t, ht, hk⟩)
    refine ⟨ys[ys.findIdx fun t => keyT t k], ?_, List.getElem?_eq_getElem hl, List.findIdx_getElem (w := hl), fun i t hi ht => ?_⟩
    · unfold findV; rw [if_pos h]
    · have h1 := (List.getElem?_eq_some_iff.1 ht).1
      have h2 := List.not_of_lt_findIdx hi
      rw [(List.getElem?_eq_some_iff.1 ht).2] at h2
      simpa using h2
  · have h' : ∀ (i : Nat) t, ys[i]? = some t → keyT t k = false := fun i t ht => by
      have := List.any_eq_false.1 (by simpa using h) t (List.mem_of_getElem? ht)
      simpa using this
    exact .inl ⟨find_none h', h'⟩

set_option maxRecDepth 100000 in
set_option maxHeartbeats 3200000 in
theorem deleteOf_any (B : Nat) (A : Option Addr) (n c : Nat) (ys : List Tmr) (k : Tmr) (gk : Nat) (w : World) (ho : OwnF 66 4 tcell w B A n c ys) (hn : n ≤ 1000) (hg : Box w gk 34 #[.int .i64 k.typ, .int .i64 k.id, .int .i64 k.adv]) :
    Calls Try.prog 204 #[.slice A n c, ofKeyV gk] w fun e w' => ∃ n', e = .returned (.slice A n' c) ∧ OwnF 66 4 tcell w' B A n' c (without ys k) ∧ w.grownBy w' (A.map (·.block)) := by
  have hsl := own_items ho
  have hyl := ho.1
  rcases find_cases ys k with ⟨hf, hall⟩ | ⟨p, a, hf, hpa, hka, hall⟩
  · have HF := Lib.hid hf
    have HW := Lib.hid (without_all hall)
    have HO := Lib.hid ho
    clear hf hall ho
    go_enter Try.func204, Try.ntmps204
    go_wp2_with fail
    refine (indexKey_any true _ _ A n c ys k gk _ hsl (Nat.le_refl _) (by omega) hg).mono ?_
    rw [HF.out]
    rintro e w1 ⟨rfl, hb⟩
    have HO1 := Lib.hid (HO.out.below hb)
    have HG := Lib.hid (grownBy_of_below hb (A.map (·.block)))
    clear hb hsl hg
    go_wp2
    go_ret
    exact ⟨n, rfl, by rw [HW.out]; exact HO1.out, HG.out⟩
  · have hpl := (List.getElem?_eq_some_iff.1 hpa).1
    obtain ⟨g, rfl, hBg, hgs⟩ := ho.form (by omega)
    have hne : gk ≠ g := fun e => OwnF.ne_box ho hg (by decide) (by rw [e]; rfl)
    have HF := Lib.hid hf
    have HO := Lib.hid ho
    have HK := Lib.hid hg
    have H0 : Hid (ys.take p = without (ys.take (p + 1)) k) := Lib.hid (by
      rw [without_take_yes hpa hka, without_all fun i t ht => hall i t (by have := (List.getElem?_eq_some_iff.1 ht).1; rw [List.length_take] at this; omega) (by
        have h1 := (List.getElem?_eq_some_iff.1 ht).1; rw [List.length_take] at h1
        rw [List.getElem?_take, if_pos (by omega)] at ht; exact ht)])
    have hp1 : ((p : Int) == -1) = false := by rw [beq_eq_false_iff_ne]; omega
    have hpn : p < n := by omega
    clear hf hall ho hg hpa hka hpl
    go_enter Try.func204, Try.ntmps204
    go_wp2_with fail
    refine (indexKey_any true _ _ (some ⟨g, 0, none⟩) n c ys k gk _ hsl (Nat.le_refl _) (by omega) HK.out).mono ?_
    rw [HF.out]
    rintro e w1 ⟨rfl, hb⟩
    have HO1 := Lib.hid (HO.out.below hb)
    have HK1 := Lib.hid (HK.out.below hb)
    have HG1 := Lib.hid (grownBy_of_below hb (some g))
    clear hb hsl HO HK
    go_wp2
    go_loopw [5, 6] (fun s5 s6 wr => ∃ (i j : Nat) (zs : List Tmr), s5 = .int .i64 i ∧ s6 = .int .i64 j ∧ i < j ∧ j ≤ n ∧ Hid (OwnF 66 4 tcell wr B (some ⟨g, 0, none⟩) n c zs) ∧ Hid (zs.take i = without (ys.take j) k) ∧ Hid (zs.drop j = ys.drop j) ∧ Hid (Box wr gk 34 #[.int .i64 k.typ, .int .i64 k.id, .int .i64 k.adv]) ∧ Hid (w.grownBy wr (some g))) (fun _ s6 _ => n - (intOf s6).toNat)
    case atStart => exact ⟨p, p + 1, ys, rfl, by go_num, by omega, by omega, HO1, H0, Lib.hid rfl, HK1, HG1⟩
    case round =>
      obtain ⟨i, j, zs, rfl, rfl, hij, hjn, HO, HT, HD, HK, HG⟩ := hrel
      by_cases hlt : j < n
      · obtain ⟨a, hya⟩ : ∃ a, ys[j]? = some a := ⟨_, List.getElem?_eq_getElem (by omega)⟩
        have hza : zs[j]? = some a := by
          have := congrArg (fun l => l[0]?) HD.out
          simpa [List.getElem?_drop, hya] using this
        obtain ⟨b, hzb⟩ : ∃ b, zs[i]? = some b := ⟨_, List.getElem?_eq_getElem (by have := HO.out.1; omega)⟩
        obtain ⟨a0, a1, a2, a3⟩ := HO.out.at4 hza
        have hlt' : (j : Int) < n := by omega
        have HYA := Lib.hid hya
        have HZB := Lib.hid hzb
        clear hya hza hzb
        obtain ⟨r, hr⟩ : ∃ r, keyT a k = r := ⟨_, rfl⟩
        have HR := Lib.hid hr
        clear hr
        go_wp2_with fail
        refine Calls.name ?_
        intro V hV
        have hbV : Below wr.heap.size wr V := by rw [hV]; exact (Below.refl _ _).alloc (Nat.le_refl _) _
        have HX : Kept wr.heap.size (wr.heap.size + 1) (BoxK wr.heap.size 66 #[.int .i64 a.typ, .int .i64 a.id, .int .i64 a.adv, .int .i64 a.due]) V := by rw [hV]; exact Kept.box (Box.made _ _ _)
        have HK2 := Lib.hid (HK.out.below hbV)
        have HO2 := Lib.hid (HO.out.below hbV)
        have HG2 := Lib.hid (grown_trans HG.out (grownBy_of_below hbV (some g)))
        have HL := Lib.hid (HO.out.block g rfl).2
        clear hV hbV a0 a1 a2 a3
        refine (ofKeyFn_any a k gk _ HK2.out).mono ?_
        rw [HR.out]
        rintro e w2 ⟨rfl, hb⟩
        have HX2 := HX.below hb
        have HK3 := Lib.hid (HK2.out.below hb)
        have HO3 := Lib.hid (HO2.out.below hb)
        have HG3 := Lib.hid (grown_trans HG2.out (grownBy_of_below hb (some g)))
        clear hb HX HK2 HO2 HG2
        cases r with
        | true =>
          go_wp2
          go_roundw
          case rel => exact ⟨i, j + 1, zs, rfl, by go_num, by omega, by omega, HO3, Lib.hid (by rw [without_take_yes HYA.out HR.out]; exact HT.out), Lib.hid (by have := congrArg (List.drop 1) HD.out; simpa [List.drop_drop] using this), HK3, HG3⟩
          case measure => simp [intOf]; omega
        | false =>
          obtain ⟨b0, b1, b2, b3⟩ := HO3.out.at4 HZB.out
          have f0 := World.ownsRow.frozenAt HO3.out.2 (i * 4)
          have f1 := World.ownsRow.frozenAt HO3.out.2 (i * 4 + 1)
          have f2 := World.ownsRow.frozenAt HO3.out.2 (i * 4 + 2)
          have f3 := World.ownsRow.frozenAt HO3.out.2 (i * 4 + 3)
          have x0 := HX2.look 0
          have x1 := HX2.look 1
          have x2 := HX2.look 2
          have x3 := HX2.look 3
          have hin : (i : Int) < n := by omega
          obtain ⟨hp4, hg4⟩ := HO3.out.put4 i a (by omega)
          have HP := Lib.hid hp4
          have HGP := Lib.hid (grown_trans HG3.out hg4)
          have HKP := Lib.hid (HK3.out.grown hg4 (fun e => hne (by injection e with e; exact e.symm)))
          clear hp4 hg4
          go_wp2
          go_roundw
          case rel => exact ⟨i + 1, j + 1, zs.set i a, by go_num, by go_num, by omega, by omega, HP, Lib.hid (by
              rw [without_take_no HYA.out HR.out, ← HT.out, List.take_set, List.take_succ_eq_append_getElem (by have := HO3.out.1; omega), List.set_append_right _ _ (by rw [List.length_take]; omega), List.length_take, Nat.min_eq_left (by have := HO3.out.1; omega), Nat.sub_self, List.set_cons_zero]), Lib.hid (by
              rw [List.drop_set_of_lt (by omega)]; have := congrArg (List.drop 1) HD.out; simpa [List.drop_drop] using this), HKP, HGP⟩
          case measure => simp [intOf]; omega
      · obtain rfl : j = n := by omega
        have hcl := fun ty => run_clear_items wr ty g (i * 4) (j - i) (c - i) (by omega) (fun t ht => by
          rw [World.ownsRow.cellAt HO.out.2 (i * 4 + t) (by omega)]
          have hfl := HO.out.2.1
          rw [List.getElem?_eq_getElem (by omega)]; rfl) (fun t ht => World.ownsRow.frozenAt HO.out.2 _)
        have hic : i < c := by
          have := HO.out.2.2
          rcases this with ⟨h', _⟩ | ⟨g', cap, cur, h1, _, _, h4, _⟩
          · simp at h'
          · simp only [Value.slice.injEq] at h1; omega
        have hic2 : (i : Int) ≤ c := by omega
        have hic3 : ¬ i = c := by omega
        obtain ⟨ho4, hg4⟩ := HO.out.clear4 (i := i) (by omega) (List.replicate ((j - i) * 4) (.int .i64 0))
        have HP := Lib.hid ho4
        have HGP := Lib.hid (grown_trans HG.out hg4)
        have HTF : Hid (zs.take i = without ys k) := Lib.hid (by rw [HT.out, List.take_of_length_le (by omega)])
        clear ho4 hg4 HO HK HT HD
        go_wp2
        go_ret
        exact ⟨i, rfl, by rw [← HTF.out]; exact HP.out, HGP.out⟩

/-- append that fits, at a step of a region that draws its order: the row stays where it is. -/
theorem step_appFits {ops : Array Oper} {o : Oper} {a : Act} {K : Act → World → Prop} {Q : Exit → Act → World → Prop} {E' : Prop} {w : World} {B g n c m d : Nat} {zs ys : List Tmr} {ad : Addr} (hgd : o.guard = none) (s x : Operand)
    (ho : o.op = .call { callee := .builtin .append, args := #[s, x], argTypes := #[57, 57] })
    (hs : a.eval s = .slice (some ⟨g, 0, none⟩) n c) (hown : OwnF 66 4 tcell w B (some ⟨g, 0, none⟩) n c zs) (hx : a.eval x = .slice (some ad) m d) (hyl : ys.length = m) (hE : ∀ j u, (ys.flatMap tcell)[j]? = some u → w.cell? (ad.add j) = some u) (hroom : n + m ≤ c)
    (h : ∀ w', OwnF 66 4 tcell w' B (some ⟨g, 0, none⟩) (n + m) c (zs ++ ys) → w.grownBy w' (some g) → K (a.put o.dst (.slice (some ⟨g, 0, none⟩) (n + m) c)) w') :
    if Region.wanted o (yielded ops a.tmps) = true then Oper.wp Try.prog o a w K Q else E' := by
  rw [if_pos (by simp [Region.wanted, hgd])]
  obtain ⟨i0, hi, hz0, hz1, hz2⟩ := info_parts itemInfo
  obtain ⟨w', hr, h2, h3⟩ := run_append_fits (P := Try.prog) w B 57 o.type 66 i0 4 Try.underlying57 hi hz1 g n c (zs.flatMap tcell) hown.2 ad m d (ys.flatMap tcell) (by rw [flat_len tcell_len, hyl]) hE (fun u hu => by
    obtain ⟨a, _, h2⟩ := List.mem_flatMap.1 hu
    exact tcell_one a u h2) hroom
  unfold Oper.wp execOp
  simp only [ho, resolve, invoke, builtin, Sem.run_bind, Sem.run_pure, Result.andThen_ok, List.map_toArray, List.map_cons, List.map_nil, hs, hx, hr]
  exact h w' ⟨by rw [List.length_append, hown.1, hyl], by rw [List.flatMap_append]; exact h2⟩ h3

/-- The cells up to the room's end are there. -/
theorem own_room {w : World} {B g n c : Nat} {t : TypeId} {zs : List Tmr} (h : OwnF t 4 tcell w B (some ⟨g, 0, none⟩) n c zs) (j : Nat) (hj : j < c * 4) : (w.cell? ⟨g, j, none⟩).isSome = true := by
  rcases h.2.2 with ⟨h', _⟩ | ⟨g', cap, cur, h1, _, hg, _, _, hs, _⟩
  · simp at h'
  · simp only [Value.slice.injEq, Option.some.injEq, Addr.mk.injEq, and_true, true_and] at h1
    obtain ⟨rfl, rfl⟩ := h1
    rw [cell_of_row w g j cur t (0, 0) hg, Array.getElem?_eq_getElem (by omega)]
    rfl
/-- The cells from item j on. -/
theorem cells_from {w : World} {B g n c : Nat} {t : TypeId} {ys : List Tmr} (h : OwnF t 4 tcell w B (some ⟨g, 0, none⟩) n c ys) (j : Nat) : ∀ i u, ((ys.drop j).flatMap tcell)[i]? = some u → w.cell? ((⟨g, j * 4, none⟩ : Addr).add i) = some u := by
  intro i u hu
  have ea : Addr.add ⟨g, j * 4, none⟩ i = ⟨g, j * 4 + i, none⟩ := by unfold Addr.add; split <;> simp_all
  have hl := flat_len tcell_len (ys.drop j)
  have hi := (List.getElem?_eq_some_iff.1 hu).1
  rw [hl, List.length_drop] at hi
  have e : (ys.flatMap tcell)[j * 4 + i]? = some u := by
    have h1 : ys.flatMap tcell = (ys.take j).flatMap tcell ++ (ys.drop j).flatMap tcell := by rw [← List.flatMap_append, List.take_append_drop]
    have h2 : ((ys.take j).flatMap tcell).length = j * 4 := by rw [flat_len tcell_len, List.length_take]; congr 1; omega
    rw [h1, List.getElem?_append_right (by omega), h2, Nat.add_sub_cancel_left]; exact hu
  rw [ea, World.ownsRow.cellAt h.2 (j * 4 + i) (by have := h.1; omega)]; exact e

set_option maxRecDepth 100000 in
set_option maxHeartbeats 3200000 in
theorem deleteN_any (B : Nat) (A : Option Addr) (n c j : Nat) (ys : List Tmr) (w : World) (ho : OwnF 66 4 tcell w B A n c ys) (hj : j ≤ n) (hn : n ≤ 1000) :
    Calls Try.prog 206 #[.slice A n c, .int .i64 0, .int .i64 j] w fun e w' => e = .returned (.slice A (n - j) c) ∧ OwnF 66 4 tcell w' B A (n - j) c (ys.drop j) ∧ w.grownBy w' (A.map (·.block)) := by
  have hyl := ho.1
  have hnc : n ≤ c := by
    rcases ho.2.2 with ⟨h', rfl⟩ | ⟨g', cap, cur, h1, _, _, h4, _⟩
    · exact Nat.zero_le _
    · simp only [Value.slice.injEq] at h1; omega
  have hnc2 : (n : Int) ≤ c := by omega
  have hjn : (j : Int) ≤ n := by omega
  rcases Nat.eq_zero_or_pos j with h0 | h0
  · subst h0
    have HO := Lib.hid ho
    clear ho
    go_enter Try.func206, Try.ntmps206
    go_wp2
    go_ret
    exact ⟨rfl, HO.out, World.grownBy.refl _ _⟩
  · obtain ⟨g, rfl, hBg, hgs⟩ := ho.form (by omega)
    have HO := Lib.hid ho
    have hj1 : (0 == (j : Int)) = false := by rw [beq_eq_false_iff_ne]; omega
    have hc0 : ¬ 0 = c := by omega
    clear ho
    have HO0 : Hid (OwnF 66 4 tcell w.drew B (some ⟨g, 0, none⟩) 0 c (ys.take 0)) := Lib.hid (show OwnF 66 4 tcell w B (some ⟨g, 0, none⟩) 0 c (ys.take 0) from HO.out.cut4 (Nat.zero_le _))
    have HE : Hid (∀ i u, ((ys.drop j).flatMap tcell)[i]? = some u → w.drew.cell? ((⟨g, j * 4, none⟩ : Addr).add i) = some u) := Lib.hid (cells_from HO.out j)
    have HL : Hid ((ys.drop j).length = n - j) := Lib.hid (by rw [List.length_drop, hyl])
    by_cases hjc : c = j
    · have hnj : n = j := by omega
      subst hnj
      subst hjc
      have HL0 : Hid (([] : List Tmr).length = 0) := Lib.hid rfl
      have HE0 : Hid (∀ i u, (([] : List Tmr).flatMap tcell)[i]? = some u → w.drew.cell? ((⟨g, 0, none⟩ : Addr).add i) = some u) := Lib.hid (fun i u h => by simp at h)
      clear HE HL
      go_enter Try.func206, Try.ntmps206
      go_wp2
      go_region_law (first | (refine step_appFits rfl (.tmp 22) (.tmp 25) rfl (by rfl) (ys := []) (m := 0) HO0.out (by rfl) HL0.out HE0.out (by omega) ?_; intro w2 ho hg))
      have hcl := fun ty => run_clear_items w2 ty g 0 c c (by omega) (fun t ht => by rw [Nat.zero_add]; exact own_room ho t ht) (fun t ht => World.ownsRow.frozenAt ho.2 _)
      obtain ⟨ho4, hg4⟩ := ho.clear4 (i := 0) (Nat.zero_le _) (List.replicate (c * 4) (.int .i64 0))
      have HP := Lib.hid ho4
      have HGP := Lib.hid (grown_trans (show w.grownBy w2 (some g) from ⟨hg.os, hg.tape, hg.output, hg.size, hg.block⟩) hg4)
      clear ho hg ho4 hg4
      go_wp2
      go_ret
      exact ⟨by simp, by simpa [List.drop_of_length_le (Nat.le_of_eq hyl)] using HP.out, by simpa using HGP.out⟩
    · go_enter Try.func206, Try.ntmps206
      go_wp2
      go_region_law (first | (refine step_appFits rfl (.tmp 22) (.tmp 25) rfl (by rfl) (ys := ys.drop j) HO0.out (by rfl) HL.out HE.out (by omega) ?_; intro w2 ho hg))
      have hcl := fun ty => run_clear_items w2 ty g ((n - j) * 4) (n - (n - j)) (c - (n - j)) (by omega) (fun t ht => own_room ho _ (by omega)) (fun t ht => World.ownsRow.frozenAt ho.2 _)
      obtain ⟨ho4, hg4⟩ := ho.clear4 (i := n - j) (by omega) (List.replicate ((n - (n - j)) * 4) (.int .i64 0))
      have HP := Lib.hid ho4
      have HGP := Lib.hid (grown_trans (show w.grownBy w2 (some g) from ⟨hg.os, hg.tape, hg.output, hg.size, hg.block⟩) hg4)
      clear ho hg ho4 hg4
      go_wp2
      go_ret
      exact ⟨rfl, by have h := HP.out; rwa [List.take_zero, List.nil_append, List.take_of_length_le (by rw [List.length_drop, hyl]; exact Nat.le_refl _)] at h, HGP.out⟩

end Go.Proofs.Ytiffhjofabaflaa
