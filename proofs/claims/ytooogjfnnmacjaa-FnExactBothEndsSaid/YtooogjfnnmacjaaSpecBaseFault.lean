/-
  The model's BaseFault. No statement is proved here.
-/
import Derived.Test.YtooogjfnnmacjaaBaseFault
import Derived.Test.YtooogjfnnmacjaaFault
import Derived.Test.YtooogjfnnmacjaaPlace
namespace Go.Proofs.Ytooogjfnnmacjaa
open Go.RowKit
set_option linter.unusedVariables false

theorem l5Age_any (l : LsaM) (t now : Int) (g b o : Nat) (w : World) (hg : w.cell? ⟨g, 0, none⟩ = some (.int .i64 now)) (ha : w.cell? ⟨b, o, none⟩ = some (.int .i64 l.age)) (ht : w.cell? ⟨b, o + 10, none⟩ = some (.int .i64 t))
    (h0 : 0 ≤ l.age) (h1 : l.age ≤ 3600) (h2 : 0 ≤ now) (h3 : now ≤ 1000000) (h4 : 0 ≤ t) (h5 : t ≤ now) :
    Calls Try.prog 167 #[.pointer (some ⟨g, 0, none⟩), .pointer (some ⟨b, o, none⟩)] w fun e w' => e = .returned (.int .i64 (ageE now l t)) ∧ ∃ m, w' = w.drewN m := by
  have HR := Lib.hid (show ageE now l t = l.age + now - t from rfl)
  have hs1 : IntKind.i64.wrap (l.age + now) = l.age + now := IntWalk.i64_in _ (by omega)
  have hs2 : IntKind.i64.wrap (l.age + now - t) = l.age + now - t := IntWalk.i64_in _ (by omega)
  go_enter Try.func167, Try.ntmps167
  go_wp2
  go_quiet (fail)
  go_wp2
  go_ret
  exact ⟨by rw [HR.out]; rfl, _, rfl⟩

theorem ltK_typ {s t u s' t' u' : Int} (h : s ≠ s') : ltK s t u s' t' u' = decide (s < s') := by
  unfold ltK; simp [h]
theorem ltK_lt {s t u t' u' : Int} (h : t < t') : ltK s t u s t' u' = true := by
  unfold ltK; simp [h]
theorem ltK_gt {s t u t' u' : Int} (h : ¬ t < t') (h2 : t ≠ t') : ltK s t u s t' u' = false := by
  unfold ltK; simp [h, h2]
theorem ltK_eq {s t u u' : Int} : ltK s t u s t u' = decide (u < u') := by
  unfold ltK; simp

set_option maxHeartbeats 1600000 in
theorem l5Less_any (s t u s' t' u' : Int) (r : Bool) (b o b' o' : Nat) (w : World) (h0 : w.cell? ⟨b, o, none⟩ = some (.int .i64 s)) (h1 : w.cell? ⟨b, o + 1, none⟩ = some (.int .i64 t)) (h2 : w.cell? ⟨b, o + 2, none⟩ = some (.int .i64 u))
    (k0 : w.cell? ⟨b', o', none⟩ = some (.int .i64 s')) (k1 : w.cell? ⟨b', o' + 1, none⟩ = some (.int .i64 t')) (k2 : w.cell? ⟨b', o' + 2, none⟩ = some (.int .i64 u')) (hr : ltK s t u s' t' u' = r) :
    Calls Try.prog 168 #[.pointer (some ⟨b, o, none⟩), .pointer (some ⟨b', o', none⟩)] w fun e w' => e = .returned (.bool r) ∧ ∃ m, w' = w.drewN m := by
  by_cases hs : s = s'
  · subst hs
    by_cases ht : t < t'
    · have HR : Hid (r = true) := Lib.hid (by rw [← hr]; exact ltK_lt ht)
      clear hr
      go_enter Try.func168, Try.ntmps168
      go_wp2
      go_quiet (fail)
      go_wp2
      go_quiet (fail)
      go_wp2
      go_ret
      exact ⟨by rw [HR.out]; rfl, _, World.drewN_drewN _ _ _⟩
    · by_cases hte : t = t'
      · subst hte
        have HR : Hid (r = decide (u < u')) := Lib.hid (by rw [← hr]; exact ltK_eq)
        clear hr ht
        go_enter Try.func168, Try.ntmps168
        go_wp2
        go_quiet (fail)
        go_wp2
        go_quiet (fail)
        go_wp2
        go_ret
        exact ⟨by rw [HR.out]; rfl, _, World.drewN_drewN _ _ _⟩
      · have HR : Hid (r = false) := Lib.hid (by rw [← hr]; exact ltK_gt ht hte)
        have hne : (t == t') = false := by rw [beq_eq_false_iff_ne]; exact hte
        have hdl : decide (t < t') = false := decide_eq_false ht
        clear hr hte
        go_enter Try.func168, Try.ntmps168
        go_wp2
        go_quiet (fail)
        go_wp2
        go_quiet (fail)
        go_wp2
        go_ret
        exact ⟨by rw [HR.out]; rfl, _, World.drewN_drewN _ _ _⟩
  · have HR : Hid (r = decide (s < s')) := Lib.hid (by rw [← hr]; exact ltK_typ hs)
    have hne : (s == s') = false := by rw [beq_eq_false_iff_ne]; exact hs
    clear hr hs
    go_enter Try.func168, Try.ntmps168
    go_wp2
    go_quiet (fail)
    go_wp2
    go_quiet (fail)
    go_wp2
    go_ret
    exact ⟨by rw [HR.out]; rfl, _, World.drewN_drewN _ _ _⟩

set_option maxRecDepth 100000 in
set_option maxHeartbeats 6400000 in
theorem specBaseFault_any (now : Int) (q : Bool) (lo hi : Nat) (A : Option Addr) (n c : Nat) (ys : List Ent) (w : World) (ha : Rep.ent.Sl q lo hi w A n ys) (hh : hi ≤ w.heap.size) (hn : n ≤ 1048576) (hm : ∀ y ∈ ys, y.l.links.length ≤ 1048576 ∧ y.l.routers.length ≤ 1048576) :
    Calls Try.prog 131 #[.agg #[.int .i64 now, .slice A n c]] w fun e w' => e = .returned (.int .i64 (faultB now ys)) ∧ Below w.heap.size w w' := by
  have hl1 := ha.1
  obtain ⟨V, hV⟩ : ∃ V : World, V = w.alloc (.cells #[.int .i64 now, .slice A n c] 88) := ⟨_, rfl⟩
  have hbV : Below w.heap.size w V := by rw [hV]; exact (Below.refl _ _).alloc (Nat.le_refl _) _
  have HX := Lib.hid (show Box V w.heap.size 88 #[.int .i64 now, .slice A n c] by rw [hV]; exact Box.made _ _ _)
  have HB := Lib.hid hbV
  have HA := (Rep.Sl.kept ha hh).below hbV
  have HM := Lib.hid hm
  clear ha hm hbV
  by_cases h1 : 0 ≤ now ∧ now ≤ 1000000
  · have HW := Lib.hid (allIn_one_yes h1.1 h1.2)
    have H1 := Lib.hid h1
    obtain ⟨hw0, hw1⟩ := h1
    go_enter Try.func131, Try.ntmps131
    go_wp2_with fail
    rw [← hV]
    clear hV
    refine (l4Time_any now _).mono ?_
    rw [HW.out]
    rintro e w1 ⟨rfl, rfl⟩
    have x0 := HX.out.look 0
    have x1 := HX.out.look 1
    have xl := HX.out.lt
    by_cases h2 : 40 < n
    · have HR := Lib.hid (faultB_2 H1.out (show 40 < ys.length by omega))
      go_wp2
      go_ret
      exact ⟨by rw [HR.out]; rfl, HB.out⟩
    · have H2 := Lib.hid (show ¬ 40 < ys.length by omega)
      go_wp2
      clear x0 x1 xl
      go_loopw [3] (fun i wr => ∃ k : Nat, k ≤ n ∧ i = .int .i64 k ∧ Hid (firstC now ys = firstC now (ys.drop k)) ∧ Hid (Below w1.heap.size w1 wr)) (fun i _ => n - (intOf i).toNat)
      case atStart => exact ⟨0, Nat.zero_le _, rfl, rfl, Below.refl _ _⟩
      case round =>
        obtain ⟨k, hk, rfl, HS, HBW⟩ := hrel
        have HXW := Lib.hid (HX.out.below HBW.out)
        have x0 := HXW.out.look 0
        have x1 := HXW.out.look 1
        have xl := HXW.out.lt
        by_cases hlt : k < n
        · obtain ⟨b, o, ⟨l, t⟩, E, F, m1, c1, m1', d1, rfl, hya, hyl, a0, a1, a2, a3, a4, a5, a6, a7, a8, a9, a10⟩ := Rep.ent_at (HA.below HBW.out).sl hlt
          have hlt' : (k : Int) < n := by omega
          have hym := HM.out _ (List.mem_of_getElem? hya)
          simp only [] at hym hyl a0 a1 a2 a3 a4 a5 a6 a7 a8 a9 a10
          rw [show l.links.length = m1 from hyl.links.1, show l.routers.length = m1' from hyl.routers.1] at hym
          have HL := (show LsaAt q lo hi wr E m1 F m1' l from ⟨hyl, (HA.below HBW.out).le⟩).kept
          have hd := firstC_drop (now := now) hya
          have HEC : Hid (entC now ⟨l, t⟩ = if faultOf l = 0 then (if 0 ≤ t ∧ t ≤ now ∧ ageE now l t < 3600 then 0 else 3) else faultOf l) := Lib.hid rfl
          by_cases hf : faultOf l = 0
          · have hS := sound_of l hf
            obtain ⟨ha0, ha1⟩ := hS.age
            have HF := Lib.hid hf
            clear hS hya hyl
            clear hf
            go_wp2_with fail
            clear x0 x1 xl
            refine (specFault_any l q lo hi E F m1 c1 m1' d1 _ HL.lsa.in_ HL.lsa.le hym.1 hym.2).mono ?_
            rw [HF.out]
            rintro e w2 ⟨rfl, hb⟩
            replace a0 := (hb.cell (World.block_lt_of_cell? wr _ a0)).trans a0
            replace a10 := (hb.cell (World.block_lt_of_cell? wr _ a10)).trans a10
            have HX2 := Lib.hid (HXW.out.below hb)
            have HB2 := Lib.hid (below_step HBW.out hb)
            clear hb a1 a2 a3 a4 a5 a6 a7 a8 a9 HXW HBW
            have x0 := HX2.out.look 0
            have x1 := HX2.out.look 1
            have xl := HX2.out.lt
            by_cases ht : 0 ≤ t ∧ t ≤ now
            · have HQ := Lib.hid (allIn_one_yes ht.1 ht.2)
              have hq := fun W : World => l1In_any t 0 now W
              rw [HQ.out] at hq
              obtain ⟨ht0, ht1⟩ := ht
              obtain ⟨g, hg⟩ : ∃ g, ageE now l t = g := ⟨_, rfl⟩
              have hag := fun p : Nat => l5Age_any l t now w.heap.size b (o + k * 11) (w2.drewN p) x0 a0 a10 ha0 ha1 hw0 hw1 ht0 ht1
              rw [hg] at hag
              have HG := Lib.hid hg
              clear hg
              by_cases h3 : g < 3600
              · rw [if_pos (show entC now ⟨l, t⟩ = 0 by rw [HEC.out, if_pos HF.out, if_pos (by rw [HG.out]; exact ⟨ht0, ht1, h3⟩)])] at hd
                have HD := Lib.hid hd
                clear hd
                go_wp2
                go_quiet ((first | (go_at_call 96; exact Calls.quiet_of_same (hq _)) | (go_at_call 167; exact Calls.quiet_of (hag _))))
                clear hq hag
                go_wp2
                go_roundw
                case rel => exact ⟨k + 1, by omega, by go_num, Lib.hid (HS.out.trans HD.out), Lib.hid (below_drewN HB2.out _)⟩
                case measure => simp [intOf]; omega
              · have hE3 : entC now ⟨l, t⟩ = 3 := by rw [HEC.out, if_pos HF.out, if_neg (by rw [HG.out]; exact fun h => h3 h.2.2)]
                rw [if_neg (by rw [hE3]; omega), hE3] at hd
                clear hE3
                have HR : Hid (faultB now ys = 3) := Lib.hid (by rw [faultB_3 H1.out H2.out (by rw [HS.out, hd]; omega), HS.out, hd])
                have h3' : 3600 ≤ g := by omega
                clear hd h3
                go_wp2
                go_quiet ((first | (go_at_call 96; exact Calls.quiet_of_same (hq _)) | (go_at_call 167; exact Calls.quiet_of (hag _))))
                clear hq hag
                go_wp2
                go_ret
                exact ⟨by rw [HR.out]; rfl, below_drewN (below_step HB.out HB2.out) _⟩
            · have HQ := Lib.hid (allIn_one_no ht)
              have hq := fun W : World => l1In_any t 0 now W
              rw [HQ.out] at hq
              have hE3 : entC now ⟨l, t⟩ = 3 := by rw [HEC.out, if_pos HF.out, if_neg (fun h => ht ⟨h.1, h.2.1⟩)]
              rw [if_neg (by rw [hE3]; omega), hE3] at hd
              clear hE3
              have HR : Hid (faultB now ys = 3) := Lib.hid (by rw [faultB_3 H1.out H2.out (by rw [HS.out, hd]; omega), HS.out, hd])
              clear hd ht
              go_wp2
              go_quiet ((go_at_call 96; exact Calls.quiet_of_same (hq _)))
              clear hq
              go_wp2
              go_ret
              exact ⟨by rw [HR.out]; rfl, below_drewN (below_step HB.out HB2.out) _⟩
          · have hE3 : entC now ⟨l, t⟩ = faultOf l := by rw [HEC.out, if_neg hf]
            rw [if_neg (by rw [hE3]; exact hf), hE3] at hd
            clear hE3
            obtain ⟨z, hz⟩ : ∃ z, faultOf l = z := ⟨_, rfl⟩
            rw [hz] at hd hf
            have HZ := Lib.hid hz
            have HR : Hid (faultB now ys = z) := Lib.hid (by rw [faultB_3 H1.out H2.out (by rw [HS.out, hd]; exact hf), HS.out, hd])
            have hne : (z != 0) = true := by rw [bne_iff_ne]; exact hf
            clear hya hyl hd hf hz
            go_wp2_with fail
            clear x0 x1 xl a0 a1 a2 a3 a4 a5 a6 a7 a8 a9 a10
            refine (specFault_any l q lo hi E F m1 c1 m1' d1 _ HL.lsa.in_ HL.lsa.le hym.1 hym.2).mono ?_
            rw [HZ.out]
            rintro e w2 ⟨rfl, hb⟩
            have HB2 := Lib.hid (below_step HB.out (below_step HBW.out hb))
            clear hb
            go_wp2
            go_ret
            exact ⟨by rw [HR.out]; rfl, HB2.out⟩
        · have HE : Hid (firstC now ys = 0) := Lib.hid (by rw [HS.out, List.drop_eq_nil_of_le (by omega)]; rfl)
          go_wp2
          clear x0 x1 xl
          go_loopw [6] (fun i wx => ∃ j : Nat, 1 ≤ j ∧ j ≤ n + 1 ∧ i = .int .i64 j ∧ Hid (∀ t a b, t + 1 < j → ys[t]? = some a → ys[t + 1]? = some b → ltE a.l b.l = true) ∧ Hid (Below w1.heap.size w1 wx)) (fun i _ => n - (intOf i).toNat)
          case atStart => exact ⟨1, Nat.le_refl _, by omega, rfl, fun t a b hj => absurd hj (by omega), HBW⟩
          case round =>
            obtain ⟨j, hj0, hj1, rfl, HT, HBX⟩ := hrel
            have HXX := Lib.hid (HX.out.below HBX.out)
            have x1 := HXX.out.look 1
            have xl := HXX.out.lt
            by_cases hlj : j < n
            · obtain ⟨p, hp⟩ : ∃ p, p + 1 = j := ⟨j - 1, by omega⟩
              have hw : IntKind.i64.wrap ((j : Int) - 1) = (p : Int) := by rw [IntWalk.i64_in _ (by omega)]; omega
              have hpn : (p : Int) < n := by omega
              have HP := Lib.hid hp
              clear hp
              obtain ⟨b, o, ⟨l, t⟩, E, F, m1, c1, m1', d1, e, hya, hyl, a0, a1, a2, a3, a4, a5, a6, a7, a8, a9, a10⟩ := Rep.ent_at (HA.below HBX.out).sl (show p < n by have := HP.out; omega)
              obtain ⟨b2, o2, ⟨l2, t2⟩, E2, F2, m2, c2, m2', d2, rfl, hza, hzl, e0, e1, e2, e3, e4, e5, e6, e7, e8, e9, e10⟩ := Rep.ent_at (HA.below HBX.out).sl hlj
              injection e with e
              injection e with eb eo
              subst eb eo
              have hlj' : (j : Int) < n := by omega
              have HYA := Lib.hid hya
              have HZA := Lib.hid hza
              obtain ⟨r, hr⟩ : ∃ r, ltE l l2 = r := ⟨_, rfl⟩
              have HR := Lib.hid hr
              simp only [] at a0 a1 a2 a3 a4 a5 a6 a7 a8 a9 a10 e0 e1 e2 e3 e4 e5 e6 e7 e8 e9 e10
              have hle := fun z : Nat => l5Less_any l.typ l.id l.adv l2.typ l2.id l2.adv r b2 (o2 + p * 11 + 2) b2 (o2 + j * 11 + 2) (wr.drewN z) a2 a3 a4 e2 e3 e4 hr
              clear hya hza hyl hzl hr a0 a1 a5 a6 a7 a8 a9 a10 e0 e1 e5 e6 e7 e8 e9 e10
              cases r with
              | true =>
                go_wp2
                go_quiet ((go_at_call 168; exact Calls.quiet_of (hle _)))
                clear hle
                go_wp2
                go_roundw
                case rel => exact ⟨j + 1, by omega, by omega, by go_num, Lib.hid (fun t x y hj hx hy => by
                  by_cases h : t + 1 < j
                  · exact HT.out t x y h hx hy
                  · obtain rfl : t = p := by have := HP.out; omega
                    rw [HP.out] at hy
                    rw [HYA.out] at hx; rw [HZA.out] at hy; injection hx with hx; injection hy with hy; subst hx hy; exact HR.out), Lib.hid (below_drewN HBX.out _)⟩
                case measure => simp [intOf]; omega
              | false =>
                have HN := Lib.hid (faultB_5 H1.out H2.out HE.out (fun h => by have := h p _ _ HYA.out (by rw [HP.out]; exact HZA.out); rw [HR.out] at this; cases this))
                go_wp2
                go_quiet ((go_at_call 168; exact Calls.quiet_of (hle _)))
                clear hle
                go_wp2
                go_ret
                exact ⟨by rw [HN.out]; rfl, below_drewN (below_step HB.out HBX.out) _⟩
            · have HN := Lib.hid (faultB_4 H1.out H2.out HE.out (fun t a b hj hb => HT.out t a b (by have := (List.getElem?_eq_some_iff.1 hb).1; omega) hj hb))
              go_wp2
              go_ret
              exact ⟨by rw [HN.out]; rfl, below_step HB.out HBX.out⟩
  · have HW := Lib.hid (allIn_one_no h1)
    have HR := Lib.hid (faultB_1 (ys := ys) h1)
    clear h1
    go_enter Try.func131, Try.ntmps131
    go_wp2_with fail
    rw [← hV]
    clear hV
    refine (l4Time_any now _).mono ?_
    rw [HW.out]
    rintro e w1 ⟨rfl, rfl⟩
    go_wp2
    go_ret
    exact ⟨by rw [HR.out]; rfl, HB.out⟩

end Go.Proofs.Ytooogjfnnmacjaa
