/-
  The model's QueueFault. No statement is proved here.
-/
import Derived.Test.YtiffhjofabaflaaQueueFault
import Derived.Test.YtiffhjofabaflaaQFind
import Derived.Deep.DeepCutAuto
namespace Go.Proofs.Ytiffhjofabaflaa
open Go.RowKit
set_option linter.unusedVariables false

theorem revs_at {ys : List Tmr} {k : Nat} {a : Tmr} (h : ys[k]? = some a) : (revs ys).getD k 0 = a.due := by
  simp [revs, List.getD, List.getElem?_map, h]
theorem revs_bad {ys : List Tmr} {k : Nat} {a : Tmr} (h : ys[k]? = some a) (hb : ¬ (1 ≤ a.due ∧ a.due ≤ 100000)) : allIn 1 100000 (revs ys) = false := by
  simp only [allIn, List.all_eq_false]
  exact ⟨a.due, List.mem_map.2 ⟨a, List.mem_of_getElem? h, rfl⟩, by rw [Bool.and_eq_true, decide_eq_true_eq, decide_eq_true_eq]; exact hb⟩
theorem revs_good {ys : List Tmr} (h : ∀ (j : Nat) a, ys[j]? = some a → 1 ≤ a.due ∧ a.due ≤ 100000) : allIn 1 100000 (revs ys) = true := by
  simp only [allIn, List.all_eq_true, Bool.and_eq_true, decide_eq_true_eq]
  intro v hv
  obtain ⟨a, ha, rfl⟩ := List.mem_map.1 hv
  obtain ⟨i, hi, rfl⟩ := List.getElem_of_mem ha
  exact h i _ (List.getElem?_eq_getElem hi)
theorem ups_bad {ys : List Tmr} {k : Nat} {a b : Tmr} (ha : ys[k]? = some a) (hb : ys[k + 1]? = some b) (h : b.due ≤ a.due) : ¬ ups (revs ys) := fun hu => by
  have := hu k (by have := (List.getElem?_eq_some_iff.1 hb).1; rw [revs_len]; omega)
  rw [revs_at ha, revs_at hb] at this
  omega
theorem ups_good {ys : List Tmr} (h : ∀ (k : Nat) a b, ys[k]? = some a → ys[k + 1]? = some b → a.due < b.due) : ups (revs ys) := fun k hk => by
  rw [revs_len] at hk
  have h1 := List.getElem?_eq_getElem (show k < ys.length by omega)
  have h2 := List.getElem?_eq_getElem (show k + 1 < ys.length by omega)
  rw [revs_at h1, revs_at h2]
  exact h k _ _ h1 h2

set_option maxRecDepth 100000 in
set_option maxHeartbeats 3200000 in
theorem specQueueFault_any (cap : Int) (mk : Bool) (q : Bool) (lo hi : Nat) (A : Option Addr) (n c : Nat) (ys : List Tmr) (w : World) (ha : Rep.timer.Sl q lo hi w A n ys) (hh : hi ≤ w.heap.size) (hn : n ≤ 1048576) :
    Calls Try.prog 57 #[.agg #[.int .i64 cap, .bool mk, .slice A n c]] w fun e w' => e = .returned (.int .i64 (qf cap ys)) ∧ Below w.heap.size w w' := by
  have hl := ha.1
  obtain ⟨V, hV⟩ : ∃ V : World, V = w.alloc (.cells #[.int .i64 cap, .bool mk, .slice A n c] 59) := ⟨_, rfl⟩
  have hbV : Below w.heap.size w V := by rw [hV]; exact (Below.refl _ _).alloc (Nat.le_refl _) _
  have HX : Kept w.heap.size (w.heap.size + 1) (BoxK w.heap.size 59 #[.int .i64 cap, .bool mk, .slice A n c]) V := by rw [hV]; exact Kept.box (Box.made _ _ _)
  have HA := (Rep.Sl.kept ha hh).below hbV
  have HB := Lib.hid hbV
  clear ha hbV
  by_cases h0 : ¬ (1 ≤ cap ∧ cap ≤ 8)
  · have HI := Lib.hid (allIn_one_no h0)
    have HQ : Hid (qf cap ys = 3) := Lib.hid (by unfold qf; rw [if_pos h0])
    clear h0
    have c0 := HX.look 0
    go_enter Try.func57, Try.ntmps57
    go_upto_region 1 with (fail)
    rw [← hV]
    clear hV
    go_wp2_with fail
    refine (l1In_any cap 1 8 _).mono ?_
    rw [HI.out]
    rintro e w2 ⟨rfl, rfl⟩
    go_wp2
    go_ret
    exact ⟨by rw [HQ.out]; rfl, HB.out⟩
  have h0' : 1 ≤ cap ∧ cap ≤ 8 := by omega
  have HI := Lib.hid (allIn_one_yes h0'.1 h0'.2)
  by_cases h1 : cap < (ys.length : Int)
  · have HQ : Hid (qf cap ys = 2) := Lib.hid (by unfold qf; rw [if_neg h0, if_pos h1])
    have hlt : cap < (n : Int) := by omega
    clear h0 h1
    have c0 := HX.look 0
    have c1 := HX.look 1
    have c2 := HX.look 2
    go_enter Try.func57, Try.ntmps57
    go_upto_region 1 with (fail)
    rw [← hV]
    clear hV
    go_wp2_with fail
    refine (l1In_any cap 1 8 _).mono ?_
    rw [HI.out]
    rintro e w2 ⟨rfl, rfl⟩
    go_wp2
    go_ret
    exact ⟨by rw [HQ.out]; rfl, HB.out⟩
  have hle : ¬ cap < (n : Int) := by omega
  have hn8 : n ≤ 8 := by omega
  have HQa : Hid (allIn 1 100000 (revs ys) = false → qf cap ys = 3) := Lib.hid (fun h2 => by unfold qf; rw [if_neg h0, if_neg h1, if_pos h2])
  have HQb : Hid (allIn 1 100000 (revs ys) = true → ¬ ups (revs ys) → qf cap ys = 1) := Lib.hid (fun h2 h3 => by unfold qf; rw [if_neg h0, if_neg h1, if_neg (by simp [h2]), if_pos h3])
  have HQc : Hid (allIn 1 100000 (revs ys) = true → ups (revs ys) → twinB ys = true → qf cap ys = 8) := Lib.hid (fun h2 h3 h4 => by unfold qf; rw [if_neg h0, if_neg h1, if_neg (by simp [h2]), if_neg (fun h => h h3), if_pos h4])
  have HQd : Hid (allIn 1 100000 (revs ys) = true → ups (revs ys) → twinB ys = false → qf cap ys = 0) := Lib.hid (fun h2 h3 h4 => by unfold qf; rw [if_neg h0, if_neg h1, if_neg (by simp [h2]), if_neg (fun h => h h3), if_neg (by simp [h4])])
  have hl2 := Lib.hid hl
  clear h0 h1 h0' hl
  have c0 := HX.look 0
  have c2 := HX.look 2
  go_enter Try.func57, Try.ntmps57
  go_upto_region 1 with (fail)
  rw [← hV]
  clear hV
  go_wp2_with fail
  refine (l1In_any cap 1 8 _).mono ?_
  rw [HI.out]
  rintro e w2 ⟨rfl, rfl⟩
  go_wp2
  clear c0 c2
  -- the Revs' bounds
  go_loopw [3] (fun i wr => ∃ k : Nat, k ≤ n ∧ i = .int .i64 k ∧ Hid (∀ j a, j < k → ys[j]? = some a → 1 ≤ a.due ∧ a.due ≤ 100000) ∧ Hid (Below w2.heap.size w2 wr)) (fun i _ => n - (intOf i).toNat)
  case atStart => exact ⟨0, Nat.zero_le _, rfl, Lib.hid (fun j a hj => absurd hj (by omega)), Lib.hid (Below.refl _ _)⟩
  case round =>
    obtain ⟨k, hk, rfl, HS, HW⟩ := hrel
    by_cases hlt : k < n
    · obtain ⟨b, o, a, rfl, hya, a0, a1, a2, a3⟩ := Rep.timer_at (HA.below HW.out).sl hlt
      have hlt' : (k : Int) < n := by omega
      have c2 := (HX.below HW.out).look 2
      have HYA := Lib.hid hya
      clear hya a0 a1 a2
      by_cases hin : 1 ≤ a.due ∧ a.due ≤ 100000
      · have HR := Lib.hid (allIn_one_yes hin.1 hin.2)
        have HIN := Lib.hid hin
        clear hin
        go_wp2_with fail
        refine (l1In_any a.due 1 100000 _).mono ?_
        rw [HR.out]
        rintro e w3 ⟨rfl, rfl⟩
        go_wp2
        go_roundw
        case rel => exact ⟨k + 1, by omega, by go_num, Lib.hid (fun j x hj hx => by
          rcases Nat.lt_succ_iff_lt_or_eq.1 hj with h | rfl
          · exact HS.out j x h hx
          · have := HYA.out; rw [hx] at this; injection this with this; subst this; exact HIN.out), HW⟩
        case measure => simp [intOf]; omega
      · have HR := Lib.hid (allIn_one_no hin)
        have HQ : Hid (qf cap ys = 3) := Lib.hid (HQa.out (revs_bad HYA.out hin))
        clear hin
        go_wp2_with fail
        refine (l1In_any a.due 1 100000 _).mono ?_
        rw [HR.out]
        rintro e w3 ⟨rfl, rfl⟩
        go_wp2
        go_ret
        exact ⟨by rw [HQ.out]; rfl, below_step HB.out HW.out⟩
    · have HAL : Hid (allIn 1 100000 (revs ys) = true) := Lib.hid (revs_good fun j a ha => HS.out j a (by have := (List.getElem?_eq_some_iff.1 ha).1; have := hl2.out; omega) ha)
      have c2 := (HX.below HW.out).look 2
      obtain ⟨X, hX⟩ : ∃ X : World, X = wr := ⟨_, rfl⟩
      have HW1 : Hid (Below w2.heap.size w2 X) := by rw [hX]; exact HW
      clear HS HW
      go_wp2
      rw [← hX]
      clear hX c2
      -- they rise
      go_loopw [4] (fun i wr => ∃ j : Nat, 1 ≤ j ∧ j ≤ n + 1 ∧ i = .int .i64 j ∧ Hid (∀ t a b, t + 1 < j → ys[t]? = some a → ys[t + 1]? = some b → a.due < b.due) ∧ Hid (Below w2.heap.size w2 wr)) (fun i _ => n - (intOf i).toNat)
      case atStart => exact ⟨1, Nat.le_refl _, by omega, rfl, Lib.hid (fun t a b hj => absurd hj (by omega)), HW1⟩
      case round =>
        obtain ⟨j, hj0, hj1, rfl, HS, HW⟩ := hrel
        by_cases hlt : j < n
        · obtain ⟨p, hp⟩ : ∃ p, p + 1 = j := ⟨j - 1, by omega⟩
          have hw : IntKind.i64.wrap ((j : Int) - 1) = (p : Int) := by rw [IntWalk.i64_in _ (by omega)]; omega
          have hpn : (p : Int) < n := by omega
          have HP := Lib.hid hp
          clear hp
          obtain ⟨b, o, a, e, hya, a0, a1, a2, a3⟩ := Rep.timer_at (HA.below HW.out).sl (show p < n by have := HP.out; omega)
          obtain ⟨b2, o2, a', rfl, hza, e0, e1, e2, e3⟩ := Rep.timer_at (HA.below HW.out).sl hlt
          injection e with e
          injection e with eb eo
          subst eb eo
          have hlt' : (j : Int) < n := by omega
          have HYA := Lib.hid hya
          have HZA := Lib.hid (show ys[p + 1]? = some a' by rw [HP.out]; exact hza)
          have c2 := (HX.below HW.out).look 2
          have hxl := (HX.below HW.out).bx.lt
          clear hya hza a0 a1 a2 e0 e1 e2
          by_cases hle2 : a'.due ≤ a.due
          · have HQ : Hid (qf cap ys = 1) := Lib.hid (HQb.out HAL.out (ups_bad HYA.out HZA.out hle2))
            go_wp2
            go_quiet (fail)
            go_wp2
            go_ret
            exact ⟨by rw [HQ.out]; rfl, below_drewN (below_step HB.out HW.out) _⟩
          · have HLT : Hid (a.due < a'.due) := Lib.hid (by omega)
            go_wp2
            go_quiet (fail)
            go_wp2
            go_roundw
            case rel => exact ⟨j + 1, by omega, by omega, by go_num, Lib.hid (fun t x y hj hx hy => by
              by_cases h : t + 1 < j
              · exact HS.out t x y h hx hy
              · obtain rfl : t = p := by have := HP.out; omega
                have h1 := HYA.out; have h2 := HZA.out
                rw [hx] at h1; rw [hy] at h2; injection h1 with h1; injection h2 with h2; subst h1 h2; exact HLT.out), Lib.hid (below_drewN HW.out _)⟩
            case measure => simp [intOf]; omega
        · have HUP : Hid (ups (revs ys)) := Lib.hid (ups_good fun t a b ha hb => HS.out t a b (by have := (List.getElem?_eq_some_iff.1 hb).1; have := hl2.out; omega) ha hb)
          have c2 := (HX.below HW.out).look 2
          obtain ⟨X2, hX2⟩ : ∃ X : World, X = wr := ⟨_, rfl⟩
          have HW2 : Hid (Below w2.heap.size w2 X2) := by rw [hX2]; exact HW
          clear HS HW HW1
          go_wp2
          rw [← hX2]
          clear hX2 c2
          -- no two bear the same Key
          go_loopw [5] (fun i wr => ∃ k : Nat, k ≤ n ∧ i = .int .i64 k ∧ Hid (∀ j a, j < k → ys[j]? = some a → findV ys a = j) ∧ Hid (Below w2.heap.size w2 wr)) (fun i _ => n - (intOf i).toNat)
          case atStart => exact ⟨0, Nat.zero_le _, rfl, Lib.hid (fun j a hj => absurd hj (by omega)), HW2⟩
          case round =>
            obtain ⟨k, hk, rfl, HS, HW⟩ := hrel
            by_cases hlt : k < n
            · obtain ⟨b, o, a, rfl, hya, a0, a1, a2, a3⟩ := Rep.timer_at (HA.below HW.out).sl hlt
              have hlt' : (k : Int) < n := by omega
              have HYA := Lib.hid hya
              obtain ⟨r, hr⟩ : ∃ r, findV ys a = r := ⟨_, rfl⟩
              have HR := Lib.hid hr
              have HA2 := HA.below HW.out
              have SB : Hid (∀ W, Hid (Below wr.heap.size wr W) → (fun W => W.cell? ⟨w.heap.size, 2, none⟩ = some (.slice (some ⟨b, o, none⟩) n c) ∧ W.cell? ⟨b, o + k * 4, none⟩ = some (.int .i64 a.typ) ∧ W.cell? ⟨b, o + k * 4 + 1, none⟩ = some (.int .i64 a.id) ∧ W.cell? ⟨b, o + k * 4 + 2, none⟩ = some (.int .i64 a.adv)) W) := fun W h => ⟨((HX.below HW.out).below h.out).look 2, (h.out.cell (World.block_lt_of_cell? wr _ a0)).trans a0, (h.out.cell (World.block_lt_of_cell? wr _ a1)).trans a1, (h.out.cell (World.block_lt_of_cell? wr _ a2)).trans a2⟩
              have V0 : Hid (Below wr.heap.size wr wr.drew) := (Below.refl _ _).drew
              have c2 := (HX.below HW.out).look 2
              clear hya hr a0 a1 a2 a3
              go_wp2
              clear c2
              go_region_held3 (fun W => W.cell? ⟨w.heap.size, 2, none⟩ = some (.slice (some ⟨b, o, none⟩) n c) ∧ W.cell? ⟨b, o + k * 4, none⟩ = some (.int .i64 a.typ) ∧ W.cell? ⟨b, o + k * 4 + 1, none⟩ = some (.int .i64 a.id) ∧ W.cell? ⟨b, o + k * 4 + 2, none⟩ = some (.int .i64 a.adv)) (exact SB.out _ (by assumption))
                (first | (go_at_call 138; ((with_reducible refine (l6Find_any q lo hi _ n c ys a _ (HA2.below V0.out).sl (HA2.below V0.out).le hn).mono ?_); rw [HR.out]; rintro e u1 ⟨rfl, hb⟩; have V1 := Lib.hid (below_step V0.out hb); clear hb)))
              have HW3 := Lib.hid (HW.out.trans (V1.out.mono HW.out.size))
              clear SB V0 V1 HW HA2
              by_cases hrk : r = (k : Int)
              · have HE : Hid (findV ys a = k) := Lib.hid (by rw [HR.out, hrk])
                subst hrk
                go_wp2
                go_roundw
                case rel => exact ⟨k + 1, by omega, by go_num, Lib.hid (fun j x hj hx => by
                  rcases Nat.lt_succ_iff_lt_or_eq.1 hj with h | rfl
                  · exact HS.out j x h hx
                  · have := HYA.out; rw [hx] at this; injection this with this; subst this; exact HE.out), HW3⟩
                case measure => simp [intOf]; omega
              · have HQ : Hid (qf cap ys = 8) := Lib.hid (HQc.out HAL.out HUP.out (twin_some HYA.out (by rw [HR.out]; exact hrk)))
                have hne : (r != (k : Int)) = true := by simpa using hrk
                go_wp2
                go_ret
                exact ⟨by rw [HQ.out]; rfl, below_step HB.out HW3.out⟩
            · have HQ : Hid (qf cap ys = 0) := Lib.hid (HQd.out HAL.out HUP.out (twin_none fun j a ha => HS.out j a (by have := (List.getElem?_eq_some_iff.1 ha).1; have := hl2.out; omega) ha))
              have c2 := (HX.below HW.out).look 2
              clear HS
              go_wp2
              go_ret
              exact ⟨by rw [HQ.out]; rfl, below_step HB.out HW.out⟩

end Go.Proofs.Ytiffhjofabaflaa
