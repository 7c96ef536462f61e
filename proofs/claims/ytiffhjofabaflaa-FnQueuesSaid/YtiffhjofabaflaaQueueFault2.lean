/-
  The program's itemsHaveTwins and QueueFault. No statement is proved here.
-/
import Derived.Test.YtiffhjofabaflaaQueueFault
namespace Go.Proofs.Ytiffhjofabaflaa
open Go.RowKit
set_option linter.unusedVariables false

theorem allWithin_nil (lo hi : Int) (A : Option Addr) (c : Nat) (w : World) :
    Calls Try.prog 91 #[.int .i64 lo, .int .i64 hi, .slice A 0 c] w fun e w' => e = .returned (.bool true) ∧ w' = w := by
  go_enter Try.func91, Try.ntmps91
  go_wp2
  go_loop [11] (fun i => i = .int .i64 0) (fun _ => 0)
  case atStart => exact rfl
  case round =>
    obtain rfl := hrel
    go_wp2
    go_ret
    exact ⟨rfl, rfl⟩
theorem allWithin_sl (lo hi : Int) (q : Bool) (l h : Nat) (A : Option Addr) (n c : Nat) (zs : List Int) (w : World) (ha : Rep.int.Sl q l h w A n zs) (hn : n ≤ 1048576) :
    Calls Try.prog 91 #[.int .i64 lo, .int .i64 hi, .slice A n c] w fun e w' => e = .returned (.bool (allIn lo hi zs)) ∧ w' = w := by
  rcases Nat.eq_zero_or_pos n with h0 | h0
  · subst h0
    obtain rfl := List.eq_nil_of_length_eq_zero ha.1
    exact allWithin_nil lo hi A c w
  · obtain ⟨b, o, rfl, _⟩ := ha.2 h0
    refine allWithin_any lo hi b o n c zs w ha.1 hn fun i hi' => ?_
    obtain ⟨b', o', e, hc⟩ := Rep.int_at ha hi'
    injection e with e; injection e with e1 e2 _
    subst e1 e2
    exact hc

theorem isRising_below (q : Bool) (lo hi : Nat) (A : Option Addr) (n c : Nat) (ys : List Int) (w : World) (ha : Rep.int.Sl q lo hi w A n ys) (hn : n ≤ 1048576) :
    Calls Try.prog 136 #[.slice A n c] w fun e w' => e = .returned (.bool (decide (ups ys))) ∧ Below w.heap.size w w' :=
  (isRising_any q lo hi A n c ys w ha hn).mono fun e w' h => by obtain ⟨h1, m, rfl⟩ := h; exact ⟨h1, below_drewN (Below.refl _ _) _⟩

set_option maxRecDepth 100000 in
set_option maxHeartbeats 3200000 in
theorem itemsHaveTwins_any (q : Bool) (lo hi : Nat) (A : Option Addr) (n c : Nat) (ys : List Tmr) (w : World) (ha : Rep.timer.Sl q lo hi w A n ys) (hh : hi ≤ w.heap.size) (hn : n ≤ 1000000) (hc : n ≤ c) :
    Calls Try.prog 137 #[.slice A n c] w fun e w' => e = .returned (.bool (twinB ys)) ∧ Below w.heap.size w w' := by
  have HA := Rep.Sl.kept ha hh
  have hl := ha.1
  clear ha
  go_enter Try.func137, Try.ntmps137
  go_wp2
  go_loopw [7] (fun i wr => ∃ k : Nat, k ≤ n ∧ i = .int .i64 k ∧ Hid (twinB (ys.take k) = false) ∧ Hid (Below w.heap.size w wr)) (fun i _ => n - (intOf i).toNat)
  case atStart => exact ⟨0, Nat.zero_le _, rfl, Lib.hid (by simp [twinB]), Lib.hid (Below.refl _ _)⟩
  case round =>
    obtain ⟨k, hk, rfl, HN, HB⟩ := hrel
    by_cases hlt : k < n
    · obtain ⟨b, o, a, rfl, hya, a0, a1, a2, a3⟩ := Rep.timer_at (HA.below HB.out).sl hlt
      have hlt' : (k : Int) < n := by omega
      have hkc : (k : Int) ≤ c := by omega
      obtain ⟨r, hr⟩ : ∃ r, ((ys.take k).any fun t => keyT t a) = r := ⟨_, rfl⟩
      have HT : Hid (twinB (ys.take (k + 1)) = r) := Lib.hid (by rw [twinB_take hya, HN.out, Bool.false_or, ← hr]; congr 1; funext u; exact keyT_comm _ _)
      have HR := Lib.hid hr
      clear hr hya
      go_upto_region 4 with (fail)
      refine Code.wp_name ?_
      intro V hV
      have hbV : Below wr.heap.size wr V := by rw [hV]; exact (Below.refl _ _).alloc (Nat.le_refl _) _
      have HX : Kept wr.heap.size (wr.heap.size + 1) (BoxK wr.heap.size 66 #[.int .i64 a.typ, .int .i64 a.id, .int .i64 a.adv, .int .i64 a.due]) V := by rw [hV]; exact Kept.box (Box.made _ _ _)
      have HA1 := (HA.below HB.out).below hbV
      have HB1 := Lib.hid (below_step HB.out hbV)
      have SB : Hid (∀ W, Hid (Below V.heap.size V W) → (fun W => W.cell? ⟨wr.heap.size, 0, none⟩ = some (.int .i64 a.typ) ∧ W.cell? ⟨wr.heap.size, 1, none⟩ = some (.int .i64 a.id) ∧ W.cell? ⟨wr.heap.size, 2, none⟩ = some (.int .i64 a.adv)) W) := fun W h => ⟨(HX.below h.out).look 0, (HX.below h.out).look 1, (HX.below h.out).look 2⟩
      have V0 : Hid (Below V.heap.size V V.drew) := (Below.refl _ _).drew
      clear hV hbV a0 a1 a2 a3
      go_region_held3 (fun W => W.cell? ⟨wr.heap.size, 0, none⟩ = some (.int .i64 a.typ) ∧ W.cell? ⟨wr.heap.size, 1, none⟩ = some (.int .i64 a.id) ∧ W.cell? ⟨wr.heap.size, 2, none⟩ = some (.int .i64 a.adv)) (exact SB.out _ (by assumption))
        (first | (go_at_call 126; ((with_reducible refine (ofKey_any a _).mono ?_); rintro e u1 ⟨rfl, hx, hb⟩; have V1 := Lib.hid (below_step V0.out hb); clear hb; have HK : Kept V.heap.size (V.heap.size + 1) (BoxK V.heap.size 34 #[.int .i64 a.typ, .int .i64 a.id, .int .i64 a.adv]) u1 := hx; clear hx)) | (go_at_call 207; ((with_reducible refine (containsKey_any q lo hi _ k c (ys.take k) a _ _ ((HA1.below V1.out).sl.take (by omega)) (HA1.below V1.out).le (by omega) HK.bx).mono ?_); rw [HR.out]; rintro e u2 ⟨rfl, hb⟩; have V2 := Lib.hid (below_step V1.out hb); clear hb)))
      have HB2 := Lib.hid (below_step HB1.out V2.out)
      clear SB V0 V1 V2 HK HX HA1 HB1
      cases r with
      | true =>
        go_wp2
        go_ret
        exact ⟨by rw [twinB_more HT.out]; rfl, HB2.out⟩
      | false =>
        go_wp2
        go_roundw
        case rel => exact ⟨k + 1, by omega, by go_num, HT, HB2⟩
        case measure => simp [intOf]; omega
    · have HF : Hid (twinB ys = false) := Lib.hid (by have := HN.out; rwa [List.take_of_length_le (by omega)] at this)
      go_wp2
      go_ret
      exact ⟨by rw [HF.out]; rfl, HB.out⟩

set_option maxRecDepth 100000 in
set_option maxHeartbeats 3200000 in
theorem queueFault_any (cap : Int) (mk : Bool) (q : Bool) (lo hi : Nat) (A : Option Addr) (n c : Nat) (ys : List Tmr) (w : World) (ha : Rep.timer.Sl q lo hi w A n ys) (hh : hi ≤ w.heap.size) (hn : n ≤ 1048576) (hc : n ≤ c) :
    Calls Try.prog 56 #[.agg #[.int .i64 cap, .bool mk, .slice A n c]] w fun e w' => e = .returned (.int .i64 (qf cap ys)) ∧ Below w.heap.size w w' := by
  have hl := ha.1
  by_cases h0 : ¬ (1 ≤ cap ∧ cap ≤ 8)
  · have HB := Lib.hid (Below.refl w.heap.size w)
    have HA := Rep.Sl.kept ha hh
    have HI := Lib.hid (allIn_one_no h0)
    have HQ : Hid (qf cap ys = 3) := Lib.hid (by unfold qf; rw [if_pos h0])
    clear h0
    clear ha hl
    go_enter Try.func56, Try.ntmps56
    go_wp2_with fail
    refine Calls.name ?_
    intro U1 hU1
    have hb : Below w.heap.size w U1 := by rw [hU1]; exact (((Below.refl _ _).alloc (Nat.le_refl _) _).alloc (by simp <;> omega) _)
    have zz : Hid (w.heap.size + 2 = U1.heap.size) := Lib.hid (by rw [hU1]; simp)
    have HX1 : Kept w.heap.size (w.heap.size + 1) (BoxK w.heap.size 59 #[.int .i64 cap, .bool mk, .slice A n c]) U1 := by rw [hU1]; exact Kept.box ((Box.made_at _ _ _ rfl).over _)
    have HX2 : Kept (w.heap.size + 1) (w.heap.size + 1 + 1) (BoxK (w.heap.size + 1) 2 #[.int .i64 cap]) U1 := by rw [hU1]; exact Kept.box (Box.made_at _ _ _ (by simp <;> omega))
    replace HA := HA.below hb
    replace HB := Lib.hid (below_step HB.out hb)
    clear hb
    have Z1 := zz; clear zz
    clear hU1
    have HL := Lib.hid (HX2.look 0)
    refine (allWithin_one _ _ _ cap _ HL.out).mono ?_
    rw [HI.out]
    rintro e w2 ⟨rfl, rfl⟩
    clear HL
    have l2_0 := HX1.bx.lt
    have l2_1 := HX2.bx.lt
    go_wp2
    clear l2_0 l2_1
    go_ret
    exact ⟨by rw [HQ.out]; rfl, HB.out⟩
  by_cases h1 : cap < (ys.length : Int)
  · have HB := Lib.hid (Below.refl w.heap.size w)
    have HA := Rep.Sl.kept ha hh
    have h0' : 1 ≤ cap ∧ cap ≤ 8 := by omega
    have HI := Lib.hid (allIn_one_yes h0'.1 h0'.2)
    have HQ : Hid (qf cap ys = 2) := Lib.hid (by unfold qf; rw [if_neg h0, if_pos h1])
    have hlt : cap < (n : Int) := by omega
    clear h0 h0' h1
    clear ha hl
    go_enter Try.func56, Try.ntmps56
    go_wp2_with fail
    refine Calls.name ?_
    intro U1 hU1
    have hb : Below w.heap.size w U1 := by rw [hU1]; exact (((Below.refl _ _).alloc (Nat.le_refl _) _).alloc (by simp <;> omega) _)
    have zz : Hid (w.heap.size + 2 = U1.heap.size) := Lib.hid (by rw [hU1]; simp)
    have HX1 : Kept w.heap.size (w.heap.size + 1) (BoxK w.heap.size 59 #[.int .i64 cap, .bool mk, .slice A n c]) U1 := by rw [hU1]; exact Kept.box ((Box.made_at _ _ _ rfl).over _)
    have HX2 : Kept (w.heap.size + 1) (w.heap.size + 1 + 1) (BoxK (w.heap.size + 1) 2 #[.int .i64 cap]) U1 := by rw [hU1]; exact Kept.box (Box.made_at _ _ _ (by simp <;> omega))
    replace HA := HA.below hb
    replace HB := Lib.hid (below_step HB.out hb)
    clear hb
    have Z1 := zz; clear zz
    clear hU1
    have HL := Lib.hid (HX2.look 0)
    refine (allWithin_one _ _ _ cap _ HL.out).mono ?_
    rw [HI.out]
    rintro e w2 ⟨rfl, rfl⟩
    clear HL
    have c2_0 := HX1.look 0
    have c2_1 := HX1.look 2
    have l2_0 := HX1.bx.lt
    have l2_1 := HX2.bx.lt
    go_wp2
    clear c2_0 c2_1 l2_0 l2_1
    go_ret
    exact ⟨by rw [HQ.out]; rfl, HB.out⟩
  by_cases h2 : allIn 1 100000 (revs ys) = false
  · have HB := Lib.hid (Below.refl w.heap.size w)
    have HA := Rep.Sl.kept ha hh
    have h0' : 1 ≤ cap ∧ cap ≤ 8 := by omega
    have HI := Lib.hid (allIn_one_yes h0'.1 h0'.2)
    have hle : ¬ cap < (n : Int) := by omega
    have hn8 : n ≤ 8 := by omega
    have HR := Lib.hid h2
    have HQ : Hid (qf cap ys = 3) := Lib.hid (by unfold qf; rw [if_neg h0, if_neg h1, if_pos h2])
    clear h0 h0' h1 h2
    clear ha hl
    go_enter Try.func56, Try.ntmps56
    go_wp2_with fail
    refine Calls.name ?_
    intro U1 hU1
    have hb : Below w.heap.size w U1 := by rw [hU1]; exact (((Below.refl _ _).alloc (Nat.le_refl _) _).alloc (by simp <;> omega) _)
    have zz : Hid (w.heap.size + 2 = U1.heap.size) := Lib.hid (by rw [hU1]; simp)
    have HX1 : Kept w.heap.size (w.heap.size + 1) (BoxK w.heap.size 59 #[.int .i64 cap, .bool mk, .slice A n c]) U1 := by rw [hU1]; exact Kept.box ((Box.made_at _ _ _ rfl).over _)
    have HX2 : Kept (w.heap.size + 1) (w.heap.size + 1 + 1) (BoxK (w.heap.size + 1) 2 #[.int .i64 cap]) U1 := by rw [hU1]; exact Kept.box (Box.made_at _ _ _ (by simp <;> omega))
    replace HA := HA.below hb
    replace HB := Lib.hid (below_step HB.out hb)
    clear hb
    have Z1 := zz; clear zz
    clear hU1
    have HL := Lib.hid (HX2.look 0)
    refine (allWithin_one _ _ _ cap _ HL.out).mono ?_
    rw [HI.out]
    rintro e w2 ⟨rfl, rfl⟩
    clear HL
    have c2_0 := HX1.look 0
    have c2_1 := HX1.look 2
    have l2_0 := HX1.bx.lt
    have l2_1 := HX2.bx.lt
    go_wp2_with fail
    clear c2_0 c2_1 l2_0 l2_1
    refine (revsOf_any q lo hi A n c ys _ HA.sl HA.le (by omega)).mono ?_
    rintro e w3 ⟨B, d, rfl, ho, hb⟩
    have Z2 := Lib.hid hb.size
    replace HA := HA.below hb
    replace HX1 := HX1.below hb
    replace HX2 := HX2.below hb
    replace HB := Lib.hid (below_step HB.out hb)
    clear hb
    have HO := ho.kept rfl; clear ho
    have l3_0 := HX1.bx.lt
    have l3_1 := HX2.bx.lt
    go_wp2_with fail
    clear l3_0 l3_1
    refine (allWithin_sl 1 100000 true _ _ B n d _ _ (ints_of_own HO.ownF) (by omega)).mono ?_
    rw [HR.out]
    rintro e w4 ⟨rfl, rfl⟩
    have l4_0 := HX1.bx.lt
    have l4_1 := HX2.bx.lt
    go_wp2
    clear l4_0 l4_1
    go_ret
    exact ⟨by rw [HQ.out]; rfl, HB.out⟩
  by_cases h3 : ¬ ups (revs ys)
  · have HB := Lib.hid (Below.refl w.heap.size w)
    have HA := Rep.Sl.kept ha hh
    have h0' : 1 ≤ cap ∧ cap ≤ 8 := by omega
    have HI := Lib.hid (allIn_one_yes h0'.1 h0'.2)
    have hle : ¬ cap < (n : Int) := by omega
    have hn8 : n ≤ 8 := by omega
    have HR : Hid (allIn 1 100000 (revs ys) = true) := Lib.hid (by simpa using h2)
    have HU := Lib.hid (decide_eq_false h3)
    have HQ : Hid (qf cap ys = 1) := Lib.hid (by unfold qf; rw [if_neg h0, if_neg h1, if_neg h2, if_pos h3])
    clear h0 h0' h1 h2 h3
    clear ha hl
    go_enter Try.func56, Try.ntmps56
    go_wp2_with fail
    refine Calls.name ?_
    intro U1 hU1
    have hb : Below w.heap.size w U1 := by rw [hU1]; exact (((Below.refl _ _).alloc (Nat.le_refl _) _).alloc (by simp <;> omega) _)
    have zz : Hid (w.heap.size + 2 = U1.heap.size) := Lib.hid (by rw [hU1]; simp)
    have HX1 : Kept w.heap.size (w.heap.size + 1) (BoxK w.heap.size 59 #[.int .i64 cap, .bool mk, .slice A n c]) U1 := by rw [hU1]; exact Kept.box ((Box.made_at _ _ _ rfl).over _)
    have HX2 : Kept (w.heap.size + 1) (w.heap.size + 1 + 1) (BoxK (w.heap.size + 1) 2 #[.int .i64 cap]) U1 := by rw [hU1]; exact Kept.box (Box.made_at _ _ _ (by simp <;> omega))
    replace HA := HA.below hb
    replace HB := Lib.hid (below_step HB.out hb)
    clear hb
    have Z1 := zz; clear zz
    clear hU1
    have HL := Lib.hid (HX2.look 0)
    refine (allWithin_one _ _ _ cap _ HL.out).mono ?_
    rw [HI.out]
    rintro e w2 ⟨rfl, rfl⟩
    clear HL
    have c2_0 := HX1.look 0
    have c2_1 := HX1.look 2
    have l2_0 := HX1.bx.lt
    have l2_1 := HX2.bx.lt
    go_wp2_with fail
    clear c2_0 c2_1 l2_0 l2_1
    refine (revsOf_any q lo hi A n c ys _ HA.sl HA.le (by omega)).mono ?_
    rintro e w3 ⟨B, d, rfl, ho, hb⟩
    have Z2 := Lib.hid hb.size
    replace HA := HA.below hb
    replace HX1 := HX1.below hb
    replace HX2 := HX2.below hb
    replace HB := Lib.hid (below_step HB.out hb)
    clear hb
    have HO := ho.kept rfl; clear ho
    have l3_0 := HX1.bx.lt
    have l3_1 := HX2.bx.lt
    go_wp2_with fail
    clear l3_0 l3_1
    refine (allWithin_sl 1 100000 true _ _ B n d _ _ (ints_of_own HO.ownF) (by omega)).mono ?_
    rw [HR.out]
    rintro e w4 ⟨rfl, rfl⟩
    have l4_0 := HX1.bx.lt
    have l4_1 := HX2.bx.lt
    go_wp2_with fail
    clear l4_0 l4_1
    refine (isRising_below true _ _ B n d _ _ (ints_of_own HO.ownF) (by omega)).mono ?_
    rw [HU.out]
    rintro e w5 ⟨rfl, hb⟩
    have Z3 := Lib.hid hb.size
    replace HA := HA.below hb
    replace HX1 := HX1.below hb
    replace HX2 := HX2.below hb
    replace HO := HO.below hb
    replace HB := Lib.hid (below_step HB.out hb)
    clear hb
    have l5_0 := HX1.bx.lt
    have l5_1 := HX2.bx.lt
    go_wp2
    clear l5_0 l5_1
    go_ret
    exact ⟨by rw [HQ.out]; rfl, HB.out⟩
  by_cases h4 : twinB ys = true
  · have HB := Lib.hid (Below.refl w.heap.size w)
    have HA := Rep.Sl.kept ha hh
    have h0' : 1 ≤ cap ∧ cap ≤ 8 := by omega
    have HI := Lib.hid (allIn_one_yes h0'.1 h0'.2)
    have hle : ¬ cap < (n : Int) := by omega
    have hn8 : n ≤ 8 := by omega
    have HR : Hid (allIn 1 100000 (revs ys) = true) := Lib.hid (by simpa using h2)
    have h3' : ups (revs ys) := Classical.byContradiction h3
    have HU := Lib.hid (decide_eq_true h3')
    have HTW := Lib.hid h4
    have HQ : Hid (qf cap ys = 8) := Lib.hid (by unfold qf; rw [if_neg h0, if_neg h1, if_neg h2, if_neg h3, if_pos h4])
    clear h0 h0' h1 h2 h3 h3' h4
    clear ha hl
    go_enter Try.func56, Try.ntmps56
    go_wp2_with fail
    refine Calls.name ?_
    intro U1 hU1
    have hb : Below w.heap.size w U1 := by rw [hU1]; exact (((Below.refl _ _).alloc (Nat.le_refl _) _).alloc (by simp <;> omega) _)
    have zz : Hid (w.heap.size + 2 = U1.heap.size) := Lib.hid (by rw [hU1]; simp)
    have HX1 : Kept w.heap.size (w.heap.size + 1) (BoxK w.heap.size 59 #[.int .i64 cap, .bool mk, .slice A n c]) U1 := by rw [hU1]; exact Kept.box ((Box.made_at _ _ _ rfl).over _)
    have HX2 : Kept (w.heap.size + 1) (w.heap.size + 1 + 1) (BoxK (w.heap.size + 1) 2 #[.int .i64 cap]) U1 := by rw [hU1]; exact Kept.box (Box.made_at _ _ _ (by simp <;> omega))
    replace HA := HA.below hb
    replace HB := Lib.hid (below_step HB.out hb)
    clear hb
    have Z1 := zz; clear zz
    clear hU1
    have HL := Lib.hid (HX2.look 0)
    refine (allWithin_one _ _ _ cap _ HL.out).mono ?_
    rw [HI.out]
    rintro e w2 ⟨rfl, rfl⟩
    clear HL
    have c2_0 := HX1.look 0
    have c2_1 := HX1.look 2
    have l2_0 := HX1.bx.lt
    have l2_1 := HX2.bx.lt
    go_wp2_with fail
    clear c2_0 c2_1 l2_0 l2_1
    refine (revsOf_any q lo hi A n c ys _ HA.sl HA.le (by omega)).mono ?_
    rintro e w3 ⟨B, d, rfl, ho, hb⟩
    have Z2 := Lib.hid hb.size
    replace HA := HA.below hb
    replace HX1 := HX1.below hb
    replace HX2 := HX2.below hb
    replace HB := Lib.hid (below_step HB.out hb)
    clear hb
    have HO := ho.kept rfl; clear ho
    have l3_0 := HX1.bx.lt
    have l3_1 := HX2.bx.lt
    go_wp2_with fail
    clear l3_0 l3_1
    refine (allWithin_sl 1 100000 true _ _ B n d _ _ (ints_of_own HO.ownF) (by omega)).mono ?_
    rw [HR.out]
    rintro e w4 ⟨rfl, rfl⟩
    have l4_0 := HX1.bx.lt
    have l4_1 := HX2.bx.lt
    go_wp2_with fail
    clear l4_0 l4_1
    refine (isRising_below true _ _ B n d _ _ (ints_of_own HO.ownF) (by omega)).mono ?_
    rw [HU.out]
    rintro e w5 ⟨rfl, hb⟩
    have Z3 := Lib.hid hb.size
    replace HA := HA.below hb
    replace HX1 := HX1.below hb
    replace HX2 := HX2.below hb
    replace HO := HO.below hb
    replace HB := Lib.hid (below_step HB.out hb)
    clear hb
    have c5_0 := HX1.look 2
    have l5_0 := HX1.bx.lt
    have l5_1 := HX2.bx.lt
    go_wp2_with fail
    clear c5_0 l5_0 l5_1
    refine (itemsHaveTwins_any q lo hi A n c ys _ HA.sl HA.le (by omega) hc).mono ?_
    rw [HTW.out]
    rintro e w6 ⟨rfl, hb⟩
    have Z4 := Lib.hid hb.size
    replace HA := HA.below hb
    replace HX1 := HX1.below hb
    replace HX2 := HX2.below hb
    replace HO := HO.below hb
    replace HB := Lib.hid (below_step HB.out hb)
    clear hb
    have l6_0 := HX1.bx.lt
    have l6_1 := HX2.bx.lt
    go_wp2
    clear l6_0 l6_1
    go_ret
    exact ⟨by rw [HQ.out]; rfl, HB.out⟩
  · have HB := Lib.hid (Below.refl w.heap.size w)
    have HA := Rep.Sl.kept ha hh
    have h0' : 1 ≤ cap ∧ cap ≤ 8 := by omega
    have HI := Lib.hid (allIn_one_yes h0'.1 h0'.2)
    have hle : ¬ cap < (n : Int) := by omega
    have hn8 : n ≤ 8 := by omega
    have HR : Hid (allIn 1 100000 (revs ys) = true) := Lib.hid (by simpa using h2)
    have h3' : ups (revs ys) := Classical.byContradiction h3
    have HU := Lib.hid (decide_eq_true h3')
    have HTW : Hid (twinB ys = false) := Lib.hid (by simpa using h4)
    have HQ : Hid (qf cap ys = 0) := Lib.hid (by unfold qf; rw [if_neg h0, if_neg h1, if_neg h2, if_neg h3, if_neg h4])
    clear h0 h0' h1 h2 h3 h3' h4
    clear ha hl
    go_enter Try.func56, Try.ntmps56
    go_wp2_with fail
    refine Calls.name ?_
    intro U1 hU1
    have hb : Below w.heap.size w U1 := by rw [hU1]; exact (((Below.refl _ _).alloc (Nat.le_refl _) _).alloc (by simp <;> omega) _)
    have zz : Hid (w.heap.size + 2 = U1.heap.size) := Lib.hid (by rw [hU1]; simp)
    have HX1 : Kept w.heap.size (w.heap.size + 1) (BoxK w.heap.size 59 #[.int .i64 cap, .bool mk, .slice A n c]) U1 := by rw [hU1]; exact Kept.box ((Box.made_at _ _ _ rfl).over _)
    have HX2 : Kept (w.heap.size + 1) (w.heap.size + 1 + 1) (BoxK (w.heap.size + 1) 2 #[.int .i64 cap]) U1 := by rw [hU1]; exact Kept.box (Box.made_at _ _ _ (by simp <;> omega))
    replace HA := HA.below hb
    replace HB := Lib.hid (below_step HB.out hb)
    clear hb
    have Z1 := zz; clear zz
    clear hU1
    have HL := Lib.hid (HX2.look 0)
    refine (allWithin_one _ _ _ cap _ HL.out).mono ?_
    rw [HI.out]
    rintro e w2 ⟨rfl, rfl⟩
    clear HL
    have c2_0 := HX1.look 0
    have c2_1 := HX1.look 2
    have l2_0 := HX1.bx.lt
    have l2_1 := HX2.bx.lt
    go_wp2_with fail
    clear c2_0 c2_1 l2_0 l2_1
    refine (revsOf_any q lo hi A n c ys _ HA.sl HA.le (by omega)).mono ?_
    rintro e w3 ⟨B, d, rfl, ho, hb⟩
    have Z2 := Lib.hid hb.size
    replace HA := HA.below hb
    replace HX1 := HX1.below hb
    replace HX2 := HX2.below hb
    replace HB := Lib.hid (below_step HB.out hb)
    clear hb
    have HO := ho.kept rfl; clear ho
    have l3_0 := HX1.bx.lt
    have l3_1 := HX2.bx.lt
    go_wp2_with fail
    clear l3_0 l3_1
    refine (allWithin_sl 1 100000 true _ _ B n d _ _ (ints_of_own HO.ownF) (by omega)).mono ?_
    rw [HR.out]
    rintro e w4 ⟨rfl, rfl⟩
    have l4_0 := HX1.bx.lt
    have l4_1 := HX2.bx.lt
    go_wp2_with fail
    clear l4_0 l4_1
    refine (isRising_below true _ _ B n d _ _ (ints_of_own HO.ownF) (by omega)).mono ?_
    rw [HU.out]
    rintro e w5 ⟨rfl, hb⟩
    have Z3 := Lib.hid hb.size
    replace HA := HA.below hb
    replace HX1 := HX1.below hb
    replace HX2 := HX2.below hb
    replace HO := HO.below hb
    replace HB := Lib.hid (below_step HB.out hb)
    clear hb
    have c5_0 := HX1.look 2
    have l5_0 := HX1.bx.lt
    have l5_1 := HX2.bx.lt
    go_wp2_with fail
    clear c5_0 l5_0 l5_1
    refine (itemsHaveTwins_any q lo hi A n c ys _ HA.sl HA.le (by omega) hc).mono ?_
    rw [HTW.out]
    rintro e w6 ⟨rfl, hb⟩
    have Z4 := Lib.hid hb.size
    replace HA := HA.below hb
    replace HX1 := HX1.below hb
    replace HX2 := HX2.below hb
    replace HO := HO.below hb
    replace HB := Lib.hid (below_step HB.out hb)
    clear hb
    have l6_0 := HX1.bx.lt
    have l6_1 := HX2.bx.lt
    go_wp2
    clear l6_0 l6_1
    go_ret
    exact ⟨by rw [HQ.out]; rfl, HB.out⟩

end Go.Proofs.Ytiffhjofabaflaa
