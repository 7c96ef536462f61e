/-
  What the laws' helpers do with a queue's items: szItemS counts, toItem, toItemS copy, eqItem, eqItemS find like ones alike, markItemS marks, heldItemS finds the marks again. No statement is proved here.
-/
import Derived.Test.YtiffhjofabaflaaTcell
import Derived.Test.YtiffhjofabaflaaTimerMark
import Derived.Test.YtiffhjofabaflaaTimerSS
namespace Go.Proofs.Ytiffhjofabaflaa
open Go.RowKit
set_option linter.unusedVariables false

theorem itemInfo : (Try.prog.info? 66).map (fun i => (i.zero, i.size, i.bytes)) = some (some (.agg #[.int .i64 0, .int .i64 0, .int .i64 0, .int .i64 0]), 4, 32) := by kernel_rfl

theorem toItem_any (k t o c : Int) (w : World) :
    Calls Try.prog 214 #[.agg #[.int .i64 k, .int .i64 t, .int .i64 o, .int .i64 c]] w fun e w' => e = .returned (.agg #[.int .i64 k, .int .i64 t, .int .i64 o, .int .i64 c]) ∧ Below w.heap.size w w' := by
  have HB := Lib.hid (Below.refl w.heap.size w)
  go_enter Try.func214, Try.ntmps214
  go_wp2_with fail
  refine Calls.name ?_
  intro U1 hU1
  have hb : Below w.heap.size w U1 := by rw [hU1]; exact ((((Below.refl _ _).alloc (Nat.le_refl _) _).alloc (by simp <;> omega) _).alloc (by simp <;> omega) _)
  have zz : Hid (w.heap.size + 3 = U1.heap.size) := Lib.hid (by rw [hU1]; simp)
  have HX1 : Kept w.heap.size (w.heap.size + 1) (BoxK w.heap.size 285 #[.int .i64 k, .int .i64 t, .int .i64 o, .int .i64 c]) U1 := by rw [hU1]; exact Kept.box (((Box.made_at _ _ _ rfl).over _).over _)
  have HX2 : Kept (w.heap.size + 1) (w.heap.size + 1 + 1) (BoxK (w.heap.size + 1) 66 #[.int .i64 0, .int .i64 0, .int .i64 0, .int .i64 0]) U1 := by rw [hU1]; exact Kept.box ((Box.made_at _ _ _ (by simp <;> omega)).over _)
  have HX3 : Kept (w.heap.size + 1 + 1) (w.heap.size + 1 + 1 + 1) (BoxK (w.heap.size + 1 + 1) 66 #[.int .i64 0, .int .i64 0, .int .i64 0, .int .i64 0]) U1 := by rw [hU1]; exact Kept.box (Box.made_at _ _ _ (by simp <;> omega))
  replace HB := Lib.hid (below_step HB.out hb)
  clear hb
  have Z1 := zz; clear zz
  clear hU1
  refine (toKey_any k t o _).mono ?_
  rintro e w2 ⟨rfl, hb⟩
  have Z2 := Lib.hid hb.size
  replace HX1 := HX1.below hb
  replace HX2 := HX2.below hb
  replace HX3 := HX3.below hb
  replace HB := Lib.hid (below_step HB.out hb)
  clear hb
  have c2_0 := HX1.look 3
  have c2_1 := HX2.look 0
  have c2_2 := HX2.look 1
  have c2_3 := HX2.look 2
  have c2_4 := HX2.look 3
  have c2_5 := HX3.look 0
  have c2_6 := HX3.look 1
  have c2_7 := HX3.look 2
  have c2_8 := HX3.look 3
  have f2_0 := HX2.free 0
  have f2_1 := HX2.free 1
  have f2_2 := HX2.free 2
  have f2_3 := HX2.free 3
  have f2_4 := HX3.free 0
  have f2_5 := HX3.free 1
  have f2_6 := HX3.free 2
  have f2_7 := HX3.free 3
  have l2_0 := HX1.bx.lt
  have l2_1 := HX2.bx.lt
  have l2_2 := HX3.bx.lt
  have n2_0_0 : ¬ (w.heap.size + 1) = w.heap.size := (by have := Z1.out; have := Z2.out; omega)
  have m2_0_0 : ¬ w.heap.size = (w.heap.size + 1) := (by have := Z1.out; have := Z2.out; omega)
  have n2_0_2 : ¬ (w.heap.size + 1) = (w.heap.size + 1 + 1) := (by have := Z1.out; have := Z2.out; omega)
  have m2_0_2 : ¬ (w.heap.size + 1 + 1) = (w.heap.size + 1) := (by have := Z1.out; have := Z2.out; omega)
  have n2_1_0 : ¬ (w.heap.size + 1 + 1) = w.heap.size := (by have := Z1.out; have := Z2.out; omega)
  have m2_1_0 : ¬ w.heap.size = (w.heap.size + 1 + 1) := (by have := Z1.out; have := Z2.out; omega)
  go_wp2
  clear c2_0 c2_1 c2_2 c2_3 c2_4 c2_5 c2_6 c2_7 c2_8 f2_0 f2_1 f2_2 f2_3 f2_4 f2_5 f2_6 f2_7 l2_0 l2_1 l2_2 n2_0_0 m2_0_0 n2_0_2 m2_0_2 n2_1_0 m2_1_0
  obtain ⟨U3, hU3⟩ : ∃ W : World, W = ((((w2.setCell ⟨w.heap.size + 1 + 1, 0, none⟩ (.int .i64 k)).setCell ⟨w.heap.size + 1 + 1, 1, none⟩ (.int .i64 t)).setCell ⟨w.heap.size + 1 + 1, 2, none⟩ (.int .i64 o)).setCell ⟨w.heap.size + 1 + 1, 3, none⟩ (.int .i64 c)) := ⟨_, rfl⟩
  have ho : Only (w.heap.size + 1 + 1) (w.heap.size + 1 + 1 + 1) w2 U3 := by rw [hU3]; exact (((((Only.refl _ _ _).set (p := ⟨w.heap.size + 1 + 1, 0, none⟩) (Nat.le_refl _) (Nat.lt_succ_self _) _).set (p := ⟨w.heap.size + 1 + 1, 1, none⟩) (Nat.le_refl _) (Nat.lt_succ_self _) _).set (p := ⟨w.heap.size + 1 + 1, 2, none⟩) (Nat.le_refl _) (Nat.lt_succ_self _) _).set (p := ⟨w.heap.size + 1 + 1, 3, none⟩) (Nat.le_refl _) (Nat.lt_succ_self _) _)
  replace HX3 : Kept (w.heap.size + 1 + 1) (w.heap.size + 1 + 1 + 1) (BoxK (w.heap.size + 1 + 1) 66 #[.int .i64 k, .int .i64 t, .int .i64 o, .int .i64 c]) U3 := by rw [hU3]; exact Kept.box ((((HX3.bx.puts 0 (.int .i64 k) (cs' := #[.int .i64 k, .int .i64 0, .int .i64 0, .int .i64 0]) rfl).puts 1 (.int .i64 t) (cs' := #[.int .i64 k, .int .i64 t, .int .i64 0, .int .i64 0]) rfl).puts 2 (.int .i64 o) (cs' := #[.int .i64 k, .int .i64 t, .int .i64 o, .int .i64 0]) rfl).puts 3 (.int .i64 c) (cs' := #[.int .i64 k, .int .i64 t, .int .i64 o, .int .i64 c]) rfl)
  replace HX1 := HX1.only ho (by have := Z1.out; have := Z2.out; omega)
  replace HX2 := HX2.only ho (by have := Z1.out; have := Z2.out; omega)
  replace HB := Lib.hid (Below.only HB.out ho (by have := Z1.out; have := Z2.out; omega) HB.out.size)
  have Z3 : Hid (U3.heap.size = w2.heap.size) := Lib.hid (by rw [hU3]; simp [World.setCell]); clear ho
  obtain ⟨U4, hU4⟩ : ∃ W : World, W = ((((U3.setCell ⟨w.heap.size + 1, 0, none⟩ (.int .i64 k)).setCell ⟨w.heap.size + 1, 1, none⟩ (.int .i64 t)).setCell ⟨w.heap.size + 1, 2, none⟩ (.int .i64 o)).setCell ⟨w.heap.size + 1, 3, none⟩ (.int .i64 c)) := ⟨_, rfl⟩
  have ho : Only (w.heap.size + 1) (w.heap.size + 1 + 1) U3 U4 := by rw [hU4]; exact (((((Only.refl _ _ _).set (p := ⟨w.heap.size + 1, 0, none⟩) (Nat.le_refl _) (Nat.lt_succ_self _) _).set (p := ⟨w.heap.size + 1, 1, none⟩) (Nat.le_refl _) (Nat.lt_succ_self _) _).set (p := ⟨w.heap.size + 1, 2, none⟩) (Nat.le_refl _) (Nat.lt_succ_self _) _).set (p := ⟨w.heap.size + 1, 3, none⟩) (Nat.le_refl _) (Nat.lt_succ_self _) _)
  replace HX2 : Kept (w.heap.size + 1) (w.heap.size + 1 + 1) (BoxK (w.heap.size + 1) 66 #[.int .i64 k, .int .i64 t, .int .i64 o, .int .i64 c]) U4 := by rw [hU4]; exact Kept.box ((((HX2.bx.puts 0 (.int .i64 k) (cs' := #[.int .i64 k, .int .i64 0, .int .i64 0, .int .i64 0]) rfl).puts 1 (.int .i64 t) (cs' := #[.int .i64 k, .int .i64 t, .int .i64 0, .int .i64 0]) rfl).puts 2 (.int .i64 o) (cs' := #[.int .i64 k, .int .i64 t, .int .i64 o, .int .i64 0]) rfl).puts 3 (.int .i64 c) (cs' := #[.int .i64 k, .int .i64 t, .int .i64 o, .int .i64 c]) rfl)
  replace HX1 := HX1.only ho (by have := Z1.out; have := Z2.out; have := Z3.out; omega)
  replace HX3 := HX3.only ho (by have := Z1.out; have := Z2.out; have := Z3.out; omega)
  replace HB := Lib.hid (Below.only HB.out ho (by have := Z1.out; have := Z2.out; have := Z3.out; omega) HB.out.size)
  have Z4 : Hid (U4.heap.size = U3.heap.size) := Lib.hid (by rw [hU4]; simp [World.setCell]); clear ho
  have q_0 := HX2.look 0
  have q_1 := HX2.look 1
  have q_2 := HX2.look 2
  have q_3 := HX2.look 3
  subst hU4 hU3
  exact bodyPost_ret (v := .agg #[.int .i64 k, .int .i64 t, .int .i64 o, .int .i64 c]) (by simp [results, Try.results214, go_sem, q_0, q_1, q_2, q_3]) rfl ⟨rfl, HB.out⟩

set_option maxHeartbeats 800000 in
theorem toItemS_any (q : Bool) (lo hi : Nat) (A : Option Addr) (n c : Nat) (ys : List Tmr) (w : World) (ha : Rep.timer.Sl q lo hi w A n ys) (hh : hi ≤ w.heap.size) (hn : n ≤ 1048576) :
    Calls Try.prog 163 #[.slice A n c] w fun e w' => e = .returned (.slice (some ⟨w.heap.size, 0, none⟩) n n) ∧
      Rep.timer.Sl true w.heap.size (w.heap.size + 1) w' (some ⟨w.heap.size, 0, none⟩) n ys ∧ w.heap.size < w'.heap.size ∧ Below w.heap.size w w' := by
  obtain ⟨i0, hi0, hz0, hz1, hz2⟩ := info_parts itemInfo
  go_enter Try.func163, Try.ntmps163
  go_wp2_with (at_make; refine wpList_make_full _ rfl _ _ 57 rfl w.heap.size 66 i0 _ 4 Try.underlying57 hi0 hz0 hz1 .i64 .i64 _ _ n rfl rfl rfl rfl (by rw [hz2]; omega) (by unfold maxLen; omega) (Nat.le_refl _) ?_; intro w1 hown1 hg1)
  have hb1 := below_of_grown hg1
  clear hg1 hi0 hz0 hz1 hz2
  obtain ⟨B, HB⟩ : ∃ B, Hid (B = w.heap.size) := ⟨_, Lib.hid rfl⟩
  rw [← HB.out] at hown1 hb1 ⊢
  go_loopw [4] (fun i wr => ∃ k : Nat, k ≤ n ∧ i = .int .i64 k ∧ ∃ xs : List Value, wr.ownsRow B 66 4 (.slice (some ⟨B, 0, none⟩) n n) n xs ∧ Below B w wr ∧
      Hid (∀ j a, j < k → ys[j]? = some a → xs[j * 4]? = some (.int .i64 a.typ) ∧ xs[j * 4 + 1]? = some (.int .i64 a.id) ∧ xs[j * 4 + 2]? = some (.int .i64 a.adv) ∧ xs[j * 4 + 3]? = some (.int .i64 a.due)))
    (fun i _ => n - (intOf i).toNat)
  case atStart => exact ⟨0, Nat.zero_le _, rfl, _, hown1, hb1, fun j a hj => absurd hj (by omega)⟩
  case round =>
    obtain ⟨k, hk, rfl, xs, hown, hbw, HS⟩ := hrel
    by_cases hlt : k < n
    · obtain ⟨b, o, a, rfl, hya, ca0, ca1, ca2, ca3⟩ := Rep.timer_at (ha.below (by rw [← HB.out]; exact hbw) hh) hlt
      have hlt' : (k : Int) < n := by omega
      have HYA := Lib.hid hya
      clear hya
      go_wp2_with fail
      refine (toItem_any _ _ _ _ _).mono ?_
      rintro e w2 ⟨rfl, hb2⟩
      have hown2 : w2.ownsRow B 66 4 (.slice (some ⟨B, 0, none⟩) n n) n xs := World.ownsRow.kept hown (grownBy_of_below hb2 none) (by simp [Value.ownBlock])
      have hbw2 : Below B w w2 := hbw.trans (hb2.mono (Nat.le_of_lt (World.ownsRow.lt hown B rfl).2))
      have hl : xs.length = n * 4 := hown2.1
      have h4 : k * 4 + 3 < n * 4 := by omega
      obtain ⟨v0, d0⟩ := own_some hown2 (j := k * 4) (by omega)
      obtain ⟨v1, d1⟩ := own_some hown2 (j := k * 4 + 1) (by omega)
      obtain ⟨v2, d2⟩ := own_some hown2 (j := k * 4 + 2) (by omega)
      obtain ⟨v3, d3⟩ := own_some hown2 (j := k * 4 + 3) (by omega)
      have f0 := World.ownsRow.frozenAt hown2 (k * 4)
      have f1 := World.ownsRow.frozenAt hown2 (k * 4 + 1)
      have f2 := World.ownsRow.frozenAt hown2 (k * 4 + 2)
      have f3 := World.ownsRow.frozenAt hown2 (k * 4 + 3)
      obtain ⟨s1, _⟩ := World.ownsRow.stored hown2 (k * 4) (.int .i64 a.typ)
      obtain ⟨s2, _⟩ := World.ownsRow.stored s1 (k * 4 + 1) (.int .i64 a.id)
      obtain ⟨s3, _⟩ := World.ownsRow.stored s2 (k * 4 + 2) (.int .i64 a.adv)
      obtain ⟨s4, _⟩ := World.ownsRow.stored s3 (k * 4 + 3) (.int .i64 a.due)
      have HO := Lib.hid s4
      have HL := Lib.hid hl
      have HBW := Lib.hid hbw2
      clear s1 s2 s3 s4 hl hbw2 hown hown2 hbw hb2
      go_wp2
      go_roundw
      case rel =>
        refine ⟨k + 1, by omega, by go_num, _, HO.out, (((HBW.out.setCell (Nat.le_refl _) _).setCell (Nat.le_refl _) _).setCell (Nat.le_refl _) _).setCell (Nat.le_refl _) _, fun j x hj hx => ?_⟩
        have hl := HL.out
        by_cases e : j = k
        · subst e
          have hax : x = a := by have := HYA.out; rw [hx] at this; injection this
          subst hax
          refine ⟨?_, ?_, ?_, ?_⟩ <;> simp only [List.getElem?_set, List.length_set]
          · rw [if_neg (by omega), if_neg (by omega), if_neg (by omega), if_pos trivial, if_pos (by omega)]
          · rw [if_neg (by omega), if_neg (by omega), if_pos trivial, if_pos (by omega)]
          · rw [if_neg (by omega), if_pos trivial, if_pos (by omega)]
          · rw [if_pos trivial, if_pos (by omega)]
        · obtain ⟨e0, e1, e2, e3⟩ := HS.out j x (by omega) hx
          refine ⟨?_, ?_, ?_, ?_⟩ <;> simp only [List.getElem?_set, List.length_set]
          · rw [if_neg (by omega), if_neg (by omega), if_neg (by omega), if_neg (by omega)]; exact e0
          · rw [if_neg (by omega), if_neg (by omega), if_neg (by omega), if_neg (by omega)]; exact e1
          · rw [if_neg (by omega), if_neg (by omega), if_neg (by omega), if_neg (by omega)]; exact e2
          · rw [if_neg (by omega), if_neg (by omega), if_neg (by omega), if_neg (by omega)]; exact e3
      case measure => simp [intOf]; omega
    · have HO := Lib.hid hown
      have hlen := ha.1
      clear hown
      go_wp2
      go_ret
      obtain rfl := HB.out
      have hlt2 : w.heap.size < wr.heap.size := (World.ownsRow.lt HO.out w.heap.size rfl).2
      refine ⟨rfl, ⟨hlen, fun _ => ⟨w.heap.size, 0, rfl, Nat.le_refl _, by omega, fun _ i => World.ownsRow.frozenAt HO.out i, fun i a hi' => ?_⟩⟩, hlt2, hbw⟩
      have hin : i < n := by
        rcases Nat.lt_or_ge i ys.length with h' | h'
        · omega
        · rw [List.getElem?_eq_none h'] at hi'; cases hi'
      obtain ⟨e0, e1, e2, e3⟩ := HS.out i a (by omega) hi'
      refine ⟨[.int .i64 a.typ, .int .i64 a.id, .int .i64 a.adv, .int .i64 a.due], rfl, fun j u hj => ?_⟩
      have hj4 : j < 4 := by
        rcases Nat.lt_or_ge j 4 with h' | h'
        · exact h'
        · rw [List.getElem?_eq_none (by simpa using h')] at hj; cases hj
      have hc := World.ownsRow.cellAt HO.out (i * 4 + j) (by omega)
      show wr.cell? ⟨w.heap.size, 0 + i * 4 + j, none⟩ = some u
      rw [Nat.zero_add, hc, ← hj]
      rcases (show j = 0 ∨ j = 1 ∨ j = 2 ∨ j = 3 by omega) with rfl | rfl | rfl | rfl
      · exact e0
      · exact e1
      · exact e2
      · exact e3

theorem eqItem_yes (k t o c : Int) (w : World) :
    Calls Try.prog 220 #[.agg #[.int .i64 k, .int .i64 t, .int .i64 o, .int .i64 c], .agg #[.int .i64 k, .int .i64 t, .int .i64 o, .int .i64 c]] w fun e w' => e = .returned (.bool true) ∧ Below w.heap.size w w' := by
  have HB := Lib.hid (Below.refl w.heap.size w)
  go_enter Try.func220, Try.ntmps220
  go_wp2_with fail
  refine Calls.name ?_
  intro U1 hU1
  have hb : Below w.heap.size w U1 := by rw [hU1]; exact (((Below.refl _ _).alloc (Nat.le_refl _) _).alloc (by simp <;> omega) _)
  have zz : Hid (w.heap.size + 2 = U1.heap.size) := Lib.hid (by rw [hU1]; simp)
  have HX1 : Kept w.heap.size (w.heap.size + 1) (BoxK w.heap.size 66 #[.int .i64 k, .int .i64 t, .int .i64 o, .int .i64 c]) U1 := by rw [hU1]; exact Kept.box ((Box.made_at _ _ _ rfl).over _)
  have HX2 : Kept (w.heap.size + 1) (w.heap.size + 1 + 1) (BoxK (w.heap.size + 1) 66 #[.int .i64 k, .int .i64 t, .int .i64 o, .int .i64 c]) U1 := by rw [hU1]; exact Kept.box (Box.made_at _ _ _ (by simp <;> omega))
  replace HB := Lib.hid (below_step HB.out hb)
  clear hb
  have Z1 := zz; clear zz
  clear hU1
  refine (eqKey_yes k t o _).mono ?_
  rintro e w2 ⟨rfl, hb⟩
  have Z2 := Lib.hid hb.size
  replace HX1 := HX1.below hb
  replace HX2 := HX2.below hb
  replace HB := Lib.hid (below_step HB.out hb)
  clear hb
  have c2_0 := HX1.look 3
  have c2_1 := HX2.look 3
  have l2_0 := HX1.bx.lt
  have l2_1 := HX2.bx.lt
  go_wp2
  clear c2_0 c2_1 l2_0 l2_1
  go_ret
  exact ⟨rfl, HB.out⟩

set_option maxHeartbeats 1600000 in
theorem eqItemS_yes (q1 q2 : Bool) (l1 h1 l2 h2 : Nat) (A B : Option Addr) (n c d : Nat) (ys : List Tmr) (w : World) (ha : Rep.timer.Sl q1 l1 h1 w A n ys) (hb : Rep.timer.Sl q2 l2 h2 w B n ys) (hh1 : h1 ≤ w.heap.size) (hh2 : h2 ≤ w.heap.size) (hn : n ≤ 1048576) :
    Calls Try.prog 168 #[.slice A n c, .slice B n d] w fun e w' => e = .returned (.bool true) ∧ Below w.heap.size w w' := by
  go_enter Try.func168, Try.ntmps168
  go_wp2
  go_loopw [5] (fun i wr => ∃ k : Nat, k ≤ n ∧ i = .int .i64 k ∧ Hid (Below w.heap.size w wr)) (fun i _ => n - (intOf i).toNat)
  case atStart => exact ⟨0, Nat.zero_le _, rfl, Below.refl _ _⟩
  case round =>
    obtain ⟨k, hk, rfl, HB⟩ := hrel
    by_cases hlt : k < n
    · obtain ⟨b, o, a, rfl, hya, a0, a1, a2, a3⟩ := Rep.timer_at (ha.below HB.out hh1) hlt
      obtain ⟨b', o', a', rfl, hya', b0, b1, b2, b3⟩ := Rep.timer_at (hb.below HB.out hh2) hlt
      obtain rfl : a' = a := by rw [hya] at hya'; injection hya' with e; exact e.symm
      have hlt' : (k : Int) < n := by omega
      clear hya hya'
      have SB : Hid (∀ W, Hid (Below wr.heap.size wr W) → (fun W => W.cell? ⟨b, o + k * 4, none⟩ = some (.int .i64 a'.typ) ∧ W.cell? ⟨b, o + k * 4 + 1, none⟩ = some (.int .i64 a'.id) ∧ W.cell? ⟨b, o + k * 4 + 2, none⟩ = some (.int .i64 a'.adv) ∧ W.cell? ⟨b, o + k * 4 + 3, none⟩ = some (.int .i64 a'.due) ∧ W.cell? ⟨b', o' + k * 4, none⟩ = some (.int .i64 a'.typ) ∧ W.cell? ⟨b', o' + k * 4 + 1, none⟩ = some (.int .i64 a'.id) ∧ W.cell? ⟨b', o' + k * 4 + 2, none⟩ = some (.int .i64 a'.adv) ∧ W.cell? ⟨b', o' + k * 4 + 3, none⟩ = some (.int .i64 a'.due)) W) := fun W h => ⟨(h.out.cell (World.block_lt_of_cell? wr _ a0)).trans a0, (h.out.cell (World.block_lt_of_cell? wr _ a1)).trans a1, (h.out.cell (World.block_lt_of_cell? wr _ a2)).trans a2, (h.out.cell (World.block_lt_of_cell? wr _ a3)).trans a3, (h.out.cell (World.block_lt_of_cell? wr _ b0)).trans b0, (h.out.cell (World.block_lt_of_cell? wr _ b1)).trans b1, (h.out.cell (World.block_lt_of_cell? wr _ b2)).trans b2, (h.out.cell (World.block_lt_of_cell? wr _ b3)).trans b3⟩
      have V0 : Hid (Below wr.heap.size wr wr.drew) := (Below.refl _ _).drew
      clear a0 a1 a2 a3 b0 b1 b2 b3
      go_wp2
      go_region_held3 (fun W => W.cell? ⟨b, o + k * 4, none⟩ = some (.int .i64 a'.typ) ∧ W.cell? ⟨b, o + k * 4 + 1, none⟩ = some (.int .i64 a'.id) ∧ W.cell? ⟨b, o + k * 4 + 2, none⟩ = some (.int .i64 a'.adv) ∧ W.cell? ⟨b, o + k * 4 + 3, none⟩ = some (.int .i64 a'.due) ∧ W.cell? ⟨b', o' + k * 4, none⟩ = some (.int .i64 a'.typ) ∧ W.cell? ⟨b', o' + k * 4 + 1, none⟩ = some (.int .i64 a'.id) ∧ W.cell? ⟨b', o' + k * 4 + 2, none⟩ = some (.int .i64 a'.adv) ∧ W.cell? ⟨b', o' + k * 4 + 3, none⟩ = some (.int .i64 a'.due)) (exact SB.out _ (by assumption))
        (first | (go_at_call 220; refine (eqItem_yes _ _ _ _ _).mono ?_; rintro e u ⟨rfl, hbu⟩; have U0 := Lib.hid (below_step V0.out hbu); clear hbu))
      have HU := Lib.hid (below_step HB.out U0.out)
      clear SB V0 U0 HB
      go_wp2
      go_roundw
      case rel => exact ⟨k + 1, by omega, by go_num, HU⟩
      case measure => simp [intOf]; omega
    · go_wp2
      go_ret
      exact ⟨rfl, HB.out⟩

theorem szItemS_any (A : Option Addr) (n c : Nat) (left : Int) (w : World) (h0 : 0 ≤ left) (h1 : left ≤ 1048576) (hn : n ≤ maxLen) :
    Calls Try.prog 157 #[.slice A n c, .int .i64 left] w fun e w' => e = .returned (.int .i64 (if left - n < 0 then -1 else left - n)) ∧ w' = w := by
  unfold maxLen at hn
  by_cases h : left - n < 0
  · rw [if_pos h]
    go_enter Try.func157, Try.ntmps157
    go_wp2
    go_ret
    exact ⟨rfl, rfl⟩
  · rw [if_neg h]
    go_enter Try.func157, Try.ntmps157
    go_wp2
    go_ret
    exact ⟨rfl, rfl⟩

end Go.Proofs.Ytiffhjofabaflaa
