/-
  The model's PopItem. No statement is proved here.
-/
import Derived.Test.YtomkgohhfllpgaaSpecCopy
namespace Go.Proofs.Ytomkgohhfllpgaa
open Go.RowKit
set_option linter.unusedVariables false

/-- Of one item, none behind it. -/
theorem items_end {t : TypeId} {w : World} {B g c : Nat} {ys : List Tmr} {A : Option Addr} (h : OwnF t 4 tcell w B (some ⟨g, 0, none⟩) 1 c ys) : ∃ bs, Rep.timer.FSl w A 0 (ys.drop 1) bs ∧ bs.Nodup ∧ ∀ x ∈ bs, x = g :=
  ⟨[], .inl ⟨rfl, List.eq_nil_of_length_eq_zero (by rw [List.length_drop, h.1]), rfl⟩, List.nodup_nil, fun x hx => by cases hx⟩
/-- Items somewhere, and one in a new block. -/
theorem QK.from_box {w : World} {lo hi : Nat} {A : Option Addr} {n : Nat} {us : List Tmr} {bs : List Nat} {g : Nat} {t : TypeId} {a : Tmr} (h1 : Rep.timer.FSl w A n us bs) (h2 : bs.Nodup) (h3 : ∀ x ∈ bs, lo ≤ x ∧ x < hi ∧ x ≠ g) (hw : hi ≤ w.heap.size)
    (hb : Box w g t #[.int .i64 a.typ, .int .i64 a.id, .int .i64 a.adv, .int .i64 a.due]) (hlo : lo ≤ g ∧ g < hi) (_ : ∀ x ∈ bs, x ≠ g) : QK lo hi A n us (some ⟨g, 0, none⟩) 1 [a] w := by
  refine ⟨bs, [g], h1, .inr ⟨by omega, g, rfl, rfl, fun _ => ⟨g, 0, rfl, Nat.le_refl _, Nat.lt_succ_self _, fun _ i => hb.free i, fun i x hx => ?_⟩⟩, List.nodup_append.2 ⟨h2, by simp, fun x hx y hy e => (h3 x hx).2.2 (by simp at hy; omega)⟩, fun x hx => ?_⟩
  · have hi0 : i = 0 := by have := (List.getElem?_eq_some_iff.1 hx).1; simp at this; exact this
    subst hi0
    simp only [List.getElem?_cons_zero, Option.some.injEq] at hx
    subst hx
    refine ⟨tcell a, rfl, fun j u hj => ?_⟩
    have hj4 : j < 4 := by have := (List.getElem?_eq_some_iff.1 hj).1; simpa [tcell] using this
    have e : (0 + 0 * 4 + j) = j := by omega
    show w.cell? ⟨g, 0 + 0 * 4 + j, none⟩ = some u
    rw [e, hb.look j, ← hj]
    rcases (show j = 0 ∨ j = 1 ∨ j = 2 ∨ j = 3 by omega) with rfl | rfl | rfl | rfl <;> rfl
  · rcases List.mem_append.1 hx with h | h
    · exact ⟨(h3 x h).1, (h3 x h).2.1⟩
    · simp at h; subst h; exact hlo

set_option maxRecDepth 100000 in
set_option maxHeartbeats 3200000 in
theorem specPopItem_any (cap : Int) (mk : Bool) (q : Bool) (lo hi : Nat) (A : Option Addr) (n c : Nat) (ys : List Tmr) (w : World) (ha : Rep.timer.Sl q lo hi w A n ys) (hh : hi ≤ w.heap.size) (hn : n ≤ 1048576) :
    Calls Try.prog 24 #[.agg #[.int .i64 cap, .bool mk, .slice A n c]] w fun e w' => ∃ O j k E m d, e = .returned (.agg #[.int .i64 (ppC cap mk ys), .int .i64 (ppX cap mk ys), .bool (ppP ys), .slice O j k, .bool (ppT cap mk ys), .slice E m d]) ∧ Kept w.heap.size w'.heap.size (QK w.heap.size w'.heap.size O j (ppU cap mk ys) E m (ppZ cap mk ys)) w' ∧ Below w.heap.size w w' := by
  have hl := ha.1
  by_cases h0 : ¬ qf cap ys = 0
  · have HB := Lib.hid (Below.refl w.heap.size w)
    have HA := Rep.Sl.kept ha hh
    have Zh := Lib.hid hh
    obtain ⟨r, hr⟩ : ∃ z, qf cap ys = z := ⟨_, rfl⟩
    have HR := Lib.hid hr
    have h0r : ¬ r = 0 := by rw [← hr]; exact h0
    have hr0 : (r != 0) = true := by simpa using h0r
    have HV : Hid (ppC cap mk ys = r ∧ ppX cap mk ys = 0 ∧ ppP ys = false ∧ ppU cap mk ys = [] ∧ ppT cap mk ys = false ∧ ppZ cap mk ys = []) := Lib.hid (by refine ⟨?_, ?_, ?_, ?_, ?_, ?_⟩ <;> simp [ppC, ppP, ppT, ppU, ppX, ppZ, hr, h0r])
    clear h0 hr h0r
    clear ha hl hh
    go_enter Try.func24, Try.ntmps24
    go_wp2_with fail
    refine Calls.name ?_
    intro U1 hU1
    have hb : Below w.heap.size w U1 := by rw [hU1]; exact (((Below.refl _ _).alloc (Nat.le_refl _) _).alloc (by simp <;> omega) _)
    have zz : Hid (w.heap.size + 2 = U1.heap.size) := Lib.hid (by rw [hU1]; simp)
    have HX1 : Kept w.heap.size (w.heap.size + 1) (BoxK w.heap.size 26 #[.int .i64 cap, .bool mk, .slice A n c]) U1 := by rw [hU1]; exact Kept.box ((Box.made_at _ _ _ rfl).over _)
    have HX2 : Kept (w.heap.size + 1) (w.heap.size + 1 + 1) (BoxK (w.heap.size + 1) 30 #[.int .i64 0, .int .i64 0, .bool false, .slice none 0 0, .bool false, .slice none 0 0]) U1 := by rw [hU1]; exact Kept.box (Box.made_at _ _ _ (by simp <;> omega))
    replace HA := HA.below hb
    replace HB := Lib.hid (below_step HB.out hb)
    clear hb
    have Z1 := zz; clear zz
    clear hU1
    refine (specQueueFault_any cap mk q lo hi A n c ys _ HA.sl HA.le hn).mono ?_
    rw [HR.out]
    rintro e w2 ⟨rfl, hb⟩
    have Z2 := Lib.hid hb.size
    replace HA := HA.below hb
    replace HX1 := HX1.below hb
    replace HX2 := HX2.below hb
    replace HB := Lib.hid (below_step HB.out hb)
    clear hb
    have c2_0 := HX2.look 0
    have c2_1 := HX2.look 1
    have c2_2 := HX2.look 2
    have c2_3 := HX2.look 3
    have c2_4 := HX2.look 4
    have c2_5 := HX2.look 5
    have f2_0 := HX2.free 0
    have f2_1 := HX2.free 1
    have f2_2 := HX2.free 2
    have f2_3 := HX2.free 3
    have f2_4 := HX2.free 4
    have f2_5 := HX2.free 5
    have l2_0 := HX1.bx.lt
    have l2_1 := HX2.bx.lt
    go_wp2
    clear c2_0 c2_1 c2_2 c2_3 c2_4 c2_5 f2_0 f2_1 f2_2 f2_3 f2_4 f2_5 l2_0 l2_1
    obtain ⟨U3, hU3⟩ : ∃ W : World, W = ((((((w2.setCell ⟨w.heap.size + 1, 0, none⟩ (.int .i64 r)).setCell ⟨w.heap.size + 1, 1, none⟩ (.int .i64 0)).setCell ⟨w.heap.size + 1, 2, none⟩ (.bool false)).setCell ⟨w.heap.size + 1, 3, none⟩ (.slice none 0 0)).setCell ⟨w.heap.size + 1, 4, none⟩ (.bool false)).setCell ⟨w.heap.size + 1, 5, none⟩ (.slice none 0 0)) := ⟨_, rfl⟩
    have ho : Only (w.heap.size + 1) (w.heap.size + 1 + 1) w2 U3 := by rw [hU3]; exact (((((((Only.refl _ _ _).set (p := ⟨w.heap.size + 1, 0, none⟩) (Nat.le_refl _) (Nat.lt_succ_self _) _).set (p := ⟨w.heap.size + 1, 1, none⟩) (Nat.le_refl _) (Nat.lt_succ_self _) _).set (p := ⟨w.heap.size + 1, 2, none⟩) (Nat.le_refl _) (Nat.lt_succ_self _) _).set (p := ⟨w.heap.size + 1, 3, none⟩) (Nat.le_refl _) (Nat.lt_succ_self _) _).set (p := ⟨w.heap.size + 1, 4, none⟩) (Nat.le_refl _) (Nat.lt_succ_self _) _).set (p := ⟨w.heap.size + 1, 5, none⟩) (Nat.le_refl _) (Nat.lt_succ_self _) _)
    replace HX2 : Kept (w.heap.size + 1) (w.heap.size + 1 + 1) (BoxK (w.heap.size + 1) 30 #[.int .i64 r, .int .i64 0, .bool false, .slice none 0 0, .bool false, .slice none 0 0]) U3 := by rw [hU3]; exact Kept.box ((((((HX2.bx.puts 0 (.int .i64 r) (cs' := #[.int .i64 r, .int .i64 0, .bool false, .slice none 0 0, .bool false, .slice none 0 0]) rfl).puts 1 (.int .i64 0) (cs' := #[.int .i64 r, .int .i64 0, .bool false, .slice none 0 0, .bool false, .slice none 0 0]) rfl).puts 2 (.bool false) (cs' := #[.int .i64 r, .int .i64 0, .bool false, .slice none 0 0, .bool false, .slice none 0 0]) rfl).puts 3 (.slice none 0 0) (cs' := #[.int .i64 r, .int .i64 0, .bool false, .slice none 0 0, .bool false, .slice none 0 0]) rfl).puts 4 (.bool false) (cs' := #[.int .i64 r, .int .i64 0, .bool false, .slice none 0 0, .bool false, .slice none 0 0]) rfl).puts 5 (.slice none 0 0) (cs' := #[.int .i64 r, .int .i64 0, .bool false, .slice none 0 0, .bool false, .slice none 0 0]) rfl)
    replace HA := HA.only ho (by have := Zh.out; have := Z1.out; have := Z2.out; omega)
    replace HX1 := HX1.only ho (by have := Zh.out; have := Z1.out; have := Z2.out; omega)
    replace HB := Lib.hid (Below.only HB.out ho (by have := Zh.out; have := Z1.out; have := Z2.out; omega) HB.out.size)
    have Z3 : Hid (U3.heap.size = w2.heap.size) := Lib.hid (by rw [hU3]; simp [World.setCell]); clear ho
    have q_0 := HX2.look 0
    have q_1 := HX2.look 1
    have q_2 := HX2.look 2
    have q_3 := HX2.look 3
    have q_4 := HX2.look 4
    have q_5 := HX2.look 5
    subst hU3
    exact bodyPost_ret (v := .agg #[.int .i64 r, .int .i64 0, .bool false, .slice none 0 0, .bool false, .slice none 0 0]) (by simp [results, Try.results24, go_sem, q_0, q_1, q_2, q_3, q_4, q_5]) rfl ⟨none, 0, 0, none, 0, 0, by rw [HV.out.1, HV.out.2.1, HV.out.2.2.1, HV.out.2.2.2.2.1], by rw [HV.out.2.2.2.1, HV.out.2.2.2.2.2]; exact QK.kept (QK.nil _ _ _ _ _) (Nat.le_refl _), HB.out⟩
  have h0 : qf cap ys = 0 := Classical.byContradiction h0
  cases mk with
  | true =>
    have HB := Lib.hid (Below.refl w.heap.size w)
    have HA := Rep.Sl.kept ha hh
    have Zh := Lib.hid hh
    have HR := Lib.hid h0
    have hq8 := qf_ok h0
    have hn8 : n ≤ 1000 := by have := hq8.2.2.1; omega
    have HV : Hid (ppC cap true ys = 0 ∧ ppX cap true ys = cap ∧ ppP ys = false ∧ ppU cap true ys = ys ∧ ppT cap true ys = true ∧ ppZ cap true ys = []) := Lib.hid (by refine ⟨?_, ?_, ?_, ?_, ?_, ?_⟩ <;> simp [ppC, ppX, ppP, ppU, ppT, ppZ, h0])
    clear h0 hq8
    clear ha hl hh
    go_enter Try.func24, Try.ntmps24
    go_wp2_with fail
    refine Calls.name ?_
    intro U1 hU1
    have hb : Below w.heap.size w U1 := by rw [hU1]; exact (((Below.refl _ _).alloc (Nat.le_refl _) _).alloc (by simp <;> omega) _)
    have zz : Hid (w.heap.size + 2 = U1.heap.size) := Lib.hid (by rw [hU1]; simp)
    have HX1 : Kept w.heap.size (w.heap.size + 1) (BoxK w.heap.size 26 #[.int .i64 cap, .bool true, .slice A n c]) U1 := by rw [hU1]; exact Kept.box ((Box.made_at _ _ _ rfl).over _)
    have HX2 : Kept (w.heap.size + 1) (w.heap.size + 1 + 1) (BoxK (w.heap.size + 1) 30 #[.int .i64 0, .int .i64 0, .bool false, .slice none 0 0, .bool false, .slice none 0 0]) U1 := by rw [hU1]; exact Kept.box (Box.made_at _ _ _ (by simp <;> omega))
    replace HA := HA.below hb
    replace HB := Lib.hid (below_step HB.out hb)
    clear hb
    have Z1 := zz; clear zz
    clear hU1
    refine (specQueueFault_any cap true q lo hi A n c ys _ HA.sl HA.le hn).mono ?_
    rw [HR.out]
    rintro e w2 ⟨rfl, hb⟩
    have Z2 := Lib.hid hb.size
    replace HA := HA.below hb
    replace HX1 := HX1.below hb
    replace HX2 := HX2.below hb
    replace HB := Lib.hid (below_step HB.out hb)
    clear hb
    have l2_0 := HX1.bx.lt
    have l2_1 := HX2.bx.lt
    go_wp2_with fail
    clear l2_0 l2_1
    refine (l6Copy_any cap true w.heap.size q lo hi A n c ys _ HX1.bx HA.sl HA.le hn8).mono ?_
    rintro e w3 ⟨E, d, rfl, ho, hb⟩
    have Z3 := Lib.hid hb.size
    replace HA := HA.below hb
    replace HX1 := HX1.below hb
    replace HX2 := HX2.below hb
    replace HB := Lib.hid (below_step HB.out hb)
    clear hb
    have HO := ho; clear ho
    have c3_0 := HX1.look 1
    have c3_1 := HX2.look 0
    have c3_2 := HX2.look 1
    have c3_3 := HX2.look 2
    have c3_4 := HX2.look 3
    have c3_5 := HX2.look 4
    have c3_6 := HX2.look 5
    have f3_0 := HX2.free 0
    have f3_1 := HX2.free 1
    have f3_2 := HX2.free 2
    have f3_3 := HX2.free 3
    have f3_4 := HX2.free 4
    have f3_5 := HX2.free 5
    have l3_0 := HX1.bx.lt
    have l3_1 := HX2.bx.lt
    have n3_0_0 : ¬ (w.heap.size + 1) = w.heap.size := (by have := Zh.out; have := Z1.out; have := Z2.out; have := Z3.out; omega)
    have m3_0_0 : ¬ w.heap.size = (w.heap.size + 1) := (by have := Zh.out; have := Z1.out; have := Z2.out; have := Z3.out; omega)
    go_wp2
    clear c3_0 c3_1 c3_2 c3_3 c3_4 c3_5 c3_6 f3_0 f3_1 f3_2 f3_3 f3_4 f3_5 l3_0 l3_1 n3_0_0 m3_0_0
    obtain ⟨U4, hU4⟩ : ∃ W : World, W = ((((((w3.setCell ⟨w.heap.size + 1, 0, none⟩ (.int .i64 0)).setCell ⟨w.heap.size + 1, 1, none⟩ (.int .i64 cap)).setCell ⟨w.heap.size + 1, 2, none⟩ (.bool false)).setCell ⟨w.heap.size + 1, 3, none⟩ (.slice E n d)).setCell ⟨w.heap.size + 1, 4, none⟩ (.bool true)).setCell ⟨w.heap.size + 1, 5, none⟩ (.slice none 0 0)) := ⟨_, rfl⟩
    have ho : Only (w.heap.size + 1) (w.heap.size + 1 + 1) w3 U4 := by rw [hU4]; exact (((((((Only.refl _ _ _).set (p := ⟨w.heap.size + 1, 0, none⟩) (Nat.le_refl _) (Nat.lt_succ_self _) _).set (p := ⟨w.heap.size + 1, 1, none⟩) (Nat.le_refl _) (Nat.lt_succ_self _) _).set (p := ⟨w.heap.size + 1, 2, none⟩) (Nat.le_refl _) (Nat.lt_succ_self _) _).set (p := ⟨w.heap.size + 1, 3, none⟩) (Nat.le_refl _) (Nat.lt_succ_self _) _).set (p := ⟨w.heap.size + 1, 4, none⟩) (Nat.le_refl _) (Nat.lt_succ_self _) _).set (p := ⟨w.heap.size + 1, 5, none⟩) (Nat.le_refl _) (Nat.lt_succ_self _) _)
    replace HX2 : Kept (w.heap.size + 1) (w.heap.size + 1 + 1) (BoxK (w.heap.size + 1) 30 #[.int .i64 0, .int .i64 cap, .bool false, .slice E n d, .bool true, .slice none 0 0]) U4 := by rw [hU4]; exact Kept.box ((((((HX2.bx.puts 0 (.int .i64 0) (cs' := #[.int .i64 0, .int .i64 0, .bool false, .slice none 0 0, .bool false, .slice none 0 0]) rfl).puts 1 (.int .i64 cap) (cs' := #[.int .i64 0, .int .i64 cap, .bool false, .slice none 0 0, .bool false, .slice none 0 0]) rfl).puts 2 (.bool false) (cs' := #[.int .i64 0, .int .i64 cap, .bool false, .slice none 0 0, .bool false, .slice none 0 0]) rfl).puts 3 (.slice E n d) (cs' := #[.int .i64 0, .int .i64 cap, .bool false, .slice E n d, .bool false, .slice none 0 0]) rfl).puts 4 (.bool true) (cs' := #[.int .i64 0, .int .i64 cap, .bool false, .slice E n d, .bool true, .slice none 0 0]) rfl).puts 5 (.slice none 0 0) (cs' := #[.int .i64 0, .int .i64 cap, .bool false, .slice E n d, .bool true, .slice none 0 0]) rfl)
    replace HA := HA.only ho (by have := Zh.out; have := Z1.out; have := Z2.out; have := Z3.out; omega)
    replace HX1 := HX1.only ho (by have := Zh.out; have := Z1.out; have := Z2.out; have := Z3.out; omega)
    replace HO := HO.only ho (by have := Zh.out; have := Z1.out; have := Z2.out; have := Z3.out; omega)
    replace HB := Lib.hid (Below.only HB.out ho (by have := Zh.out; have := Z1.out; have := Z2.out; have := Z3.out; omega) HB.out.size)
    have Z4 : Hid (U4.heap.size = w3.heap.size) := Lib.hid (by rw [hU4]; simp [World.setCell]); clear ho
    obtain ⟨U5, hU5⟩ : ∃ W : World, W = (U4.alloc (.cells #[.int .i64 cap, .bool false, .slice E n d] 26)) := ⟨_, rfl⟩
    have hb : Below U4.heap.size U4 U5 := by rw [hU5]; exact ((Below.refl _ _).alloc (Nat.le_refl _) _)
    have zz : Hid (U4.heap.size + 1 = U5.heap.size) := Lib.hid (by rw [hU5]; simp)
    have HX3 : Kept w3.heap.size (w3.heap.size + 1) (BoxK w3.heap.size 26 #[.int .i64 cap, .bool false, .slice E n d]) U5 := by rw [hU5]; exact Kept.box (Box.made_at _ _ _ (by rw [hU4]; simp [World.setCell]))
    replace HA := HA.below hb
    replace HX1 := HX1.below hb
    replace HX2 := HX2.below hb
    replace HO := HO.below hb
    replace HB := Lib.hid (below_step HB.out hb)
    clear hb
    have Z5 := zz; clear zz
    have q_0 := HX2.look 0
    have q_1 := HX2.look 1
    have q_2 := HX2.look 2
    have q_3 := HX2.look 3
    have q_4 := HX2.look 4
    have q_5 := HX2.look 5
    subst hU5 hU4
    exact bodyPost_ret (v := .agg #[.int .i64 0, .int .i64 cap, .bool false, .slice E n d, .bool true, .slice none 0 0]) (by simp [results, Try.results24, go_sem, q_0, q_1, q_2, q_3, q_4, q_5]) rfl ⟨E, n, d, none, 0, 0, by rw [HV.out.1, HV.out.2.1, HV.out.2.2.1, HV.out.2.2.2.2.1], by rw [HV.out.2.2.2.1, HV.out.2.2.2.2.2]; exact QK.kept (QK.of_own (HO.ownF.mono (by have := Zh.out; have := Z1.out; have := Z2.out; have := Z3.out; have := Z4.out; have := Z5.out; omega)) (OwnF.nil_ _ _ _ _ _) (fun r _ h => by cases h)) (Nat.le_refl _), HB.out⟩
  | false =>
  by_cases hn0 : n = 0
  · have HB := Lib.hid (Below.refl w.heap.size w)
    have HA := Rep.Sl.kept ha hh
    have Zh := Lib.hid hh
    have hy0 : ys = [] := List.eq_nil_of_length_eq_zero (by omega)
    have h0e : qf cap [] = 0 := by rw [← hy0]; exact h0
    have HR := Lib.hid h0
    have hq8 := qf_ok h0
    have hn8 : n ≤ 1000 := by have := hq8.2.2.1; omega
    have HV : Hid (ppC cap false ys = 4 ∧ ppX cap false ys = 0 ∧ ppP ys = false ∧ ppU cap false ys = [] ∧ ppT cap false ys = false ∧ ppZ cap false ys = []) := Lib.hid (by refine ⟨?_, ?_, ?_, ?_, ?_, ?_⟩ <;> simp [ppC, ppX, ppP, ppU, ppT, ppZ, hy0, h0e])
    have hn1 : ((n : Int) == 0) = true := by rw [hn0]; rfl
    clear h0 hq8 hy0 hn0 h0e
    clear ha hl hh
    go_enter Try.func24, Try.ntmps24
    go_wp2_with fail
    refine Calls.name ?_
    intro U1 hU1
    have hb : Below w.heap.size w U1 := by rw [hU1]; exact (((Below.refl _ _).alloc (Nat.le_refl _) _).alloc (by simp <;> omega) _)
    have zz : Hid (w.heap.size + 2 = U1.heap.size) := Lib.hid (by rw [hU1]; simp)
    have HX1 : Kept w.heap.size (w.heap.size + 1) (BoxK w.heap.size 26 #[.int .i64 cap, .bool false, .slice A n c]) U1 := by rw [hU1]; exact Kept.box ((Box.made_at _ _ _ rfl).over _)
    have HX2 : Kept (w.heap.size + 1) (w.heap.size + 1 + 1) (BoxK (w.heap.size + 1) 30 #[.int .i64 0, .int .i64 0, .bool false, .slice none 0 0, .bool false, .slice none 0 0]) U1 := by rw [hU1]; exact Kept.box (Box.made_at _ _ _ (by simp <;> omega))
    replace HA := HA.below hb
    replace HB := Lib.hid (below_step HB.out hb)
    clear hb
    have Z1 := zz; clear zz
    clear hU1
    refine (specQueueFault_any cap false q lo hi A n c ys _ HA.sl HA.le hn).mono ?_
    rw [HR.out]
    rintro e w2 ⟨rfl, hb⟩
    have Z2 := Lib.hid hb.size
    replace HA := HA.below hb
    replace HX1 := HX1.below hb
    replace HX2 := HX2.below hb
    replace HB := Lib.hid (below_step HB.out hb)
    clear hb
    have l2_0 := HX1.bx.lt
    have l2_1 := HX2.bx.lt
    go_wp2_with fail
    clear l2_0 l2_1
    refine (l6Copy_any cap false w.heap.size q lo hi A n c ys _ HX1.bx HA.sl HA.le hn8).mono ?_
    rintro e w3 ⟨E, d, rfl, ho, hb⟩
    have Z3 := Lib.hid hb.size
    replace HA := HA.below hb
    replace HX1 := HX1.below hb
    replace HX2 := HX2.below hb
    replace HB := Lib.hid (below_step HB.out hb)
    clear hb
    have HO := ho; clear ho
    have c3_0 := HX1.look 1
    have c3_1 := HX1.look 2
    have c3_2 := HX2.look 0
    have c3_3 := HX2.look 1
    have c3_4 := HX2.look 2
    have c3_5 := HX2.look 3
    have c3_6 := HX2.look 4
    have c3_7 := HX2.look 5
    have f3_0 := HX2.free 0
    have f3_1 := HX2.free 1
    have f3_2 := HX2.free 2
    have f3_3 := HX2.free 3
    have f3_4 := HX2.free 4
    have f3_5 := HX2.free 5
    have l3_0 := HX1.bx.lt
    have l3_1 := HX2.bx.lt
    have n3_0_0 : ¬ (w.heap.size + 1) = w.heap.size := (by have := Zh.out; have := Z1.out; have := Z2.out; have := Z3.out; omega)
    have m3_0_0 : ¬ w.heap.size = (w.heap.size + 1) := (by have := Zh.out; have := Z1.out; have := Z2.out; have := Z3.out; omega)
    go_wp2
    clear c3_0 c3_1 c3_2 c3_3 c3_4 c3_5 c3_6 c3_7 f3_0 f3_1 f3_2 f3_3 f3_4 f3_5 l3_0 l3_1 n3_0_0 m3_0_0
    obtain ⟨U4, hU4⟩ : ∃ W : World, W = ((((((w3.setCell ⟨w.heap.size + 1, 0, none⟩ (.int .i64 4)).setCell ⟨w.heap.size + 1, 1, none⟩ (.int .i64 0)).setCell ⟨w.heap.size + 1, 2, none⟩ (.bool false)).setCell ⟨w.heap.size + 1, 3, none⟩ (.slice none 0 0)).setCell ⟨w.heap.size + 1, 4, none⟩ (.bool false)).setCell ⟨w.heap.size + 1, 5, none⟩ (.slice none 0 0)) := ⟨_, rfl⟩
    have ho : Only (w.heap.size + 1) (w.heap.size + 1 + 1) w3 U4 := by rw [hU4]; exact (((((((Only.refl _ _ _).set (p := ⟨w.heap.size + 1, 0, none⟩) (Nat.le_refl _) (Nat.lt_succ_self _) _).set (p := ⟨w.heap.size + 1, 1, none⟩) (Nat.le_refl _) (Nat.lt_succ_self _) _).set (p := ⟨w.heap.size + 1, 2, none⟩) (Nat.le_refl _) (Nat.lt_succ_self _) _).set (p := ⟨w.heap.size + 1, 3, none⟩) (Nat.le_refl _) (Nat.lt_succ_self _) _).set (p := ⟨w.heap.size + 1, 4, none⟩) (Nat.le_refl _) (Nat.lt_succ_self _) _).set (p := ⟨w.heap.size + 1, 5, none⟩) (Nat.le_refl _) (Nat.lt_succ_self _) _)
    replace HX2 : Kept (w.heap.size + 1) (w.heap.size + 1 + 1) (BoxK (w.heap.size + 1) 30 #[.int .i64 4, .int .i64 0, .bool false, .slice none 0 0, .bool false, .slice none 0 0]) U4 := by rw [hU4]; exact Kept.box ((((((HX2.bx.puts 0 (.int .i64 4) (cs' := #[.int .i64 4, .int .i64 0, .bool false, .slice none 0 0, .bool false, .slice none 0 0]) rfl).puts 1 (.int .i64 0) (cs' := #[.int .i64 4, .int .i64 0, .bool false, .slice none 0 0, .bool false, .slice none 0 0]) rfl).puts 2 (.bool false) (cs' := #[.int .i64 4, .int .i64 0, .bool false, .slice none 0 0, .bool false, .slice none 0 0]) rfl).puts 3 (.slice none 0 0) (cs' := #[.int .i64 4, .int .i64 0, .bool false, .slice none 0 0, .bool false, .slice none 0 0]) rfl).puts 4 (.bool false) (cs' := #[.int .i64 4, .int .i64 0, .bool false, .slice none 0 0, .bool false, .slice none 0 0]) rfl).puts 5 (.slice none 0 0) (cs' := #[.int .i64 4, .int .i64 0, .bool false, .slice none 0 0, .bool false, .slice none 0 0]) rfl)
    replace HA := HA.only ho (by have := Zh.out; have := Z1.out; have := Z2.out; have := Z3.out; omega)
    replace HX1 := HX1.only ho (by have := Zh.out; have := Z1.out; have := Z2.out; have := Z3.out; omega)
    replace HO := HO.only ho (by have := Zh.out; have := Z1.out; have := Z2.out; have := Z3.out; omega)
    replace HB := Lib.hid (Below.only HB.out ho (by have := Zh.out; have := Z1.out; have := Z2.out; have := Z3.out; omega) HB.out.size)
    have Z4 : Hid (U4.heap.size = w3.heap.size) := Lib.hid (by rw [hU4]; simp [World.setCell]); clear ho
    obtain ⟨U5, hU5⟩ : ∃ W : World, W = (U4.alloc (.cells #[.int .i64 cap, .bool false, .slice E n d] 26)) := ⟨_, rfl⟩
    have hb : Below U4.heap.size U4 U5 := by rw [hU5]; exact ((Below.refl _ _).alloc (Nat.le_refl _) _)
    have zz : Hid (U4.heap.size + 1 = U5.heap.size) := Lib.hid (by rw [hU5]; simp)
    have HX3 : Kept w3.heap.size (w3.heap.size + 1) (BoxK w3.heap.size 26 #[.int .i64 cap, .bool false, .slice E n d]) U5 := by rw [hU5]; exact Kept.box (Box.made_at _ _ _ (by rw [hU4]; simp [World.setCell]))
    replace HA := HA.below hb
    replace HX1 := HX1.below hb
    replace HX2 := HX2.below hb
    replace HO := HO.below hb
    replace HB := Lib.hid (below_step HB.out hb)
    clear hb
    have Z5 := zz; clear zz
    have q_0 := HX2.look 0
    have q_1 := HX2.look 1
    have q_2 := HX2.look 2
    have q_3 := HX2.look 3
    have q_4 := HX2.look 4
    have q_5 := HX2.look 5
    subst hU5 hU4
    exact bodyPost_ret (v := .agg #[.int .i64 4, .int .i64 0, .bool false, .slice none 0 0, .bool false, .slice none 0 0]) (by simp [results, Try.results24, go_sem, q_0, q_1, q_2, q_3, q_4, q_5]) rfl ⟨none, 0, 0, none, 0, 0, by rw [HV.out.1, HV.out.2.1, HV.out.2.2.1, HV.out.2.2.2.2.1], by rw [HV.out.2.2.2.1, HV.out.2.2.2.2.2]; exact QK.kept (QK.nil _ _ _ _ _) (Nat.le_refl _), HB.out⟩
  · have HB := Lib.hid (Below.refl w.heap.size w)
    have HA := Rep.Sl.kept ha hh
    have Zh := Lib.hid hh
    have hy : ¬ ys = [] := fun e => hn0 (by rw [← hl, e]; rfl)
    obtain ⟨b, o, a, rfl, hya, a0, a1, a2, a3⟩ := Rep.timer_at ha (show 0 < n by omega)
    have HT1 : Hid (ys.take 1 = [a]) := Lib.hid (by cases ys with
          | nil => simp at hya
          | cons y t => simp at hya; rw [hya]; rfl)
    have HR := Lib.hid h0
    have hq8 := qf_ok h0
    have hn8 : n ≤ 1000 := by have := hq8.2.2.1; omega
    have HV : Hid (ppC cap false ys = 0 ∧ ppX cap false ys = cap ∧ ppP ys = false ∧ ppU cap false ys = (ys.drop 1) ∧ ppT cap false ys = false ∧ ppZ cap false ys = (ys.take 1)) := Lib.hid (by refine ⟨?_, ?_, ?_, ?_, ?_, ?_⟩ <;> simp [ppC, ppX, ppP, ppU, ppT, ppZ, h0, hy])
    have hn1 : ((n : Int) == 0) = false := by rw [beq_eq_false_iff_ne]; omega
    have hpos : 1 ≤ n := by omega
    have hposz : (0 : Int) < n := by omega
    clear h0 hq8 hy hn0 hya a0 a1 a2 a3
    clear ha hl hh
    go_enter Try.func24, Try.ntmps24
    go_wp2_with fail
    refine Calls.name ?_
    intro U1 hU1
    have hb : Below w.heap.size w U1 := by rw [hU1]; exact (((Below.refl _ _).alloc (Nat.le_refl _) _).alloc (by simp <;> omega) _)
    have zz : Hid (w.heap.size + 2 = U1.heap.size) := Lib.hid (by rw [hU1]; simp)
    have HX1 : Kept w.heap.size (w.heap.size + 1) (BoxK w.heap.size 26 #[.int .i64 cap, .bool false, .slice (some ⟨b, o, none⟩) n c]) U1 := by rw [hU1]; exact Kept.box ((Box.made_at _ _ _ rfl).over _)
    have HX2 : Kept (w.heap.size + 1) (w.heap.size + 1 + 1) (BoxK (w.heap.size + 1) 30 #[.int .i64 0, .int .i64 0, .bool false, .slice none 0 0, .bool false, .slice none 0 0]) U1 := by rw [hU1]; exact Kept.box (Box.made_at _ _ _ (by simp <;> omega))
    replace HA := HA.below hb
    replace HB := Lib.hid (below_step HB.out hb)
    clear hb
    have Z1 := zz; clear zz
    clear hU1
    refine (specQueueFault_any cap false q lo hi _ n c ys _ HA.sl HA.le hn).mono ?_
    rw [HR.out]
    rintro e w2 ⟨rfl, hb⟩
    have Z2 := Lib.hid hb.size
    replace HA := HA.below hb
    replace HX1 := HX1.below hb
    replace HX2 := HX2.below hb
    replace HB := Lib.hid (below_step HB.out hb)
    clear hb
    have l2_0 := HX1.bx.lt
    have l2_1 := HX2.bx.lt
    go_wp2_with fail
    clear l2_0 l2_1
    refine (l6Copy_any cap false w.heap.size q lo hi _ n c ys _ HX1.bx HA.sl HA.le hn8).mono ?_
    rintro e w3 ⟨E, d, rfl, ho, hb⟩
    have Z3 := Lib.hid hb.size
    replace HA := HA.below hb
    replace HX1 := HX1.below hb
    replace HX2 := HX2.below hb
    replace HB := Lib.hid (below_step HB.out hb)
    clear hb
    have HO := ho; clear ho
    obtain ⟨ge, rfl, hg1, hg2⟩ := HO.ownF.form (by omega)
    have hnd : n ≤ d := by
          rcases HO.ownF.2.2 with ⟨h', _⟩ | ⟨g', cap', cur, h1, _, _, h4, _⟩
          · simp at h'
          · simp only [Value.slice.injEq] at h1; omega
    have Zge := Lib.hid (And.intro hg1 hg2); clear hg1 hg2
    have hd1 : (1 : Int) ≤ d := by omega
    by_cases hd : d = 1
    · have hnn : n = 1 := by omega
      subst hnn
      subst hd
      clear hnd hd1 hn1 hpos hposz hn hn8
      have c3_0 := HX1.look 1
      have c3_1 := HX1.look 2
      have l3_0 := HX1.bx.lt
      have l3_1 := HX2.bx.lt
      go_wp2_with fail
      clear c3_0 c3_1 l3_0 l3_1
      refine Code.wp_name ?_
      intro U4 hU4
      have hb : Below w3.heap.size w3 U4 := by rw [hU4]; exact ((Below.refl _ _).alloc (Nat.le_refl _) _)
      have zz : Hid (w3.heap.size + 1 = U4.heap.size) := Lib.hid (by rw [hU4]; simp)
      have HX3 : Kept w3.heap.size (w3.heap.size + 1) (BoxK w3.heap.size 26 #[.int .i64 cap, .bool false, .slice (some ⟨ge, 0, none⟩) 0 0]) U4 := by rw [hU4]; exact Kept.box (Box.made_at _ _ _ rfl)
      replace HA := HA.below hb
      replace HX1 := HX1.below hb
      replace HX2 := HX2.below hb
      replace HO := HO.below hb
      replace HB := Lib.hid (below_step HB.out hb)
      clear hb
      have Z4 := zz; clear zz
      clear hU4
      obtain ⟨b', o', a', e', hya', a0, a1, a2, a3⟩ := Rep.timer_at HA.sl (show 0 < 1 by omega)
      injection e' with e'; injection e' with e1 e2 _; subst e1 e2
      have HT2 : Hid (ys.take 1 = [a']) := Lib.hid (by cases ys with
              | nil => simp at hya'
              | cons y t => simp at hya'; rw [hya']; rfl)
      simp only [Nat.zero_mul, Nat.add_zero] at a0 a1 a2 a3
      clear hya'
      have hbl := World.block_lt_of_cell? _ _ a0
      have t0 := HX3.look 0
      have t1 := HX3.look 1
      have t2 := HX3.look 2
      have s2 := HX1.look 2
      have r0 := HX2.look 0
      have f0 := HX2.free 0
      have r1 := HX2.look 1
      have f1 := HX2.free 1
      have r2 := HX2.look 2
      have f2 := HX2.free 2
      have r3 := HX2.look 3
      have f3 := HX2.free 3
      have r4 := HX2.look 4
      have f4 := HX2.free 4
      have r5 := HX2.look 5
      have f5 := HX2.free 5
      have lHX3 := HX3.bx.lt
      have lHX2 := HX2.bx.lt
      have lHX1 := HX1.bx.lt
      go_region_law (fail)
      all_goals
        clear t0 t1 t2 s2 r0 f0 r1 f1 r2 f2 r3 f3 r4 f4 r5 f5 a0 a1 a2 a3 hbl
        clear lHX3
        clear lHX2
        clear lHX1
        have l4_0 := HX1.bx.lt
        have l4_1 := HX2.bx.lt
        have l4_2 := HX3.bx.lt
        go_wp2
        clear l4_0 l4_1 l4_2
        obtain ⟨U5, hU5⟩ : ∃ W : World, W = ((((((U4.setCell ⟨w.heap.size + 1, 0, none⟩ (.int .i64 0)).setCell ⟨w.heap.size + 1, 1, none⟩ (.int .i64 cap)).setCell ⟨w.heap.size + 1, 2, none⟩ (.bool false)).setCell ⟨w.heap.size + 1, 3, none⟩ (.slice (some ⟨ge, 0, none⟩) 0 0)).setCell ⟨w.heap.size + 1, 4, none⟩ (.bool false)).setCell ⟨w.heap.size + 1, 5, none⟩ (.slice (some ⟨U4.heap.size, 0, none⟩) 1 1)) := ⟨_, rfl⟩
        have ho : Only (w.heap.size + 1) (w.heap.size + 1 + 1) U4 U5 := by rw [hU5]; exact (((((((Only.refl _ _ _).set (p := ⟨w.heap.size + 1, 0, none⟩) (Nat.le_refl _) (Nat.lt_succ_self _) _).set (p := ⟨w.heap.size + 1, 1, none⟩) (Nat.le_refl _) (Nat.lt_succ_self _) _).set (p := ⟨w.heap.size + 1, 2, none⟩) (Nat.le_refl _) (Nat.lt_succ_self _) _).set (p := ⟨w.heap.size + 1, 3, none⟩) (Nat.le_refl _) (Nat.lt_succ_self _) _).set (p := ⟨w.heap.size + 1, 4, none⟩) (Nat.le_refl _) (Nat.lt_succ_self _) _).set (p := ⟨w.heap.size + 1, 5, none⟩) (Nat.le_refl _) (Nat.lt_succ_self _) _)
        replace HX2 : Kept (w.heap.size + 1) (w.heap.size + 1 + 1) (BoxK (w.heap.size + 1) 30 #[.int .i64 0, .int .i64 cap, .bool false, .slice (some ⟨ge, 0, none⟩) 0 0, .bool false, .slice (some ⟨U4.heap.size, 0, none⟩) 1 1]) U5 := by rw [hU5]; exact Kept.box ((((((HX2.bx.puts 0 (.int .i64 0) (cs' := #[.int .i64 0, .int .i64 0, .bool false, .slice none 0 0, .bool false, .slice none 0 0]) rfl).puts 1 (.int .i64 cap) (cs' := #[.int .i64 0, .int .i64 cap, .bool false, .slice none 0 0, .bool false, .slice none 0 0]) rfl).puts 2 (.bool false) (cs' := #[.int .i64 0, .int .i64 cap, .bool false, .slice none 0 0, .bool false, .slice none 0 0]) rfl).puts 3 (.slice (some ⟨ge, 0, none⟩) 0 0) (cs' := #[.int .i64 0, .int .i64 cap, .bool false, .slice (some ⟨ge, 0, none⟩) 0 0, .bool false, .slice none 0 0]) rfl).puts 4 (.bool false) (cs' := #[.int .i64 0, .int .i64 cap, .bool false, .slice (some ⟨ge, 0, none⟩) 0 0, .bool false, .slice none 0 0]) rfl).puts 5 (.slice (some ⟨U4.heap.size, 0, none⟩) 1 1) (cs' := #[.int .i64 0, .int .i64 cap, .bool false, .slice (some ⟨ge, 0, none⟩) 0 0, .bool false, .slice (some ⟨U4.heap.size, 0, none⟩) 1 1]) rfl)
        replace HA := HA.only ho (by have := Zh.out; have := Z1.out; have := Z2.out; have := Z3.out; have := Zge.out; have := Z4.out; omega)
        replace HX1 := HX1.only ho (by have := Zh.out; have := Z1.out; have := Z2.out; have := Z3.out; have := Zge.out; have := Z4.out; omega)
        replace HO := HO.only ho (by have := Zh.out; have := Z1.out; have := Z2.out; have := Z3.out; have := Zge.out; have := Z4.out; omega)
        replace HX3 := HX3.only ho (by have := Zh.out; have := Z1.out; have := Z2.out; have := Z3.out; have := Zge.out; have := Z4.out; omega)
        replace HB := Lib.hid (Below.only HB.out ho (by have := Zh.out; have := Z1.out; have := Z2.out; have := Z3.out; have := Zge.out; have := Z4.out; omega) HB.out.size)
        have Z5 : Hid (U5.heap.size = U4.heap.size) := Lib.hid (by rw [hU5]; simp [World.setCell]); clear ho
        obtain ⟨U6, hU6⟩ : ∃ W : World, W = (U5.alloc (.cells #[.int .i64 a'.typ, .int .i64 a'.id, .int .i64 a'.adv, .int .i64 a'.due] 35)).drew := ⟨_, rfl⟩
        have hb : Below U5.heap.size U5 U6 := by rw [hU6]; exact ((Below.refl _ _).alloc (Nat.le_refl _) _).drew
        have zz : Hid (U5.heap.size + 1 = U6.heap.size) := Lib.hid (by rw [hU6]; simp)
        have HX4 : Kept U4.heap.size (U4.heap.size + 1) (BoxK U4.heap.size 35 #[.int .i64 a'.typ, .int .i64 a'.id, .int .i64 a'.adv, .int .i64 a'.due]) U6 := by rw [hU6]; exact Kept.box (show Box _ _ _ _ from (Box.made_at _ _ _ (by rw [hU5]; simp [World.setCell])))
        replace HA := HA.below hb
        replace HX1 := HX1.below hb
        replace HX2 := HX2.below hb
        replace HO := HO.below hb
        replace HX3 := HX3.below hb
        replace HB := Lib.hid (below_step HB.out hb)
        clear hb
        have Z6 := zz; clear zz
        have q_0 := HX2.look 0
        have q_1 := HX2.look 1
        have q_2 := HX2.look 2
        have q_3 := HX2.look 3
        have q_4 := HX2.look 4
        have q_5 := HX2.look 5
        subst hU6 hU5
        exact bodyPost_ret (v := .agg #[.int .i64 0, .int .i64 cap, .bool false, .slice (some ⟨ge, 0, none⟩) 0 0, .bool false, .slice (some ⟨U4.heap.size, 0, none⟩) 1 1]) (by simp [results, Try.results24, go_sem, q_0, q_1, q_2, q_3, q_4, q_5]) rfl ⟨_, _, _, _, _, ⟨_, by rw [HV.out.1, HV.out.2.1, HV.out.2.2.1, HV.out.2.2.2.2.1]⟩, by rw [HV.out.2.2.2.1, HV.out.2.2.2.2.2, HT2.out]; exact QK.kept (by obtain ⟨bs, f1, f2, f3⟩ := items_end HO.ownF; exact QK.from_box f1 f2 (fun x hx => by have := f3 x hx; have := Zh.out; have := Z1.out; have := Z2.out; have := Z3.out; have := Zge.out; have := Z4.out; have := Z5.out; have := Z6.out; omega) (Nat.le_refl _) HX4.bx (by have := Zh.out; have := Z1.out; have := Z2.out; have := Z3.out; have := Zge.out; have := Z4.out; have := Z5.out; have := Z6.out; omega) (fun x hx => by have := f3 x hx; have := Zh.out; have := Z1.out; have := Z2.out; have := Z3.out; have := Zge.out; have := Z4.out; have := Z5.out; have := Z6.out; omega)) (Nat.le_refl _), HB.out⟩
    · have hd2 : ¬ 1 = d := fun e => hd e.symm
      have hpn : 0 < n := by omega
      have c3_0 := HX1.look 1
      have c3_1 := HX1.look 2
      have l3_0 := HX1.bx.lt
      have l3_1 := HX2.bx.lt
      go_wp2_with fail
      clear c3_0 c3_1 l3_0 l3_1
      refine Code.wp_name ?_
      intro U4 hU4
      have hb : Below w3.heap.size w3 U4 := by rw [hU4]; exact ((Below.refl _ _).alloc (Nat.le_refl _) _)
      have zz : Hid (w3.heap.size + 1 = U4.heap.size) := Lib.hid (by rw [hU4]; simp)
      have HX3 : Kept w3.heap.size (w3.heap.size + 1) (BoxK w3.heap.size 26 #[.int .i64 cap, .bool false, .slice (some ⟨ge, 4, none⟩) (n - 1) (d - 1)]) U4 := by rw [hU4]; exact Kept.box (Box.made_at _ _ _ rfl)
      replace HA := HA.below hb
      replace HX1 := HX1.below hb
      replace HX2 := HX2.below hb
      replace HO := HO.below hb
      replace HB := Lib.hid (below_step HB.out hb)
      clear hb
      have Z4 := zz; clear zz
      clear hU4
      obtain ⟨b', o', a', e', hya', a0, a1, a2, a3⟩ := Rep.timer_at HA.sl (show 0 < n by omega)
      injection e' with e'; injection e' with e1 e2 _; subst e1 e2
      have HT2 : Hid (ys.take 1 = [a']) := Lib.hid (by cases ys with
              | nil => simp at hya'
              | cons y t => simp at hya'; rw [hya']; rfl)
      simp only [Nat.zero_mul, Nat.add_zero] at a0 a1 a2 a3
      clear hya'
      have hbl := World.block_lt_of_cell? _ _ a0
      have t0 := HX3.look 0
      have t1 := HX3.look 1
      have t2 := HX3.look 2
      have s2 := HX1.look 2
      have r0 := HX2.look 0
      have f0 := HX2.free 0
      have r1 := HX2.look 1
      have f1 := HX2.free 1
      have r2 := HX2.look 2
      have f2 := HX2.free 2
      have r3 := HX2.look 3
      have f3 := HX2.free 3
      have r4 := HX2.look 4
      have f4 := HX2.free 4
      have r5 := HX2.look 5
      have f5 := HX2.free 5
      have lHX3 := HX3.bx.lt
      have lHX2 := HX2.bx.lt
      have lHX1 := HX1.bx.lt
      go_region_law (fail)
      all_goals
        clear t0 t1 t2 s2 r0 f0 r1 f1 r2 f2 r3 f3 r4 f4 r5 f5 a0 a1 a2 a3 hbl
        clear lHX3
        clear lHX2
        clear lHX1
        have l4_0 := HX1.bx.lt
        have l4_1 := HX2.bx.lt
        have l4_2 := HX3.bx.lt
        go_wp2
        clear l4_0 l4_1 l4_2
        obtain ⟨U5, hU5⟩ : ∃ W : World, W = ((((((U4.setCell ⟨w.heap.size + 1, 0, none⟩ (.int .i64 0)).setCell ⟨w.heap.size + 1, 1, none⟩ (.int .i64 cap)).setCell ⟨w.heap.size + 1, 2, none⟩ (.bool false)).setCell ⟨w.heap.size + 1, 3, none⟩ (.slice (some ⟨ge, 4, none⟩) (n - 1) (d - 1))).setCell ⟨w.heap.size + 1, 4, none⟩ (.bool false)).setCell ⟨w.heap.size + 1, 5, none⟩ (.slice (some ⟨U4.heap.size, 0, none⟩) 1 1)) := ⟨_, rfl⟩
        have ho : Only (w.heap.size + 1) (w.heap.size + 1 + 1) U4 U5 := by rw [hU5]; exact (((((((Only.refl _ _ _).set (p := ⟨w.heap.size + 1, 0, none⟩) (Nat.le_refl _) (Nat.lt_succ_self _) _).set (p := ⟨w.heap.size + 1, 1, none⟩) (Nat.le_refl _) (Nat.lt_succ_self _) _).set (p := ⟨w.heap.size + 1, 2, none⟩) (Nat.le_refl _) (Nat.lt_succ_self _) _).set (p := ⟨w.heap.size + 1, 3, none⟩) (Nat.le_refl _) (Nat.lt_succ_self _) _).set (p := ⟨w.heap.size + 1, 4, none⟩) (Nat.le_refl _) (Nat.lt_succ_self _) _).set (p := ⟨w.heap.size + 1, 5, none⟩) (Nat.le_refl _) (Nat.lt_succ_self _) _)
        replace HX2 : Kept (w.heap.size + 1) (w.heap.size + 1 + 1) (BoxK (w.heap.size + 1) 30 #[.int .i64 0, .int .i64 cap, .bool false, .slice (some ⟨ge, 4, none⟩) (n - 1) (d - 1), .bool false, .slice (some ⟨U4.heap.size, 0, none⟩) 1 1]) U5 := by rw [hU5]; exact Kept.box ((((((HX2.bx.puts 0 (.int .i64 0) (cs' := #[.int .i64 0, .int .i64 0, .bool false, .slice none 0 0, .bool false, .slice none 0 0]) rfl).puts 1 (.int .i64 cap) (cs' := #[.int .i64 0, .int .i64 cap, .bool false, .slice none 0 0, .bool false, .slice none 0 0]) rfl).puts 2 (.bool false) (cs' := #[.int .i64 0, .int .i64 cap, .bool false, .slice none 0 0, .bool false, .slice none 0 0]) rfl).puts 3 (.slice (some ⟨ge, 4, none⟩) (n - 1) (d - 1)) (cs' := #[.int .i64 0, .int .i64 cap, .bool false, .slice (some ⟨ge, 4, none⟩) (n - 1) (d - 1), .bool false, .slice none 0 0]) rfl).puts 4 (.bool false) (cs' := #[.int .i64 0, .int .i64 cap, .bool false, .slice (some ⟨ge, 4, none⟩) (n - 1) (d - 1), .bool false, .slice none 0 0]) rfl).puts 5 (.slice (some ⟨U4.heap.size, 0, none⟩) 1 1) (cs' := #[.int .i64 0, .int .i64 cap, .bool false, .slice (some ⟨ge, 4, none⟩) (n - 1) (d - 1), .bool false, .slice (some ⟨U4.heap.size, 0, none⟩) 1 1]) rfl)
        replace HA := HA.only ho (by have := Zh.out; have := Z1.out; have := Z2.out; have := Z3.out; have := Zge.out; have := Z4.out; omega)
        replace HX1 := HX1.only ho (by have := Zh.out; have := Z1.out; have := Z2.out; have := Z3.out; have := Zge.out; have := Z4.out; omega)
        replace HO := HO.only ho (by have := Zh.out; have := Z1.out; have := Z2.out; have := Z3.out; have := Zge.out; have := Z4.out; omega)
        replace HX3 := HX3.only ho (by have := Zh.out; have := Z1.out; have := Z2.out; have := Z3.out; have := Zge.out; have := Z4.out; omega)
        replace HB := Lib.hid (Below.only HB.out ho (by have := Zh.out; have := Z1.out; have := Z2.out; have := Z3.out; have := Zge.out; have := Z4.out; omega) HB.out.size)
        have Z5 : Hid (U5.heap.size = U4.heap.size) := Lib.hid (by rw [hU5]; simp [World.setCell]); clear ho
        obtain ⟨U6, hU6⟩ : ∃ W : World, W = (U5.alloc (.cells #[.int .i64 a'.typ, .int .i64 a'.id, .int .i64 a'.adv, .int .i64 a'.due] 35)).drew := ⟨_, rfl⟩
        have hb : Below U5.heap.size U5 U6 := by rw [hU6]; exact ((Below.refl _ _).alloc (Nat.le_refl _) _).drew
        have zz : Hid (U5.heap.size + 1 = U6.heap.size) := Lib.hid (by rw [hU6]; simp)
        have HX4 : Kept U4.heap.size (U4.heap.size + 1) (BoxK U4.heap.size 35 #[.int .i64 a'.typ, .int .i64 a'.id, .int .i64 a'.adv, .int .i64 a'.due]) U6 := by rw [hU6]; exact Kept.box (show Box _ _ _ _ from (Box.made_at _ _ _ (by rw [hU5]; simp [World.setCell])))
        replace HA := HA.below hb
        replace HX1 := HX1.below hb
        replace HX2 := HX2.below hb
        replace HO := HO.below hb
        replace HX3 := HX3.below hb
        replace HB := Lib.hid (below_step HB.out hb)
        clear hb
        have Z6 := zz; clear zz
        have q_0 := HX2.look 0
        have q_1 := HX2.look 1
        have q_2 := HX2.look 2
        have q_3 := HX2.look 3
        have q_4 := HX2.look 4
        have q_5 := HX2.look 5
        subst hU6 hU5
        exact bodyPost_ret (v := .agg #[.int .i64 0, .int .i64 cap, .bool false, .slice (some ⟨ge, 4, none⟩) (n - 1) (d - 1), .bool false, .slice (some ⟨U4.heap.size, 0, none⟩) 1 1]) (by simp [results, Try.results24, go_sem, q_0, q_1, q_2, q_3, q_4, q_5]) rfl ⟨_, _, _, _, _, ⟨_, by rw [HV.out.1, HV.out.2.1, HV.out.2.2.1, HV.out.2.2.2.2.1]⟩, by rw [HV.out.2.2.2.1, HV.out.2.2.2.2.2, HT2.out]; exact QK.kept (by obtain ⟨bs, f1, f2, f3⟩ := items_from HO.ownF 1; exact QK.from_box f1 f2 (fun x hx => by have := f3 x hx; have := Zh.out; have := Z1.out; have := Z2.out; have := Z3.out; have := Zge.out; have := Z4.out; have := Z5.out; have := Z6.out; omega) (Nat.le_refl _) HX4.bx (by have := Zh.out; have := Z1.out; have := Z2.out; have := Z3.out; have := Zge.out; have := Z4.out; have := Z5.out; have := Z6.out; omega) (fun x hx => by have := f3 x hx; have := Zh.out; have := Z1.out; have := Z2.out; have := Z3.out; have := Zge.out; have := Z4.out; have := Z5.out; have := Z6.out; omega)) (Nat.le_refl _), HB.out⟩

end Go.Proofs.Ytomkgohhfllpgaa
