/-
  What queues answer. No statement is proved here.
-/
import Derived.Test.YtiffhjofabaflaaQPop
import Derived.Test.YtiffhjofabaflaaMQA
import Derived.Test.YtiffhjofabaflaaQueueLaws
import Derived.Test.YtiffhjofabaflaaSum
import Derived.Test.YtiffhjofabaflaaTimerSS
import Derived.Test.YtiffhjofabaflaaSame
import Derived.Test.YtiffhjofabaflaaDraw
namespace Go.Proofs.Ytiffhjofabaflaa
open Go.RowKit
set_option linter.unusedVariables false

theorem OwnF.room {α : Type} {t : TypeId} {size : Nat} {f : α → List Value} {w : World} {B : Nat} {A : Option Addr} {n c : Nat} {ys : List α} (h : OwnF t size f w B A n c ys) : n ≤ c := by
  rcases h.2.2 with ⟨h', rfl⟩ | ⟨g', cap, cur, h1, _, _, h4, _⟩
  · exact Nat.zero_le _
  · simp only [Value.slice.injEq] at h1; omega

set_option maxRecDepth 100000 in
set_option maxHeartbeats 3200000 in
theorem popItemR_any (cap : Int) (mk : Bool) (q : Bool) (lo hi : Nat) (A : Option Addr) (n c : Nat) (ys : List Tmr) (w : World) (ha : Rep.timer.Sl q lo hi w A n ys) (hh : hi ≤ w.heap.size) (hn : n ≤ 1048576) (hc : n ≤ c) :
    Calls Try.prog 45 #[.agg #[.int .i64 cap, .bool mk, .slice A n c]] w fun e w' => ∃ O j k E m d, e = .returned (.agg #[.int .i64 (ppC cap mk ys), .int .i64 (ppX cap mk ys), .bool (ppP ys), .slice O j k, .bool (ppT cap mk ys), .slice E m d]) ∧ Kept w.heap.size w'.heap.size (QK w.heap.size w'.heap.size O j (ppU cap mk ys) E m (ppZ cap mk ys)) w' ∧ Below w.heap.size w w' ∧ j ≤ k := by
  have hl := ha.1
  by_cases h0 : ¬ qf cap ys = 0
  · have HB := Lib.hid (Below.refl w.heap.size w)
    have HA := Rep.Sl.kept ha hh
    have Zh := Lib.hid hh
    obtain ⟨r, hr⟩ : ∃ z, qf cap ys = z := ⟨_, rfl⟩
    have HR := Lib.hid hr
    have h0r : ¬ r = 0 := by rw [← hr]; exact h0
    have hr0 : (r != 0) = true := by simpa using h0r
    have HV : Hid (ppC cap mk ys = r ∧ ppX cap mk ys = 0 ∧ ppP ys = false ∧ ppU cap mk ys = [] ∧ ppT cap mk ys = false ∧ ppZ cap mk ys = []) := Lib.hid (by refine ⟨?_, ?_, ?_, ?_, ?_, ?_⟩ <;> simp [ppC, ppP, ppT, ppU, ppX, ppZ, hr, h0r])
    clear h0 hr h0r
    clear ha hl hh
    go_enter Try.func45, Try.ntmps45
    go_wp2_with fail
    refine Calls.name ?_
    intro U1 hU1
    have hb : Below w.heap.size w U1 := by rw [hU1]; exact (((Below.refl _ _).alloc (Nat.le_refl _) _).alloc (by simp <;> omega) _)
    have zz : Hid (w.heap.size + 2 = U1.heap.size) := Lib.hid (by rw [hU1]; simp)
    have HX1 : Kept w.heap.size (w.heap.size + 1) (BoxK w.heap.size 59 #[.int .i64 cap, .bool mk, .slice A n c]) U1 := by rw [hU1]; exact Kept.box ((Box.made_at _ _ _ rfl).over _)
    have HX2 : Kept (w.heap.size + 1) (w.heap.size + 1 + 1) (BoxK (w.heap.size + 1) 63 #[.int .i64 0, .int .i64 0, .bool false, .slice none 0 0, .bool false, .slice none 0 0]) U1 := by rw [hU1]; exact Kept.box (Box.made_at _ _ _ (by simp <;> omega))
    replace HA := HA.below hb
    replace HB := Lib.hid (below_step HB.out hb)
    clear hb
    have Z1 := zz; clear zz
    clear hU1
    refine (queueFault_any cap mk q lo hi A n c ys _ HA.sl HA.le hn hc).mono ?_
    rw [HR.out]
    rintro e w2 ⟨rfl, hb⟩
    have Z2 := Lib.hid hb.size
    replace HA := HA.below hb
    replace HX1 := HX1.below hb
    replace HX2 := HX2.below hb
    replace HB := Lib.hid (below_step HB.out hb)
    clear hb
    have c2_0 := HX2.look 0
    have c2_1 := HX2.look 1
    have c2_2 := HX2.look 2
    have c2_3 := HX2.look 3
    have c2_4 := HX2.look 4
    have c2_5 := HX2.look 5
    have f2_0 := HX2.free 0
    have f2_1 := HX2.free 1
    have f2_2 := HX2.free 2
    have f2_3 := HX2.free 3
    have f2_4 := HX2.free 4
    have f2_5 := HX2.free 5
    have l2_0 := HX1.bx.lt
    have l2_1 := HX2.bx.lt
    go_wp2
    clear c2_0 c2_1 c2_2 c2_3 c2_4 c2_5 f2_0 f2_1 f2_2 f2_3 f2_4 f2_5 l2_0 l2_1
    obtain ⟨U3, hU3⟩ : ∃ W : World, W = ((((((w2.setCell ⟨w.heap.size + 1, 0, none⟩ (.int .i64 r)).setCell ⟨w.heap.size + 1, 1, none⟩ (.int .i64 0)).setCell ⟨w.heap.size + 1, 2, none⟩ (.bool false)).setCell ⟨w.heap.size + 1, 3, none⟩ (.slice none 0 0)).setCell ⟨w.heap.size + 1, 4, none⟩ (.bool false)).setCell ⟨w.heap.size + 1, 5, none⟩ (.slice none 0 0)) := ⟨_, rfl⟩
    have ho : Only (w.heap.size + 1) (w.heap.size + 1 + 1) w2 U3 := by rw [hU3]; exact (((((((Only.refl _ _ _).set (p := ⟨w.heap.size + 1, 0, none⟩) (Nat.le_refl _) (Nat.lt_succ_self _) _).set (p := ⟨w.heap.size + 1, 1, none⟩) (Nat.le_refl _) (Nat.lt_succ_self _) _).set (p := ⟨w.heap.size + 1, 2, none⟩) (Nat.le_refl _) (Nat.lt_succ_self _) _).set (p := ⟨w.heap.size + 1, 3, none⟩) (Nat.le_refl _) (Nat.lt_succ_self _) _).set (p := ⟨w.heap.size + 1, 4, none⟩) (Nat.le_refl _) (Nat.lt_succ_self _) _).set (p := ⟨w.heap.size + 1, 5, none⟩) (Nat.le_refl _) (Nat.lt_succ_self _) _)
    replace HX2 : Kept (w.heap.size + 1) (w.heap.size + 1 + 1) (BoxK (w.heap.size + 1) 63 #[.int .i64 r, .int .i64 0, .bool false, .slice none 0 0, .bool false, .slice none 0 0]) U3 := by rw [hU3]; exact Kept.box ((((((HX2.bx.puts 0 (.int .i64 r) (cs' := #[.int .i64 r, .int .i64 0, .bool false, .slice none 0 0, .bool false, .slice none 0 0]) rfl).puts 1 (.int .i64 0) (cs' := #[.int .i64 r, .int .i64 0, .bool false, .slice none 0 0, .bool false, .slice none 0 0]) rfl).puts 2 (.bool false) (cs' := #[.int .i64 r, .int .i64 0, .bool false, .slice none 0 0, .bool false, .slice none 0 0]) rfl).puts 3 (.slice none 0 0) (cs' := #[.int .i64 r, .int .i64 0, .bool false, .slice none 0 0, .bool false, .slice none 0 0]) rfl).puts 4 (.bool false) (cs' := #[.int .i64 r, .int .i64 0, .bool false, .slice none 0 0, .bool false, .slice none 0 0]) rfl).puts 5 (.slice none 0 0) (cs' := #[.int .i64 r, .int .i64 0, .bool false, .slice none 0 0, .bool false, .slice none 0 0]) rfl)
    replace HA := HA.only ho (by have := Zh.out; have := Z1.out; have := Z2.out; omega)
    replace HX1 := HX1.only ho (by have := Zh.out; have := Z1.out; have := Z2.out; omega)
    replace HB := Lib.hid (Below.only HB.out ho (by have := Zh.out; have := Z1.out; have := Z2.out; omega) HB.out.size)
    have Z3 : Hid (U3.heap.size = w2.heap.size) := Lib.hid (by rw [hU3]; simp [World.setCell]); clear ho
    have q_0 := HX2.look 0
    have q_1 := HX2.look 1
    have q_2 := HX2.look 2
    have q_3 := HX2.look 3
    have q_4 := HX2.look 4
    have q_5 := HX2.look 5
    subst hU3
    exact bodyPost_ret (v := .agg #[.int .i64 r, .int .i64 0, .bool false, .slice none 0 0, .bool false, .slice none 0 0]) (by simp [results, Try.results45, go_sem, q_0, q_1, q_2, q_3, q_4, q_5]) rfl ⟨none, 0, 0, none, 0, 0, by rw [HV.out.1, HV.out.2.1, HV.out.2.2.1, HV.out.2.2.2.2.1], by rw [HV.out.2.2.2.1, HV.out.2.2.2.2.2]; exact QK.kept (QK.nil _ _ _ _ _) (Nat.le_refl _), HB.out, Nat.le_refl _⟩
  have h0 : qf cap ys = 0 := Classical.byContradiction h0
  cases mk with
  | true =>
    have HB := Lib.hid (Below.refl w.heap.size w)
    have HA := Rep.Sl.kept ha hh
    have Zh := Lib.hid hh
    have HR := Lib.hid h0
    have hq8 := qf_ok h0
    have hn8 : n ≤ 1000 := by have := hq8.2.2.1; omega
    have HV : Hid (ppC cap true ys = 0 ∧ ppX cap true ys = cap ∧ ppP ys = false ∧ ppU cap true ys = ys ∧ ppT cap true ys = true ∧ ppZ cap true ys = []) := Lib.hid (by refine ⟨?_, ?_, ?_, ?_, ?_, ?_⟩ <;> simp [ppC, ppX, ppP, ppU, ppT, ppZ, h0])
    clear h0 hq8
    clear ha hl hh
    go_enter Try.func45, Try.ntmps45
    go_wp2_with fail
    refine Calls.name ?_
    intro U1 hU1
    have hb : Below w.heap.size w U1 := by rw [hU1]; exact (((Below.refl _ _).alloc (Nat.le_refl _) _).alloc (by simp <;> omega) _)
    have zz : Hid (w.heap.size + 2 = U1.heap.size) := Lib.hid (by rw [hU1]; simp)
    have HX1 : Kept w.heap.size (w.heap.size + 1) (BoxK w.heap.size 59 #[.int .i64 cap, .bool true, .slice A n c]) U1 := by rw [hU1]; exact Kept.box ((Box.made_at _ _ _ rfl).over _)
    have HX2 : Kept (w.heap.size + 1) (w.heap.size + 1 + 1) (BoxK (w.heap.size + 1) 63 #[.int .i64 0, .int .i64 0, .bool false, .slice none 0 0, .bool false, .slice none 0 0]) U1 := by rw [hU1]; exact Kept.box (Box.made_at _ _ _ (by simp <;> omega))
    replace HA := HA.below hb
    replace HB := Lib.hid (below_step HB.out hb)
    clear hb
    have Z1 := zz; clear zz
    clear hU1
    refine (queueFault_any cap true q lo hi A n c ys _ HA.sl HA.le hn hc).mono ?_
    rw [HR.out]
    rintro e w2 ⟨rfl, hb⟩
    have Z2 := Lib.hid hb.size
    replace HA := HA.below hb
    replace HX1 := HX1.below hb
    replace HX2 := HX2.below hb
    replace HB := Lib.hid (below_step HB.out hb)
    clear hb
    have c2_0 := HX1.look 0
    have c2_1 := HX1.look 1
    have c2_2 := HX1.look 2
    have l2_0 := HX1.bx.lt
    have l2_1 := HX2.bx.lt
    go_wp2_with fail
    clear c2_0 c2_1 c2_2 l2_0 l2_1
    refine (backlogOf_any cap true q lo hi A n c ys _ HA.sl HA.le hn8).mono ?_
    rintro e w3 ⟨g, E0, d0, rfl, hg, ho, hle, hb⟩
    have Z3 := Lib.hid hb.size
    replace HA := HA.below hb
    replace HX1 := HX1.below hb
    replace HX2 := HX2.below hb
    replace HB := Lib.hid (below_step HB.out hb)
    clear hb
    have HG := hg; have HO := ho; have Zg := Lib.hid hle; clear hg ho hle
    have Zg2 := Lib.hid HG.le
    have l3_0 := HX1.bx.lt
    have l3_1 := HX2.bx.lt
    have l3_2 := HG.bx.lt
    go_wp2_with fail
    clear l3_0 l3_1 l3_2
    refine (takeMark_any cap true g E0 n d0 _ HG.bx).mono ?_
    rintro e w4 ⟨rfl, hx, ho⟩
    have Z4 := Lib.hid ho.size
    replace HA := HA.only ho (by have := Zh.out; have := Z1.out; have := Z2.out; have := Z3.out; have := Zg.out; have := Zg2.out; have := Z4.out; omega)
    replace HX1 := HX1.only ho (by have := Zh.out; have := Z1.out; have := Z2.out; have := Z3.out; have := Zg.out; have := Zg2.out; have := Z4.out; omega)
    replace HX2 := HX2.only ho (by have := Zh.out; have := Z1.out; have := Z2.out; have := Z3.out; have := Zg.out; have := Zg2.out; have := Z4.out; omega)
    replace HO := HO.only ho (by have := Zh.out; have := Z1.out; have := Z2.out; have := Z3.out; have := Zg.out; have := Zg2.out; have := Z4.out; omega)
    replace HB := Lib.hid (Below.only HB.out ho (by have := Zh.out; have := Z1.out; have := Z2.out; have := Z3.out; have := Zg.out; have := Zg2.out; have := Z4.out; omega) HB.out.size)
    clear ho
    replace HG := Kept.box hx; clear hx
    have l4_0 := HX1.bx.lt
    have l4_1 := HX2.bx.lt
    have l4_2 := HG.bx.lt
    go_wp2_with fail
    clear l4_0 l4_1 l4_2
    refine (queueOf_any cap false g E0 n d0 _ HG.bx).mono ?_
    rintro e w5 ⟨rfl, hb⟩
    have Z5 := Lib.hid hb.size
    replace HA := HA.below hb
    replace HX1 := HX1.below hb
    replace HX2 := HX2.below hb
    replace HG := HG.below hb
    replace HO := HO.below hb
    replace HB := Lib.hid (below_step HB.out hb)
    clear hb
    have c5_0 := HX2.look 0
    have c5_1 := HX2.look 1
    have c5_2 := HX2.look 2
    have c5_3 := HX2.look 3
    have c5_4 := HX2.look 4
    have c5_5 := HX2.look 5
    have f5_0 := HX2.free 0
    have f5_1 := HX2.free 1
    have f5_2 := HX2.free 2
    have f5_3 := HX2.free 3
    have f5_4 := HX2.free 4
    have f5_5 := HX2.free 5
    have l5_0 := HX1.bx.lt
    have l5_1 := HX2.bx.lt
    have l5_2 := HG.bx.lt
    go_wp2
    clear c5_0 c5_1 c5_2 c5_3 c5_4 c5_5 f5_0 f5_1 f5_2 f5_3 f5_4 f5_5 l5_0 l5_1 l5_2
    obtain ⟨U6, hU6⟩ : ∃ W : World, W = ((((((w5.setCell ⟨w.heap.size + 1, 0, none⟩ (.int .i64 0)).setCell ⟨w.heap.size + 1, 1, none⟩ (.int .i64 cap)).setCell ⟨w.heap.size + 1, 2, none⟩ (.bool false)).setCell ⟨w.heap.size + 1, 3, none⟩ (.slice E0 n d0)).setCell ⟨w.heap.size + 1, 4, none⟩ (.bool true)).setCell ⟨w.heap.size + 1, 5, none⟩ (.slice none 0 0)) := ⟨_, rfl⟩
    have ho : Only (w.heap.size + 1) (w.heap.size + 1 + 1) w5 U6 := by rw [hU6]; exact (((((((Only.refl _ _ _).set (p := ⟨w.heap.size + 1, 0, none⟩) (Nat.le_refl _) (Nat.lt_succ_self _) _).set (p := ⟨w.heap.size + 1, 1, none⟩) (Nat.le_refl _) (Nat.lt_succ_self _) _).set (p := ⟨w.heap.size + 1, 2, none⟩) (Nat.le_refl _) (Nat.lt_succ_self _) _).set (p := ⟨w.heap.size + 1, 3, none⟩) (Nat.le_refl _) (Nat.lt_succ_self _) _).set (p := ⟨w.heap.size + 1, 4, none⟩) (Nat.le_refl _) (Nat.lt_succ_self _) _).set (p := ⟨w.heap.size + 1, 5, none⟩) (Nat.le_refl _) (Nat.lt_succ_self _) _)
    replace HX2 : Kept (w.heap.size + 1) (w.heap.size + 1 + 1) (BoxK (w.heap.size + 1) 63 #[.int .i64 0, .int .i64 cap, .bool false, .slice E0 n d0, .bool true, .slice none 0 0]) U6 := by rw [hU6]; exact Kept.box ((((((HX2.bx.puts 0 (.int .i64 0) (cs' := #[.int .i64 0, .int .i64 0, .bool false, .slice none 0 0, .bool false, .slice none 0 0]) rfl).puts 1 (.int .i64 cap) (cs' := #[.int .i64 0, .int .i64 cap, .bool false, .slice none 0 0, .bool false, .slice none 0 0]) rfl).puts 2 (.bool false) (cs' := #[.int .i64 0, .int .i64 cap, .bool false, .slice none 0 0, .bool false, .slice none 0 0]) rfl).puts 3 (.slice E0 n d0) (cs' := #[.int .i64 0, .int .i64 cap, .bool false, .slice E0 n d0, .bool false, .slice none 0 0]) rfl).puts 4 (.bool true) (cs' := #[.int .i64 0, .int .i64 cap, .bool false, .slice E0 n d0, .bool true, .slice none 0 0]) rfl).puts 5 (.slice none 0 0) (cs' := #[.int .i64 0, .int .i64 cap, .bool false, .slice E0 n d0, .bool true, .slice none 0 0]) rfl)
    replace HA := HA.only ho (by have := Zh.out; have := Z1.out; have := Z2.out; have := Z3.out; have := Zg.out; have := Zg2.out; have := Z4.out; have := Z5.out; omega)
    replace HX1 := HX1.only ho (by have := Zh.out; have := Z1.out; have := Z2.out; have := Z3.out; have := Zg.out; have := Zg2.out; have := Z4.out; have := Z5.out; omega)
    replace HG := HG.only ho (by have := Zh.out; have := Z1.out; have := Z2.out; have := Z3.out; have := Zg.out; have := Zg2.out; have := Z4.out; have := Z5.out; omega)
    replace HO := HO.only ho (by have := Zh.out; have := Z1.out; have := Z2.out; have := Z3.out; have := Zg.out; have := Zg2.out; have := Z4.out; have := Z5.out; omega)
    replace HB := Lib.hid (Below.only HB.out ho (by have := Zh.out; have := Z1.out; have := Z2.out; have := Z3.out; have := Zg.out; have := Zg2.out; have := Z4.out; have := Z5.out; omega) HB.out.size)
    have Z6 : Hid (U6.heap.size = w5.heap.size) := Lib.hid (by rw [hU6]; simp [World.setCell]); clear ho
    have q_0 := HX2.look 0
    have q_1 := HX2.look 1
    have q_2 := HX2.look 2
    have q_3 := HX2.look 3
    have q_4 := HX2.look 4
    have q_5 := HX2.look 5
    subst hU6
    exact bodyPost_ret (v := .agg #[.int .i64 0, .int .i64 cap, .bool false, .slice E0 n d0, .bool true, .slice none 0 0]) (by simp [results, Try.results45, go_sem, q_0, q_1, q_2, q_3, q_4, q_5]) rfl ⟨E0, n, d0, none, 0, 0, by rw [HV.out.1, HV.out.2.1, HV.out.2.2.1, HV.out.2.2.2.2.1], by rw [HV.out.2.2.2.1, HV.out.2.2.2.2.2]; exact QK.kept (QK.of_own (HO.ownF.mono (by have := Zh.out; have := Z1.out; have := Z2.out; have := Z3.out; have := Zg.out; have := Zg2.out; have := Z4.out; have := Z5.out; have := Z6.out; omega)) (OwnF.nil_ _ _ _ _ _) (fun r _ h => by cases h)) (Nat.le_refl _), HB.out, OwnF.room HO.ownF⟩
  | false =>
  by_cases hn0 : n = 0
  · have HB := Lib.hid (Below.refl w.heap.size w)
    have HA := Rep.Sl.kept ha hh
    have Zh := Lib.hid hh
    have hy0 : ys = [] := List.eq_nil_of_length_eq_zero (by omega)
    have h0e : qf cap [] = 0 := by rw [← hy0]; exact h0
    have HR := Lib.hid h0
    have hq8 := qf_ok h0
    have hn8 : n ≤ 1000 := by have := hq8.2.2.1; omega
    have HV : Hid (ppC cap false ys = 4 ∧ ppX cap false ys = 0 ∧ ppP ys = false ∧ ppU cap false ys = [] ∧ ppT cap false ys = false ∧ ppZ cap false ys = []) := Lib.hid (by refine ⟨?_, ?_, ?_, ?_, ?_, ?_⟩ <;> simp [ppC, ppX, ppP, ppU, ppT, ppZ, hy0, h0e])
    have hn1 : ((n : Int) == 0) = true := by rw [hn0]; rfl
    clear h0 hq8 hy0 hn0 h0e
    clear ha hl hh
    go_enter Try.func45, Try.ntmps45
    go_wp2_with fail
    refine Calls.name ?_
    intro U1 hU1
    have hb : Below w.heap.size w U1 := by rw [hU1]; exact (((Below.refl _ _).alloc (Nat.le_refl _) _).alloc (by simp <;> omega) _)
    have zz : Hid (w.heap.size + 2 = U1.heap.size) := Lib.hid (by rw [hU1]; simp)
    have HX1 : Kept w.heap.size (w.heap.size + 1) (BoxK w.heap.size 59 #[.int .i64 cap, .bool false, .slice A n c]) U1 := by rw [hU1]; exact Kept.box ((Box.made_at _ _ _ rfl).over _)
    have HX2 : Kept (w.heap.size + 1) (w.heap.size + 1 + 1) (BoxK (w.heap.size + 1) 63 #[.int .i64 0, .int .i64 0, .bool false, .slice none 0 0, .bool false, .slice none 0 0]) U1 := by rw [hU1]; exact Kept.box (Box.made_at _ _ _ (by simp <;> omega))
    replace HA := HA.below hb
    replace HB := Lib.hid (below_step HB.out hb)
    clear hb
    have Z1 := zz; clear zz
    clear hU1
    refine (queueFault_any cap false q lo hi A n c ys _ HA.sl HA.le hn hc).mono ?_
    rw [HR.out]
    rintro e w2 ⟨rfl, hb⟩
    have Z2 := Lib.hid hb.size
    replace HA := HA.below hb
    replace HX1 := HX1.below hb
    replace HX2 := HX2.below hb
    replace HB := Lib.hid (below_step HB.out hb)
    clear hb
    have c2_0 := HX1.look 0
    have c2_1 := HX1.look 1
    have c2_2 := HX1.look 2
    have l2_0 := HX1.bx.lt
    have l2_1 := HX2.bx.lt
    go_wp2_with fail
    clear c2_0 c2_1 c2_2 l2_0 l2_1
    refine (backlogOf_any cap false q lo hi A n c ys _ HA.sl HA.le hn8).mono ?_
    rintro e w3 ⟨g, E0, d0, rfl, hg, ho, hle, hb⟩
    have Z3 := Lib.hid hb.size
    replace HA := HA.below hb
    replace HX1 := HX1.below hb
    replace HX2 := HX2.below hb
    replace HB := Lib.hid (below_step HB.out hb)
    clear hb
    have HG := hg; have HO := ho; have Zg := Lib.hid hle; clear hg ho hle
    have Zg2 := Lib.hid HG.le
    have l3_0 := HX1.bx.lt
    have l3_1 := HX2.bx.lt
    have l3_2 := HG.bx.lt
    go_wp2_with fail
    clear l3_0 l3_1 l3_2
    refine (takeMark_any cap false g E0 n d0 _ HG.bx).mono ?_
    rintro e w4 ⟨rfl, hx, ho⟩
    have Z4 := Lib.hid ho.size
    replace HA := HA.only ho (by have := Zh.out; have := Z1.out; have := Z2.out; have := Z3.out; have := Zg.out; have := Zg2.out; have := Z4.out; omega)
    replace HX1 := HX1.only ho (by have := Zh.out; have := Z1.out; have := Z2.out; have := Z3.out; have := Zg.out; have := Zg2.out; have := Z4.out; omega)
    replace HX2 := HX2.only ho (by have := Zh.out; have := Z1.out; have := Z2.out; have := Z3.out; have := Zg.out; have := Zg2.out; have := Z4.out; omega)
    replace HO := HO.only ho (by have := Zh.out; have := Z1.out; have := Z2.out; have := Z3.out; have := Zg.out; have := Zg2.out; have := Z4.out; omega)
    replace HB := Lib.hid (Below.only HB.out ho (by have := Zh.out; have := Z1.out; have := Z2.out; have := Z3.out; have := Zg.out; have := Zg2.out; have := Z4.out; omega) HB.out.size)
    clear ho
    replace HG := Kept.box hx; clear hx
    have c4_0 := HG.look 2
    have c4_1 := HX2.look 0
    have c4_2 := HX2.look 1
    have c4_3 := HX2.look 2
    have c4_4 := HX2.look 3
    have c4_5 := HX2.look 4
    have c4_6 := HX2.look 5
    have f4_0 := HX2.free 0
    have f4_1 := HX2.free 1
    have f4_2 := HX2.free 2
    have f4_3 := HX2.free 3
    have f4_4 := HX2.free 4
    have f4_5 := HX2.free 5
    have l4_0 := HX1.bx.lt
    have l4_1 := HX2.bx.lt
    have l4_2 := HG.bx.lt
    have n4_0_0 : ¬ (w.heap.size + 1) = g := (by have := Zh.out; have := Z1.out; have := Z2.out; have := Z3.out; have := Zg.out; have := Zg2.out; have := Z4.out; omega)
    have m4_0_0 : ¬ g = (w.heap.size + 1) := (by have := Zh.out; have := Z1.out; have := Z2.out; have := Z3.out; have := Zg.out; have := Zg2.out; have := Z4.out; omega)
    go_wp2
    clear c4_0 c4_1 c4_2 c4_3 c4_4 c4_5 c4_6 f4_0 f4_1 f4_2 f4_3 f4_4 f4_5 l4_0 l4_1 l4_2 n4_0_0 m4_0_0
    obtain ⟨U5, hU5⟩ : ∃ W : World, W = ((((((w4.setCell ⟨w.heap.size + 1, 0, none⟩ (.int .i64 4)).setCell ⟨w.heap.size + 1, 1, none⟩ (.int .i64 0)).setCell ⟨w.heap.size + 1, 2, none⟩ (.bool false)).setCell ⟨w.heap.size + 1, 3, none⟩ (.slice none 0 0)).setCell ⟨w.heap.size + 1, 4, none⟩ (.bool false)).setCell ⟨w.heap.size + 1, 5, none⟩ (.slice none 0 0)) := ⟨_, rfl⟩
    have ho : Only (w.heap.size + 1) (w.heap.size + 1 + 1) w4 U5 := by rw [hU5]; exact (((((((Only.refl _ _ _).set (p := ⟨w.heap.size + 1, 0, none⟩) (Nat.le_refl _) (Nat.lt_succ_self _) _).set (p := ⟨w.heap.size + 1, 1, none⟩) (Nat.le_refl _) (Nat.lt_succ_self _) _).set (p := ⟨w.heap.size + 1, 2, none⟩) (Nat.le_refl _) (Nat.lt_succ_self _) _).set (p := ⟨w.heap.size + 1, 3, none⟩) (Nat.le_refl _) (Nat.lt_succ_self _) _).set (p := ⟨w.heap.size + 1, 4, none⟩) (Nat.le_refl _) (Nat.lt_succ_self _) _).set (p := ⟨w.heap.size + 1, 5, none⟩) (Nat.le_refl _) (Nat.lt_succ_self _) _)
    replace HX2 : Kept (w.heap.size + 1) (w.heap.size + 1 + 1) (BoxK (w.heap.size + 1) 63 #[.int .i64 4, .int .i64 0, .bool false, .slice none 0 0, .bool false, .slice none 0 0]) U5 := by rw [hU5]; exact Kept.box ((((((HX2.bx.puts 0 (.int .i64 4) (cs' := #[.int .i64 4, .int .i64 0, .bool false, .slice none 0 0, .bool false, .slice none 0 0]) rfl).puts 1 (.int .i64 0) (cs' := #[.int .i64 4, .int .i64 0, .bool false, .slice none 0 0, .bool false, .slice none 0 0]) rfl).puts 2 (.bool false) (cs' := #[.int .i64 4, .int .i64 0, .bool false, .slice none 0 0, .bool false, .slice none 0 0]) rfl).puts 3 (.slice none 0 0) (cs' := #[.int .i64 4, .int .i64 0, .bool false, .slice none 0 0, .bool false, .slice none 0 0]) rfl).puts 4 (.bool false) (cs' := #[.int .i64 4, .int .i64 0, .bool false, .slice none 0 0, .bool false, .slice none 0 0]) rfl).puts 5 (.slice none 0 0) (cs' := #[.int .i64 4, .int .i64 0, .bool false, .slice none 0 0, .bool false, .slice none 0 0]) rfl)
    replace HA := HA.only ho (by have := Zh.out; have := Z1.out; have := Z2.out; have := Z3.out; have := Zg.out; have := Zg2.out; have := Z4.out; omega)
    replace HX1 := HX1.only ho (by have := Zh.out; have := Z1.out; have := Z2.out; have := Z3.out; have := Zg.out; have := Zg2.out; have := Z4.out; omega)
    replace HG := HG.only ho (by have := Zh.out; have := Z1.out; have := Z2.out; have := Z3.out; have := Zg.out; have := Zg2.out; have := Z4.out; omega)
    replace HO := HO.only ho (by have := Zh.out; have := Z1.out; have := Z2.out; have := Z3.out; have := Zg.out; have := Zg2.out; have := Z4.out; omega)
    replace HB := Lib.hid (Below.only HB.out ho (by have := Zh.out; have := Z1.out; have := Z2.out; have := Z3.out; have := Zg.out; have := Zg2.out; have := Z4.out; omega) HB.out.size)
    have Z5 : Hid (U5.heap.size = w4.heap.size) := Lib.hid (by rw [hU5]; simp [World.setCell]); clear ho
    have q_0 := HX2.look 0
    have q_1 := HX2.look 1
    have q_2 := HX2.look 2
    have q_3 := HX2.look 3
    have q_4 := HX2.look 4
    have q_5 := HX2.look 5
    subst hU5
    exact bodyPost_ret (v := .agg #[.int .i64 4, .int .i64 0, .bool false, .slice none 0 0, .bool false, .slice none 0 0]) (by simp [results, Try.results45, go_sem, q_0, q_1, q_2, q_3, q_4, q_5]) rfl ⟨none, 0, 0, none, 0, 0, by rw [HV.out.1, HV.out.2.1, HV.out.2.2.1, HV.out.2.2.2.2.1], by rw [HV.out.2.2.2.1, HV.out.2.2.2.2.2]; exact QK.kept (QK.nil _ _ _ _ _) (Nat.le_refl _), HB.out, Nat.le_refl _⟩
  · have HB := Lib.hid (Below.refl w.heap.size w)
    have HA := Rep.Sl.kept ha hh
    have Zh := Lib.hid hh
    have hy : ¬ ys = [] := fun e => hn0 (by rw [← hl, e]; rfl)
    have HR := Lib.hid h0
    have hq8 := qf_ok h0
    have hn8 : n ≤ 1000 := by have := hq8.2.2.1; omega
    have HV : Hid (ppC cap false ys = 0 ∧ ppX cap false ys = cap ∧ ppP ys = false ∧ ppU cap false ys = (ys.drop 1) ∧ ppT cap false ys = false ∧ ppZ cap false ys = (ys.take 1)) := Lib.hid (by refine ⟨?_, ?_, ?_, ?_, ?_, ?_⟩ <;> simp [ppC, ppX, ppP, ppU, ppT, ppZ, h0, hy])
    have hn1 : ((n : Int) == 0) = false := by rw [beq_eq_false_iff_ne]; omega
    have hpos : 1 ≤ n := by omega
    clear h0 hq8 hy hn0
    clear ha hl hh
    go_enter Try.func45, Try.ntmps45
    go_wp2_with fail
    refine Calls.name ?_
    intro U1 hU1
    have hb : Below w.heap.size w U1 := by rw [hU1]; exact (((Below.refl _ _).alloc (Nat.le_refl _) _).alloc (by simp <;> omega) _)
    have zz : Hid (w.heap.size + 2 = U1.heap.size) := Lib.hid (by rw [hU1]; simp)
    have HX1 : Kept w.heap.size (w.heap.size + 1) (BoxK w.heap.size 59 #[.int .i64 cap, .bool false, .slice A n c]) U1 := by rw [hU1]; exact Kept.box ((Box.made_at _ _ _ rfl).over _)
    have HX2 : Kept (w.heap.size + 1) (w.heap.size + 1 + 1) (BoxK (w.heap.size + 1) 63 #[.int .i64 0, .int .i64 0, .bool false, .slice none 0 0, .bool false, .slice none 0 0]) U1 := by rw [hU1]; exact Kept.box (Box.made_at _ _ _ (by simp <;> omega))
    replace HA := HA.below hb
    replace HB := Lib.hid (below_step HB.out hb)
    clear hb
    have Z1 := zz; clear zz
    clear hU1
    refine (queueFault_any cap false q lo hi A n c ys _ HA.sl HA.le hn hc).mono ?_
    rw [HR.out]
    rintro e w2 ⟨rfl, hb⟩
    have Z2 := Lib.hid hb.size
    replace HA := HA.below hb
    replace HX1 := HX1.below hb
    replace HX2 := HX2.below hb
    replace HB := Lib.hid (below_step HB.out hb)
    clear hb
    have c2_0 := HX1.look 0
    have c2_1 := HX1.look 1
    have c2_2 := HX1.look 2
    have l2_0 := HX1.bx.lt
    have l2_1 := HX2.bx.lt
    go_wp2_with fail
    clear c2_0 c2_1 c2_2 l2_0 l2_1
    refine (backlogOf_any cap false q lo hi A n c ys _ HA.sl HA.le hn8).mono ?_
    rintro e w3 ⟨g, E0, d0, rfl, hg, ho, hle, hb⟩
    have Z3 := Lib.hid hb.size
    replace HA := HA.below hb
    replace HX1 := HX1.below hb
    replace HX2 := HX2.below hb
    replace HB := Lib.hid (below_step HB.out hb)
    clear hb
    have HG := hg; have HO := ho; have Zg := Lib.hid hle; clear hg ho hle
    have Zg2 := Lib.hid HG.le
    have l3_0 := HX1.bx.lt
    have l3_1 := HX2.bx.lt
    have l3_2 := HG.bx.lt
    go_wp2_with fail
    clear l3_0 l3_1 l3_2
    refine (takeMark_any cap false g E0 n d0 _ HG.bx).mono ?_
    rintro e w4 ⟨rfl, hx, ho⟩
    have Z4 := Lib.hid ho.size
    replace HA := HA.only ho (by have := Zh.out; have := Z1.out; have := Z2.out; have := Z3.out; have := Zg.out; have := Zg2.out; have := Z4.out; omega)
    replace HX1 := HX1.only ho (by have := Zh.out; have := Z1.out; have := Z2.out; have := Z3.out; have := Zg.out; have := Zg2.out; have := Z4.out; omega)
    replace HX2 := HX2.only ho (by have := Zh.out; have := Z1.out; have := Z2.out; have := Z3.out; have := Zg.out; have := Zg2.out; have := Z4.out; omega)
    replace HO := HO.only ho (by have := Zh.out; have := Z1.out; have := Z2.out; have := Z3.out; have := Zg.out; have := Zg2.out; have := Z4.out; omega)
    replace HB := Lib.hid (Below.only HB.out ho (by have := Zh.out; have := Z1.out; have := Z2.out; have := Z3.out; have := Zg.out; have := Zg2.out; have := Z4.out; omega) HB.out.size)
    clear ho
    replace HG := Kept.box hx; clear hx
    have c4_0 := HG.look 2
    have l4_0 := HX1.bx.lt
    have l4_1 := HX2.bx.lt
    have l4_2 := HG.bx.lt
    go_wp2_with fail
    clear c4_0 l4_0 l4_1 l4_2
    have hlim := HO.lim
    refine (take_any cap false g (w2.heap.size) E0 n d0 (1) ys _ HG.bx HO.ownF (by omega) hn8 (by have := Zh.out; have := Z1.out; have := Z2.out; have := Z3.out; have := Zg.out; have := Zg2.out; have := Z4.out; omega) (by have := HG.le; have := Zh.out; have := Z1.out; have := Z2.out; have := Z3.out; have := Zg.out; have := Zg2.out; have := Z4.out; omega)).mono ?_
    rintro e w5 ⟨E, d, rfl, he, hx, ho2, hbb⟩
    have ho := Below.only_from hbb
    have Z5 := Lib.hid ho.size
    replace HA := HA.only ho (by have := Zh.out; have := Z1.out; have := Z2.out; have := Z3.out; have := Zg.out; have := Zg2.out; have := Z4.out; have := Z5.out; omega)
    replace HX1 := HX1.only ho (by have := Zh.out; have := Z1.out; have := Z2.out; have := Z3.out; have := Zg.out; have := Zg2.out; have := Z4.out; have := Z5.out; omega)
    replace HX2 := HX2.only ho (by have := Zh.out; have := Z1.out; have := Z2.out; have := Z3.out; have := Zg.out; have := Zg2.out; have := Z4.out; have := Z5.out; omega)
    replace HB := Lib.hid (Below.only HB.out ho (by have := Zh.out; have := Z1.out; have := Z2.out; have := Z3.out; have := Zg.out; have := Zg2.out; have := Z4.out; have := Z5.out; omega) HB.out.size)
    clear ho hbb
    have HG := Kept.box hx; have HO := ho2.keptTo hlim (Nat.le_of_lt hx.lt); have HE := he.kept rfl; clear hx ho2 he hlim
    have l5_0 := HX1.bx.lt
    have l5_1 := HX2.bx.lt
    have l5_2 := HG.bx.lt
    go_wp2_with fail
    clear l5_0 l5_1 l5_2
    refine (queueOf_any cap false g E0 (n - 1) d0 _ HG.bx).mono ?_
    rintro e w6 ⟨rfl, hb⟩
    have Z6 := Lib.hid hb.size
    replace HA := HA.below hb
    replace HX1 := HX1.below hb
    replace HX2 := HX2.below hb
    replace HG := HG.below hb
    replace HO := HO.below hb
    replace HE := HE.below hb
    replace HB := Lib.hid (below_step HB.out hb)
    clear hb
    have c6_0 := HX2.look 0
    have c6_1 := HX2.look 1
    have c6_2 := HX2.look 2
    have c6_3 := HX2.look 3
    have c6_4 := HX2.look 4
    have c6_5 := HX2.look 5
    have f6_0 := HX2.free 0
    have f6_1 := HX2.free 1
    have f6_2 := HX2.free 2
    have f6_3 := HX2.free 3
    have f6_4 := HX2.free 4
    have f6_5 := HX2.free 5
    have l6_0 := HX1.bx.lt
    have l6_1 := HX2.bx.lt
    have l6_2 := HG.bx.lt
    go_wp2
    clear c6_0 c6_1 c6_2 c6_3 c6_4 c6_5 f6_0 f6_1 f6_2 f6_3 f6_4 f6_5 l6_0 l6_1 l6_2
    obtain ⟨U7, hU7⟩ : ∃ W : World, W = ((((((w6.setCell ⟨w.heap.size + 1, 0, none⟩ (.int .i64 0)).setCell ⟨w.heap.size + 1, 1, none⟩ (.int .i64 cap)).setCell ⟨w.heap.size + 1, 2, none⟩ (.bool false)).setCell ⟨w.heap.size + 1, 3, none⟩ (.slice E0 (n - 1) d0)).setCell ⟨w.heap.size + 1, 4, none⟩ (.bool false)).setCell ⟨w.heap.size + 1, 5, none⟩ (.slice E 1 d)) := ⟨_, rfl⟩
    have ho : Only (w.heap.size + 1) (w.heap.size + 1 + 1) w6 U7 := by rw [hU7]; exact (((((((Only.refl _ _ _).set (p := ⟨w.heap.size + 1, 0, none⟩) (Nat.le_refl _) (Nat.lt_succ_self _) _).set (p := ⟨w.heap.size + 1, 1, none⟩) (Nat.le_refl _) (Nat.lt_succ_self _) _).set (p := ⟨w.heap.size + 1, 2, none⟩) (Nat.le_refl _) (Nat.lt_succ_self _) _).set (p := ⟨w.heap.size + 1, 3, none⟩) (Nat.le_refl _) (Nat.lt_succ_self _) _).set (p := ⟨w.heap.size + 1, 4, none⟩) (Nat.le_refl _) (Nat.lt_succ_self _) _).set (p := ⟨w.heap.size + 1, 5, none⟩) (Nat.le_refl _) (Nat.lt_succ_self _) _)
    replace HX2 : Kept (w.heap.size + 1) (w.heap.size + 1 + 1) (BoxK (w.heap.size + 1) 63 #[.int .i64 0, .int .i64 cap, .bool false, .slice E0 (n - 1) d0, .bool false, .slice E 1 d]) U7 := by rw [hU7]; exact Kept.box ((((((HX2.bx.puts 0 (.int .i64 0) (cs' := #[.int .i64 0, .int .i64 0, .bool false, .slice none 0 0, .bool false, .slice none 0 0]) rfl).puts 1 (.int .i64 cap) (cs' := #[.int .i64 0, .int .i64 cap, .bool false, .slice none 0 0, .bool false, .slice none 0 0]) rfl).puts 2 (.bool false) (cs' := #[.int .i64 0, .int .i64 cap, .bool false, .slice none 0 0, .bool false, .slice none 0 0]) rfl).puts 3 (.slice E0 (n - 1) d0) (cs' := #[.int .i64 0, .int .i64 cap, .bool false, .slice E0 (n - 1) d0, .bool false, .slice none 0 0]) rfl).puts 4 (.bool false) (cs' := #[.int .i64 0, .int .i64 cap, .bool false, .slice E0 (n - 1) d0, .bool false, .slice none 0 0]) rfl).puts 5 (.slice E 1 d) (cs' := #[.int .i64 0, .int .i64 cap, .bool false, .slice E0 (n - 1) d0, .bool false, .slice E 1 d]) rfl)
    replace HA := HA.only ho (by have := Zh.out; have := Z1.out; have := Z2.out; have := Z3.out; have := Zg.out; have := Zg2.out; have := Z4.out; have := Z5.out; have := Z6.out; omega)
    replace HX1 := HX1.only ho (by have := Zh.out; have := Z1.out; have := Z2.out; have := Z3.out; have := Zg.out; have := Zg2.out; have := Z4.out; have := Z5.out; have := Z6.out; omega)
    replace HG := HG.only ho (by have := Zh.out; have := Z1.out; have := Z2.out; have := Z3.out; have := Zg.out; have := Zg2.out; have := Z4.out; have := Z5.out; have := Z6.out; omega)
    replace HO := HO.only ho (by have := Zh.out; have := Z1.out; have := Z2.out; have := Z3.out; have := Zg.out; have := Zg2.out; have := Z4.out; have := Z5.out; have := Z6.out; omega)
    replace HE := HE.only ho (by have := Zh.out; have := Z1.out; have := Z2.out; have := Z3.out; have := Zg.out; have := Zg2.out; have := Z4.out; have := Z5.out; have := Z6.out; omega)
    replace HB := Lib.hid (Below.only HB.out ho (by have := Zh.out; have := Z1.out; have := Z2.out; have := Z3.out; have := Zg.out; have := Zg2.out; have := Z4.out; have := Z5.out; have := Z6.out; omega) HB.out.size)
    have Z7 : Hid (U7.heap.size = w6.heap.size) := Lib.hid (by rw [hU7]; simp [World.setCell]); clear ho
    have q_0 := HX2.look 0
    have q_1 := HX2.look 1
    have q_2 := HX2.look 2
    have q_3 := HX2.look 3
    have q_4 := HX2.look 4
    have q_5 := HX2.look 5
    subst hU7
    exact bodyPost_ret (v := .agg #[.int .i64 0, .int .i64 cap, .bool false, .slice E0 (n - 1) d0, .bool false, .slice E 1 d]) (by simp [results, Try.results45, go_sem, q_0, q_1, q_2, q_3, q_4, q_5]) rfl ⟨E0, n - 1, d0, E, 1, d, by rw [HV.out.1, HV.out.2.1, HV.out.2.2.1, HV.out.2.2.2.2.1], by rw [HV.out.2.2.2.1, HV.out.2.2.2.2.2]; exact QK.kept (QK.of_own (HO.ownF.mono (by have := Zh.out; have := Z1.out; have := Z2.out; have := Z3.out; have := Zg.out; have := Zg2.out; have := Z4.out; have := Z5.out; have := Z6.out; have := Z7.out; omega)) (HE.ownF.mono (by have := Zh.out; have := Z1.out; have := Z2.out; have := Z3.out; have := Zg.out; have := Zg2.out; have := Z4.out; have := Z5.out; have := Z6.out; have := Z7.out; omega)) (fun r h1 h2 => by have := HO.lim r h1; have := (HE.ownF.block r h2).1; have := Zh.out; have := Z1.out; have := Z2.out; have := Z3.out; have := Zg.out; have := Zg2.out; have := Z4.out; have := Z5.out; have := Z6.out; have := Z7.out; omega)) (Nat.le_refl _), HB.out, OwnF.room HO.ownF⟩


end Go.Proofs.Ytiffhjofabaflaa

namespace Go.Proofs.Ytiffhjofabaflaa
open Go.RowKit
set_option linter.unusedVariables false

set_option maxRecDepth 100000 in
set_option maxHeartbeats 6400000 in
theorem pushAllR_any (cap : Int) (mk : Bool) (q : Bool) (lo hi : Nat) (A : Option Addr) (n c : Nat) (ys : List Tmr) (q2 : Bool) (lo2 hi2 : Nat) (A2 : Option Addr) (n2 c2 : Nat) (xs : List Tmr) (w : World) (ha : Rep.timer.Sl q lo hi w A n ys) (hh : hi ≤ w.heap.size) (hn : n ≤ 1048576) (hx : Rep.timer.Sl q2 lo2 hi2 w A2 n2 xs) (hh2 : hi2 ≤ w.heap.size) (hn2 : n2 ≤ 1048576) (hc : n ≤ c) :
    Calls Try.prog 41 #[.agg #[.int .i64 cap, .bool mk, .slice A n c], .slice A2 n2 c2] w fun e w' => ∃ O j k E m d, e = .returned (.agg #[.int .i64 (paC cap mk ys xs), .int .i64 (paX cap mk ys xs), .bool (paP cap mk ys xs), .slice O j k, .bool (paT ys), .slice E m d]) ∧ Kept w.heap.size w'.heap.size (QK w.heap.size w'.heap.size O j (paU cap mk ys xs) E m (paZ ys)) w' ∧ Below w.heap.size w w' ∧ j ≤ k := by
  have hl := ha.1
  have hl2 := hx.1
  by_cases h0 : ¬ qf cap ys = 0
  · have HB := Lib.hid (Below.refl w.heap.size w)
    have HA := Rep.Sl.kept ha hh
    have Zh := Lib.hid hh
    have HXS := Rep.Sl.kept hx hh2
    have Zh2 := Lib.hid hh2
    obtain ⟨r, hr⟩ : ∃ z, qf cap ys = z := ⟨_, rfl⟩
    have HR := Lib.hid hr
    have h0r : ¬ r = 0 := by rw [← hr]; exact h0
    have hr0 : (r != 0) = true := by simpa using h0r
    have HV : Hid (paC cap mk ys xs = r ∧ paX cap mk ys xs = 0 ∧ paP cap mk ys xs = false ∧ paU cap mk ys xs = [] ∧ paT ys = false ∧ paZ ys = []) := Lib.hid (by refine ⟨?_, ?_, ?_, ?_, ?_, ?_⟩ <;> simp [paC, paX, paP, paU, paT, paZ, hr, h0r])
    clear h0 hr h0r
    clear ha hl hh hx hl2 hh2
    go_enter Try.func41, Try.ntmps41
    go_wp2_with fail
    refine Calls.name ?_
    intro U1 hU1
    have hb : Below w.heap.size w U1 := by rw [hU1]; exact (((Below.refl _ _).alloc (Nat.le_refl _) _).alloc (by simp <;> omega) _)
    have zz : Hid (w.heap.size + 2 = U1.heap.size) := Lib.hid (by rw [hU1]; simp)
    have HX1 : Kept w.heap.size (w.heap.size + 1) (BoxK w.heap.size 59 #[.int .i64 cap, .bool mk, .slice A n c]) U1 := by rw [hU1]; exact Kept.box ((Box.made_at _ _ _ rfl).over _)
    have HX2 : Kept (w.heap.size + 1) (w.heap.size + 1 + 1) (BoxK (w.heap.size + 1) 63 #[.int .i64 0, .int .i64 0, .bool false, .slice none 0 0, .bool false, .slice none 0 0]) U1 := by rw [hU1]; exact Kept.box (Box.made_at _ _ _ (by simp <;> omega))
    replace HA := HA.below hb
    replace HXS := HXS.below hb
    replace HB := Lib.hid (below_step HB.out hb)
    clear hb
    have Z1 := zz; clear zz
    clear hU1
    refine (queueFault_any cap mk q lo hi A n c ys _ HA.sl HA.le hn hc).mono ?_
    rw [HR.out]
    rintro e w2 ⟨rfl, hb⟩
    have Z2 := Lib.hid hb.size
    replace HA := HA.below hb
    replace HXS := HXS.below hb
    replace HX1 := HX1.below hb
    replace HX2 := HX2.below hb
    replace HB := Lib.hid (below_step HB.out hb)
    clear hb
    have c2_0 := HX2.look 0
    have c2_1 := HX2.look 1
    have c2_2 := HX2.look 2
    have c2_3 := HX2.look 3
    have c2_4 := HX2.look 4
    have c2_5 := HX2.look 5
    have f2_0 := HX2.free 0
    have f2_1 := HX2.free 1
    have f2_2 := HX2.free 2
    have f2_3 := HX2.free 3
    have f2_4 := HX2.free 4
    have f2_5 := HX2.free 5
    have l2_0 := HX1.bx.lt
    have l2_1 := HX2.bx.lt
    go_wp2
    clear c2_0 c2_1 c2_2 c2_3 c2_4 c2_5 f2_0 f2_1 f2_2 f2_3 f2_4 f2_5 l2_0 l2_1
    obtain ⟨U3, hU3⟩ : ∃ W : World, W = ((((((w2.setCell ⟨w.heap.size + 1, 0, none⟩ (.int .i64 r)).setCell ⟨w.heap.size + 1, 1, none⟩ (.int .i64 0)).setCell ⟨w.heap.size + 1, 2, none⟩ (.bool false)).setCell ⟨w.heap.size + 1, 3, none⟩ (.slice none 0 0)).setCell ⟨w.heap.size + 1, 4, none⟩ (.bool false)).setCell ⟨w.heap.size + 1, 5, none⟩ (.slice none 0 0)) := ⟨_, rfl⟩
    have ho : Only (w.heap.size + 1) (w.heap.size + 1 + 1) w2 U3 := by rw [hU3]; exact (((((((Only.refl _ _ _).set (p := ⟨w.heap.size + 1, 0, none⟩) (Nat.le_refl _) (Nat.lt_succ_self _) _).set (p := ⟨w.heap.size + 1, 1, none⟩) (Nat.le_refl _) (Nat.lt_succ_self _) _).set (p := ⟨w.heap.size + 1, 2, none⟩) (Nat.le_refl _) (Nat.lt_succ_self _) _).set (p := ⟨w.heap.size + 1, 3, none⟩) (Nat.le_refl _) (Nat.lt_succ_self _) _).set (p := ⟨w.heap.size + 1, 4, none⟩) (Nat.le_refl _) (Nat.lt_succ_self _) _).set (p := ⟨w.heap.size + 1, 5, none⟩) (Nat.le_refl _) (Nat.lt_succ_self _) _)
    replace HX2 : Kept (w.heap.size + 1) (w.heap.size + 1 + 1) (BoxK (w.heap.size + 1) 63 #[.int .i64 r, .int .i64 0, .bool false, .slice none 0 0, .bool false, .slice none 0 0]) U3 := by rw [hU3]; exact Kept.box ((((((HX2.bx.puts 0 (.int .i64 r) (cs' := #[.int .i64 r, .int .i64 0, .bool false, .slice none 0 0, .bool false, .slice none 0 0]) rfl).puts 1 (.int .i64 0) (cs' := #[.int .i64 r, .int .i64 0, .bool false, .slice none 0 0, .bool false, .slice none 0 0]) rfl).puts 2 (.bool false) (cs' := #[.int .i64 r, .int .i64 0, .bool false, .slice none 0 0, .bool false, .slice none 0 0]) rfl).puts 3 (.slice none 0 0) (cs' := #[.int .i64 r, .int .i64 0, .bool false, .slice none 0 0, .bool false, .slice none 0 0]) rfl).puts 4 (.bool false) (cs' := #[.int .i64 r, .int .i64 0, .bool false, .slice none 0 0, .bool false, .slice none 0 0]) rfl).puts 5 (.slice none 0 0) (cs' := #[.int .i64 r, .int .i64 0, .bool false, .slice none 0 0, .bool false, .slice none 0 0]) rfl)
    replace HA := HA.only ho (by have := Zh.out; have := Zh2.out; have := Z1.out; have := Z2.out; omega)
    replace HXS := HXS.only ho (by have := Zh.out; have := Zh2.out; have := Z1.out; have := Z2.out; omega)
    replace HX1 := HX1.only ho (by have := Zh.out; have := Zh2.out; have := Z1.out; have := Z2.out; omega)
    replace HB := Lib.hid (Below.only HB.out ho (by have := Zh.out; have := Zh2.out; have := Z1.out; have := Z2.out; omega) HB.out.size)
    have Z3 : Hid (U3.heap.size = w2.heap.size) := Lib.hid (by rw [hU3]; simp [World.setCell]); clear ho
    have q_0 := HX2.look 0
    have q_1 := HX2.look 1
    have q_2 := HX2.look 2
    have q_3 := HX2.look 3
    have q_4 := HX2.look 4
    have q_5 := HX2.look 5
    subst hU3
    exact bodyPost_ret (v := .agg #[.int .i64 r, .int .i64 0, .bool false, .slice none 0 0, .bool false, .slice none 0 0]) (by simp [results, Try.results41, go_sem, q_0, q_1, q_2, q_3, q_4, q_5]) rfl ⟨none, 0, 0, none, 0, 0, by rw [HV.out.1, HV.out.2.1, HV.out.2.2.1, HV.out.2.2.2.2.1], by rw [HV.out.2.2.2.1, HV.out.2.2.2.2.2]; exact QK.kept (QK.nil _ _ _ _ _) (Nat.le_refl _), HB.out, Nat.le_refl _⟩
  have h0 : qf cap ys = 0 := Classical.byContradiction h0
  by_cases h1 : 100 < xs.length
  · have HB := Lib.hid (Below.refl w.heap.size w)
    have HA := Rep.Sl.kept ha hh
    have Zh := Lib.hid hh
    have HXS := Rep.Sl.kept hx hh2
    have Zh2 := Lib.hid hh2
    have HR := Lib.hid h0
    have hm1 : 100 < n2 := by omega
    have hm2 : (100 : Int) < n2 := by omega
    have HV : Hid (paC cap mk ys xs = 2 ∧ paX cap mk ys xs = 0 ∧ paP cap mk ys xs = false ∧ paU cap mk ys xs = [] ∧ paT ys = false ∧ paZ ys = []) := Lib.hid (by refine ⟨?_, ?_, ?_, ?_, ?_, ?_⟩ <;> simp [paC, paX, paP, paU, paT, paZ, h0, h1])
    clear h0 h1 hm1
    clear ha hl hh hx hl2 hh2
    go_enter Try.func41, Try.ntmps41
    go_wp2_with fail
    refine Calls.name ?_
    intro U1 hU1
    have hb : Below w.heap.size w U1 := by rw [hU1]; exact (((Below.refl _ _).alloc (Nat.le_refl _) _).alloc (by simp <;> omega) _)
    have zz : Hid (w.heap.size + 2 = U1.heap.size) := Lib.hid (by rw [hU1]; simp)
    have HX1 : Kept w.heap.size (w.heap.size + 1) (BoxK w.heap.size 59 #[.int .i64 cap, .bool mk, .slice A n c]) U1 := by rw [hU1]; exact Kept.box ((Box.made_at _ _ _ rfl).over _)
    have HX2 : Kept (w.heap.size + 1) (w.heap.size + 1 + 1) (BoxK (w.heap.size + 1) 63 #[.int .i64 0, .int .i64 0, .bool false, .slice none 0 0, .bool false, .slice none 0 0]) U1 := by rw [hU1]; exact Kept.box (Box.made_at _ _ _ (by simp <;> omega))
    replace HA := HA.below hb
    replace HXS := HXS.below hb
    replace HB := Lib.hid (below_step HB.out hb)
    clear hb
    have Z1 := zz; clear zz
    clear hU1
    refine (queueFault_any cap mk q lo hi A n c ys _ HA.sl HA.le hn hc).mono ?_
    rw [HR.out]
    rintro e w2 ⟨rfl, hb⟩
    have Z2 := Lib.hid hb.size
    replace HA := HA.below hb
    replace HXS := HXS.below hb
    replace HX1 := HX1.below hb
    replace HX2 := HX2.below hb
    replace HB := Lib.hid (below_step HB.out hb)
    clear hb
    have c2_0 := HX2.look 0
    have c2_1 := HX2.look 1
    have c2_2 := HX2.look 2
    have c2_3 := HX2.look 3
    have c2_4 := HX2.look 4
    have c2_5 := HX2.look 5
    have f2_0 := HX2.free 0
    have f2_1 := HX2.free 1
    have f2_2 := HX2.free 2
    have f2_3 := HX2.free 3
    have f2_4 := HX2.free 4
    have f2_5 := HX2.free 5
    have l2_0 := HX1.bx.lt
    have l2_1 := HX2.bx.lt
    go_wp2
    clear c2_0 c2_1 c2_2 c2_3 c2_4 c2_5 f2_0 f2_1 f2_2 f2_3 f2_4 f2_5 l2_0 l2_1
    obtain ⟨U3, hU3⟩ : ∃ W : World, W = ((((((w2.setCell ⟨w.heap.size + 1, 0, none⟩ (.int .i64 2)).setCell ⟨w.heap.size + 1, 1, none⟩ (.int .i64 0)).setCell ⟨w.heap.size + 1, 2, none⟩ (.bool false)).setCell ⟨w.heap.size + 1, 3, none⟩ (.slice none 0 0)).setCell ⟨w.heap.size + 1, 4, none⟩ (.bool false)).setCell ⟨w.heap.size + 1, 5, none⟩ (.slice none 0 0)) := ⟨_, rfl⟩
    have ho : Only (w.heap.size + 1) (w.heap.size + 1 + 1) w2 U3 := by rw [hU3]; exact (((((((Only.refl _ _ _).set (p := ⟨w.heap.size + 1, 0, none⟩) (Nat.le_refl _) (Nat.lt_succ_self _) _).set (p := ⟨w.heap.size + 1, 1, none⟩) (Nat.le_refl _) (Nat.lt_succ_self _) _).set (p := ⟨w.heap.size + 1, 2, none⟩) (Nat.le_refl _) (Nat.lt_succ_self _) _).set (p := ⟨w.heap.size + 1, 3, none⟩) (Nat.le_refl _) (Nat.lt_succ_self _) _).set (p := ⟨w.heap.size + 1, 4, none⟩) (Nat.le_refl _) (Nat.lt_succ_self _) _).set (p := ⟨w.heap.size + 1, 5, none⟩) (Nat.le_refl _) (Nat.lt_succ_self _) _)
    replace HX2 : Kept (w.heap.size + 1) (w.heap.size + 1 + 1) (BoxK (w.heap.size + 1) 63 #[.int .i64 2, .int .i64 0, .bool false, .slice none 0 0, .bool false, .slice none 0 0]) U3 := by rw [hU3]; exact Kept.box ((((((HX2.bx.puts 0 (.int .i64 2) (cs' := #[.int .i64 2, .int .i64 0, .bool false, .slice none 0 0, .bool false, .slice none 0 0]) rfl).puts 1 (.int .i64 0) (cs' := #[.int .i64 2, .int .i64 0, .bool false, .slice none 0 0, .bool false, .slice none 0 0]) rfl).puts 2 (.bool false) (cs' := #[.int .i64 2, .int .i64 0, .bool false, .slice none 0 0, .bool false, .slice none 0 0]) rfl).puts 3 (.slice none 0 0) (cs' := #[.int .i64 2, .int .i64 0, .bool false, .slice none 0 0, .bool false, .slice none 0 0]) rfl).puts 4 (.bool false) (cs' := #[.int .i64 2, .int .i64 0, .bool false, .slice none 0 0, .bool false, .slice none 0 0]) rfl).puts 5 (.slice none 0 0) (cs' := #[.int .i64 2, .int .i64 0, .bool false, .slice none 0 0, .bool false, .slice none 0 0]) rfl)
    replace HA := HA.only ho (by have := Zh.out; have := Zh2.out; have := Z1.out; have := Z2.out; omega)
    replace HXS := HXS.only ho (by have := Zh.out; have := Zh2.out; have := Z1.out; have := Z2.out; omega)
    replace HX1 := HX1.only ho (by have := Zh.out; have := Zh2.out; have := Z1.out; have := Z2.out; omega)
    replace HB := Lib.hid (Below.only HB.out ho (by have := Zh.out; have := Zh2.out; have := Z1.out; have := Z2.out; omega) HB.out.size)
    have Z3 : Hid (U3.heap.size = w2.heap.size) := Lib.hid (by rw [hU3]; simp [World.setCell]); clear ho
    have q_0 := HX2.look 0
    have q_1 := HX2.look 1
    have q_2 := HX2.look 2
    have q_3 := HX2.look 3
    have q_4 := HX2.look 4
    have q_5 := HX2.look 5
    subst hU3
    exact bodyPost_ret (v := .agg #[.int .i64 2, .int .i64 0, .bool false, .slice none 0 0, .bool false, .slice none 0 0]) (by simp [results, Try.results41, go_sem, q_0, q_1, q_2, q_3, q_4, q_5]) rfl ⟨none, 0, 0, none, 0, 0, by rw [HV.out.1, HV.out.2.1, HV.out.2.2.1, HV.out.2.2.2.2.1], by rw [HV.out.2.2.2.1, HV.out.2.2.2.2.2]; exact QK.kept (QK.nil _ _ _ _ _) (Nat.le_refl _), HB.out, Nat.le_refl _⟩
  have HB := Lib.hid (Below.refl w.heap.size w)
  have HA := Rep.Sl.kept ha hh
  have Zh := Lib.hid hh
  have HXS := Rep.Sl.kept hx hh2
  have Zh2 := Lib.hid hh2
  have HR := Lib.hid h0
  have hq8 := qf_ok h0
  have hn8 : n ≤ 1000 := by have := hq8.2.2.1; omega
  have HPI := Lib.hid (PInv.of_qf h0)
  have hn100 : n2 ≤ 100 := by omega
  have hm2 : ¬ (100 : Int) < n2 := by omega
  have HLX := Lib.hid hl2
  obtain ⟨pc, hpc⟩ : ∃ z, (pushL cap xs mk ys).1 = z := ⟨_, rfl⟩
  obtain ⟨pm, hpm⟩ : ∃ z, (pushL cap xs mk ys).2.1 = z := ⟨_, rfl⟩
  obtain ⟨pu, hpu⟩ : ∃ z, (pushL cap xs mk ys).2.2 = z := ⟨_, rfl⟩
  have HV : Hid (paC cap mk ys xs = pc ∧ paX cap mk ys xs = (if pc = 0 then cap else 0) ∧ paP cap mk ys xs = pm ∧ paU cap mk ys xs = pu ∧ paT ys = false ∧ paZ ys = []) := Lib.hid (by refine ⟨?_, ?_, ?_, ?_, ?_, ?_⟩ <;> simp [paC, paX, paP, paU, paT, paZ, h0, h1, hpc, hpm, hpu])
  have HPL : Hid (pushL cap xs mk ys = (pc, pm, pu)) := Lib.hid (by rw [← hpc, ← hpm, ← hpu])
  clear h0 h1 hq8 hpc hpm hpu
  clear ha hl hh hx hl2 hh2
  go_enter Try.func41, Try.ntmps41
  go_wp2_with fail
  refine Calls.name ?_
  intro U1 hU1
  have hb : Below w.heap.size w U1 := by rw [hU1]; exact (((Below.refl _ _).alloc (Nat.le_refl _) _).alloc (by simp <;> omega) _)
  have zz : Hid (w.heap.size + 2 = U1.heap.size) := Lib.hid (by rw [hU1]; simp)
  have HX1 : Kept w.heap.size (w.heap.size + 1) (BoxK w.heap.size 59 #[.int .i64 cap, .bool mk, .slice A n c]) U1 := by rw [hU1]; exact Kept.box ((Box.made_at _ _ _ rfl).over _)
  have HX2 : Kept (w.heap.size + 1) (w.heap.size + 1 + 1) (BoxK (w.heap.size + 1) 63 #[.int .i64 0, .int .i64 0, .bool false, .slice none 0 0, .bool false, .slice none 0 0]) U1 := by rw [hU1]; exact Kept.box (Box.made_at _ _ _ (by simp <;> omega))
  replace HA := HA.below hb
  replace HXS := HXS.below hb
  replace HB := Lib.hid (below_step HB.out hb)
  clear hb
  have Z1 := zz; clear zz
  clear hU1
  refine (queueFault_any cap mk q lo hi A n c ys _ HA.sl HA.le hn hc).mono ?_
  rw [HR.out]
  rintro e w2 ⟨rfl, hb⟩
  have Z2 := Lib.hid hb.size
  replace HA := HA.below hb
  replace HXS := HXS.below hb
  replace HX1 := HX1.below hb
  replace HX2 := HX2.below hb
  replace HB := Lib.hid (below_step HB.out hb)
  clear hb
  have c2_0 := HX1.look 0
  have c2_1 := HX1.look 1
  have c2_2 := HX1.look 2
  have l2_0 := HX1.bx.lt
  have l2_1 := HX2.bx.lt
  go_wp2_with fail
  clear c2_0 c2_1 c2_2 l2_0 l2_1
  refine (backlogOf_any cap mk q lo hi A n c ys _ HA.sl HA.le hn8).mono ?_
  rintro e w3 ⟨g, E0, d0, rfl, hg, ho, hle, hb⟩
  have Z3 := Lib.hid hb.size
  replace HA := HA.below hb
  replace HXS := HXS.below hb
  replace HX1 := HX1.below hb
  replace HX2 := HX2.below hb
  replace HB := Lib.hid (below_step HB.out hb)
  clear hb
  have HG := Lib.hid hg.bx; have HO := Lib.hid ho.ownF; have Zg := Lib.hid hle; clear hg ho hle
  have Zg2 := Lib.hid HG.out.lt
  have l3_0 := HX1.bx.lt
  have l3_1 := HX2.bx.lt
  go_wp2
  clear l3_0 l3_1
  go_loopw [24] (fun i wr => ∃ (k : Nat) (E : Option Addr) (m d : Nat) (mk' : Bool) (ys' : List Tmr), k ≤ n2 ∧ i = .int .i64 k ∧ Hid (Box wr g 202 #[.int .i64 cap, .bool mk', .slice E m d]) ∧ Hid (OwnF 66 4 tcell wr (w2.heap.size) E m d ys') ∧ Hid (PInv cap ys') ∧ Hid (pushL cap xs mk ys = pushL cap (xs.drop k) mk' ys') ∧ Hid (Below (w2.heap.size) w3 wr)) (fun i _ => n2 - (intOf i).toNat)
  case atStart => exact ⟨0, E0, n, d0, mk, ys, Nat.zero_le _, rfl, HG, HO, HPI, Lib.hid rfl, Lib.hid (Below.refl _ _)⟩
  case round =>
    obtain ⟨k, E, m, d, mk', ys', hk, rfl, HG, HO, HPI, HPJ, HVB⟩ := hrel
    have ho := Below.only_from HVB.out
    have Z4 := Lib.hid ho.size
    replace HA := HA.only ho (by have := Zh.out; have := Zh2.out; have := Z1.out; have := Z2.out; have := Z3.out; have := Zg.out; have := Zg2.out; have := Z4.out; omega)
    replace HXS := HXS.only ho (by have := Zh.out; have := Zh2.out; have := Z1.out; have := Z2.out; have := Z3.out; have := Zg.out; have := Zg2.out; have := Z4.out; omega)
    replace HX1 := HX1.only ho (by have := Zh.out; have := Zh2.out; have := Z1.out; have := Z2.out; have := Z3.out; have := Zg.out; have := Zg2.out; have := Z4.out; omega)
    replace HX2 := HX2.only ho (by have := Zh.out; have := Zh2.out; have := Z1.out; have := Z2.out; have := Z3.out; have := Zg.out; have := Zg2.out; have := Z4.out; omega)
    replace HB := Lib.hid (Below.only HB.out ho (by have := Zh.out; have := Zh2.out; have := Z1.out; have := Z2.out; have := Z3.out; have := Zg.out; have := Zg2.out; have := Z4.out; omega) HB.out.size)
    clear ho
    have hm : m ≤ 100 := by have h1 := HO.out.1; have h2 := HPI.out.le; omega
    by_cases hlt : k < n2
    · obtain ⟨b, o, x, rfl, hya, x0, x1, x2, x3⟩ := Rep.timer_at HXS.sl hlt
      have hlt' : (k : Int) < n2 := by omega
      have HPK := Lib.hid (pushL_drop (cap := cap) hya mk' ys')
      clear hya
      obtain ⟨f, hf⟩ : ∃ z, fit ys' x = z := ⟨_, rfl⟩
      have HF := Lib.hid hf
      clear hf
      have l4_0 := HX1.bx.lt
      have l4_1 := HX2.bx.lt
      go_wp2_with fail
      clear l4_0 l4_1
      refine Calls.name ?_
      intro U4 hU4
      have hb : Below wr.heap.size wr U4 := by rw [hU4]; exact ((Below.refl _ _).alloc (Nat.le_refl _) _)
      have zz : Hid (wr.heap.size + 1 = U4.heap.size) := Lib.hid (by rw [hU4]; simp)
      have HX3 : Kept wr.heap.size (wr.heap.size + 1) (BoxK wr.heap.size 66 #[.int .i64 x.typ, .int .i64 x.id, .int .i64 x.adv, .int .i64 x.due]) U4 := by rw [hU4]; exact Kept.box (Box.made_at _ _ _ rfl)
      have HBU := Lib.hid hb
      replace HA := HA.below hb
      replace HXS := HXS.below hb
      replace HX1 := HX1.below hb
      replace HX2 := HX2.below hb
      replace HB := Lib.hid (below_step HB.out hb)
      clear hb
      have Z5 := zz; clear zz
      clear hU4
      clear x0 x1 x2 x3
      skip
      replace HG := Lib.hid (HG.out.below HBU.out); replace HO := Lib.hid (HO.out.below HBU.out)
      refine (itemFault_any cap mk' g (w2.heap.size) E m d ys' x _ HG.out HO.out (by omega)).mono ?_
      rw [HF.out]
      rintro e w5 ⟨rfl, hb⟩
      have Z6 := Lib.hid hb.size
      replace HA := HA.below hb
      replace HXS := HXS.below hb
      replace HX1 := HX1.below hb
      replace HX2 := HX2.below hb
      replace HX3 := HX3.below hb
      replace HB := Lib.hid (below_step HB.out hb)
      replace HG := Lib.hid (HG.out.below hb); replace HO := Lib.hid (HO.out.below hb)
      have HVW := Lib.hid ((HVB.out.trans (HBU.out.mono (by have := Zh.out; have := Zh2.out; have := Z1.out; have := Z2.out; have := Z3.out; have := Zg.out; have := Zg2.out; have := Z4.out; have := Z5.out; have := Z6.out; omega))).trans (hb.mono (by have := Zh.out; have := Zh2.out; have := Z1.out; have := Z2.out; have := Z3.out; have := Zg.out; have := Zg2.out; have := Z4.out; have := Z5.out; have := Z6.out; omega)))
      clear hb HBU HVB
      by_cases hfz : ¬ f = 0
      · have hf0 : (f != 0) = true := by simpa using hfz
        have HE : Hid (pc = f ∧ pm = false ∧ pu = []) := Lib.hid (by have h := HPL.out; rw [HPJ.out, HPK.out, HF.out, if_neg hfz] at h; injection h with h1 h2; injection h2 with h2 h3; exact ⟨h1.symm, h2.symm, h3.symm⟩)
        obtain ⟨rfl, rfl, rfl⟩ := HE.out
        have HV2 : Hid ((if pc = 0 then cap else 0) = 0) := Lib.hid (if_neg hfz)
        clear hfz
        have c5_0 := HX2.look 0
        have c5_1 := HX2.look 1
        have c5_2 := HX2.look 2
        have c5_3 := HX2.look 3
        have c5_4 := HX2.look 4
        have c5_5 := HX2.look 5
        have f5_0 := HX2.free 0
        have f5_1 := HX2.free 1
        have f5_2 := HX2.free 2
        have f5_3 := HX2.free 3
        have f5_4 := HX2.free 4
        have f5_5 := HX2.free 5
        have l5_0 := HX1.bx.lt
        have l5_1 := HX2.bx.lt
        have l5_2 := HX3.bx.lt
        go_wp2
        clear c5_0 c5_1 c5_2 c5_3 c5_4 c5_5 f5_0 f5_1 f5_2 f5_3 f5_4 f5_5 l5_0 l5_1 l5_2
        obtain ⟨U6, hU6⟩ : ∃ W : World, W = ((((((w5.setCell ⟨w.heap.size + 1, 0, none⟩ (.int .i64 pc)).setCell ⟨w.heap.size + 1, 1, none⟩ (.int .i64 0)).setCell ⟨w.heap.size + 1, 2, none⟩ (.bool false)).setCell ⟨w.heap.size + 1, 3, none⟩ (.slice none 0 0)).setCell ⟨w.heap.size + 1, 4, none⟩ (.bool false)).setCell ⟨w.heap.size + 1, 5, none⟩ (.slice none 0 0)) := ⟨_, rfl⟩
        have ho : Only (w.heap.size + 1) (w.heap.size + 1 + 1) w5 U6 := by rw [hU6]; exact (((((((Only.refl _ _ _).set (p := ⟨w.heap.size + 1, 0, none⟩) (Nat.le_refl _) (Nat.lt_succ_self _) _).set (p := ⟨w.heap.size + 1, 1, none⟩) (Nat.le_refl _) (Nat.lt_succ_self _) _).set (p := ⟨w.heap.size + 1, 2, none⟩) (Nat.le_refl _) (Nat.lt_succ_self _) _).set (p := ⟨w.heap.size + 1, 3, none⟩) (Nat.le_refl _) (Nat.lt_succ_self _) _).set (p := ⟨w.heap.size + 1, 4, none⟩) (Nat.le_refl _) (Nat.lt_succ_self _) _).set (p := ⟨w.heap.size + 1, 5, none⟩) (Nat.le_refl _) (Nat.lt_succ_self _) _)
        replace HX2 : Kept (w.heap.size + 1) (w.heap.size + 1 + 1) (BoxK (w.heap.size + 1) 63 #[.int .i64 pc, .int .i64 0, .bool false, .slice none 0 0, .bool false, .slice none 0 0]) U6 := by rw [hU6]; exact Kept.box ((((((HX2.bx.puts 0 (.int .i64 pc) (cs' := #[.int .i64 pc, .int .i64 0, .bool false, .slice none 0 0, .bool false, .slice none 0 0]) rfl).puts 1 (.int .i64 0) (cs' := #[.int .i64 pc, .int .i64 0, .bool false, .slice none 0 0, .bool false, .slice none 0 0]) rfl).puts 2 (.bool false) (cs' := #[.int .i64 pc, .int .i64 0, .bool false, .slice none 0 0, .bool false, .slice none 0 0]) rfl).puts 3 (.slice none 0 0) (cs' := #[.int .i64 pc, .int .i64 0, .bool false, .slice none 0 0, .bool false, .slice none 0 0]) rfl).puts 4 (.bool false) (cs' := #[.int .i64 pc, .int .i64 0, .bool false, .slice none 0 0, .bool false, .slice none 0 0]) rfl).puts 5 (.slice none 0 0) (cs' := #[.int .i64 pc, .int .i64 0, .bool false, .slice none 0 0, .bool false, .slice none 0 0]) rfl)
        replace HA := HA.only ho (by have := Zh.out; have := Zh2.out; have := Z1.out; have := Z2.out; have := Z3.out; have := Zg.out; have := Zg2.out; have := Z4.out; have := Z5.out; have := Z6.out; omega)
        replace HXS := HXS.only ho (by have := Zh.out; have := Zh2.out; have := Z1.out; have := Z2.out; have := Z3.out; have := Zg.out; have := Zg2.out; have := Z4.out; have := Z5.out; have := Z6.out; omega)
        replace HX1 := HX1.only ho (by have := Zh.out; have := Zh2.out; have := Z1.out; have := Z2.out; have := Z3.out; have := Zg.out; have := Zg2.out; have := Z4.out; have := Z5.out; have := Z6.out; omega)
        replace HX3 := HX3.only ho (by have := Zh.out; have := Zh2.out; have := Z1.out; have := Z2.out; have := Z3.out; have := Zg.out; have := Zg2.out; have := Z4.out; have := Z5.out; have := Z6.out; omega)
        replace HB := Lib.hid (Below.only HB.out ho (by have := Zh.out; have := Zh2.out; have := Z1.out; have := Z2.out; have := Z3.out; have := Zg.out; have := Zg2.out; have := Z4.out; have := Z5.out; have := Z6.out; omega) HB.out.size)
        have Z7 : Hid (U6.heap.size = w5.heap.size) := Lib.hid (by rw [hU6]; simp [World.setCell]); clear ho
        have q_0 := HX2.look 0
        have q_1 := HX2.look 1
        have q_2 := HX2.look 2
        have q_3 := HX2.look 3
        have q_4 := HX2.look 4
        have q_5 := HX2.look 5
        subst hU6
        exact bodyPost_ret (v := .agg #[.int .i64 pc, .int .i64 0, .bool false, .slice none 0 0, .bool false, .slice none 0 0]) (by simp [results, Try.results41, go_sem, q_0, q_1, q_2, q_3, q_4, q_5]) rfl ⟨none, 0, 0, none, 0, 0, by rw [HV.out.1, HV.out.2.1, HV.out.2.2.1, HV.out.2.2.2.2.1, HV2.out], by rw [HV.out.2.2.2.1, HV.out.2.2.2.2.2]; exact QK.kept (QK.nil _ _ _ _ _) (Nat.le_refl _), HB.out, Nat.le_refl _⟩
      · obtain rfl : f = 0 := Classical.byContradiction hfz
        have l5_0 := HX1.bx.lt
        have l5_1 := HX2.bx.lt
        have l5_2 := HX3.bx.lt
        go_wp2
        clear l5_0 l5_1 l5_2
        have V0 : Hid (Below w5.heap.size w5 w5.drew) := (Below.refl _ _).drew
        have t0 := HX3.look 0
        have t1 := HX3.look 1
        have t2 := HX3.look 2
        have t3 := HX3.look 3
        have tl := HX3.bx.lt
        have HBg : Hid (w2.heap.size ≤ g) := Lib.hid (by have := Zh.out; have := Zh2.out; have := Z1.out; have := Z2.out; have := Z3.out; have := Zg.out; have := Zg2.out; have := Z4.out; have := Z5.out; have := Z6.out; omega)
        have HBu : Hid (w2.heap.size ≤ w5.heap.size) := Lib.hid (by have := Zh.out; have := Zh2.out; have := Z1.out; have := Z2.out; have := Z3.out; have := Zg.out; have := Zg2.out; have := Z4.out; have := Z5.out; have := Z6.out; omega)
        have PK : Hid (Calls Try.prog 126 #[.agg #[.int .i64 x.typ, .int .i64 x.id, .int .i64 x.adv]] w5.drew fun e w' => e = .returned (ofKeyV w5.heap.size) ∧ Kept w5.heap.size (w5.heap.size + 1) (BoxK w5.heap.size 34 #[.int .i64 x.typ, .int .i64 x.id, .int .i64 x.adv]) w' ∧ Below w5.drew.heap.size w5.drew w') := Lib.hid (ofKey_any x w5.drew)
        go_region_law (first | ((show (if Region.wanted (Oper.mk (some 39) _ _ _ _ _) _ = true then _ else _)); go_simp; with_reducible refine PK.out.mono ?_; rintro e u1 ⟨rfl, hkb, hb⟩; have V1 := Lib.hid (below_step V0.out hb); have HK1 : Hid (Kept w5.heap.size (w5.heap.size + 1) (BoxK w5.heap.size 34 #[.int .i64 x.typ, .int .i64 x.id, .int .i64 x.adv]) u1) := Lib.hid hkb; have HG1 := Lib.hid (HG.out.below V1.out); have HO1 := Lib.hid (HO.out.below V1.out); have z0 := (HX3.below V1.out).look 0; have z1 := (HX3.below V1.out).look 1; have z2 := (HX3.below V1.out).look 2; have z3 := (HX3.below V1.out).look 3; have zl := (HX3.below V1.out).bx.lt; clear hkb hb) | ((show (if Region.wanted (Oper.mk (some 40) _ _ _ _ _) _ = true then _ else _)); go_simp; have PC := put_any cap mk' g (w2.heap.size) w5.heap.size E m d ys' x u1 HG1.out HO1.out HK1.out.bx hm HBg.out (Nat.le_trans HBu.out V1.out.size); with_reducible refine PC.mono ?_; clear PC; rintro e u2 ⟨rfl, A3, n3, c3, hg3, ho3, hb3⟩; have HG3 := Lib.hid hg3; have HO3 := Lib.hid ho3; have HB3 := Lib.hid hb3; clear hg3 ho3 hb3))
        all_goals
          have HVX := Lib.hid ((HVW.out.trans (V1.out.mono HBu.out)).trans HB3.out)
          have HPX := Lib.hid (PInv.put HPI.out HF.out)
          have HPN : Hid (pushL cap xs mk ys = pushL cap (xs.drop (k + 1)) (putM cap mk' ys' x) (putY cap ys' x)) := Lib.hid (by rw [HPJ.out, HPK.out, if_pos HF.out])
          clear t0 t1 t2 t3 tl z0 z1 z2 z3 zl
          go_wp2
          go_roundw
          case rel => exact ⟨k + 1, A3, n3, c3, putM cap mk' ys' x, putY cap ys' x, by omega, by go_num, HG3, HO3, HPX, HPN, HVX⟩
          case measure => simp [intOf]; omega
    · have HE : Hid (pc = 0 ∧ pm = mk' ∧ pu = ys') := Lib.hid (by have h := HPL.out; rw [HPJ.out, List.drop_of_length_le (by have := HLX.out; omega)] at h; injection h with h1 h2; injection h2 with h2 h3; exact ⟨h1.symm, h2.symm, h3.symm⟩)
      obtain ⟨rfl, rfl, rfl⟩ := HE.out
      have HOK := HO.out.kept rfl
      have HEM : Hid (OwnF 66 4 tcell wr (w2.heap.size) E m d pu) := HO
      have l4_0 := HX1.bx.lt
      have l4_1 := HX2.bx.lt
      go_wp2_with fail
      clear l4_0 l4_1
      refine (queueOf_any cap pm g E m d _ HG.out).mono ?_
      rintro e w4 ⟨rfl, hb⟩
      have Z5 := Lib.hid hb.size
      replace HA := HA.below hb
      replace HXS := HXS.below hb
      replace HX1 := HX1.below hb
      replace HX2 := HX2.below hb
      replace HOK := HOK.below hb
      replace HB := Lib.hid (below_step HB.out hb)
      clear hb
      have c5_0 := HX2.look 0
      have c5_1 := HX2.look 1
      have c5_2 := HX2.look 2
      have c5_3 := HX2.look 3
      have c5_4 := HX2.look 4
      have c5_5 := HX2.look 5
      have f5_0 := HX2.free 0
      have f5_1 := HX2.free 1
      have f5_2 := HX2.free 2
      have f5_3 := HX2.free 3
      have f5_4 := HX2.free 4
      have f5_5 := HX2.free 5
      have l5_0 := HX1.bx.lt
      have l5_1 := HX2.bx.lt
      go_wp2
      clear c5_0 c5_1 c5_2 c5_3 c5_4 c5_5 f5_0 f5_1 f5_2 f5_3 f5_4 f5_5 l5_0 l5_1
      obtain ⟨U5, hU5⟩ : ∃ W : World, W = ((((((w4.setCell ⟨w.heap.size + 1, 0, none⟩ (.int .i64 0)).setCell ⟨w.heap.size + 1, 1, none⟩ (.int .i64 cap)).setCell ⟨w.heap.size + 1, 2, none⟩ (.bool pm)).setCell ⟨w.heap.size + 1, 3, none⟩ (.slice E m d)).setCell ⟨w.heap.size + 1, 4, none⟩ (.bool false)).setCell ⟨w.heap.size + 1, 5, none⟩ (.slice none 0 0)) := ⟨_, rfl⟩
      have ho : Only (w.heap.size + 1) (w.heap.size + 1 + 1) w4 U5 := by rw [hU5]; exact (((((((Only.refl _ _ _).set (p := ⟨w.heap.size + 1, 0, none⟩) (Nat.le_refl _) (Nat.lt_succ_self _) _).set (p := ⟨w.heap.size + 1, 1, none⟩) (Nat.le_refl _) (Nat.lt_succ_self _) _).set (p := ⟨w.heap.size + 1, 2, none⟩) (Nat.le_refl _) (Nat.lt_succ_self _) _).set (p := ⟨w.heap.size + 1, 3, none⟩) (Nat.le_refl _) (Nat.lt_succ_self _) _).set (p := ⟨w.heap.size + 1, 4, none⟩) (Nat.le_refl _) (Nat.lt_succ_self _) _).set (p := ⟨w.heap.size + 1, 5, none⟩) (Nat.le_refl _) (Nat.lt_succ_self _) _)
      replace HX2 : Kept (w.heap.size + 1) (w.heap.size + 1 + 1) (BoxK (w.heap.size + 1) 63 #[.int .i64 0, .int .i64 cap, .bool pm, .slice E m d, .bool false, .slice none 0 0]) U5 := by rw [hU5]; exact Kept.box ((((((HX2.bx.puts 0 (.int .i64 0) (cs' := #[.int .i64 0, .int .i64 0, .bool false, .slice none 0 0, .bool false, .slice none 0 0]) rfl).puts 1 (.int .i64 cap) (cs' := #[.int .i64 0, .int .i64 cap, .bool false, .slice none 0 0, .bool false, .slice none 0 0]) rfl).puts 2 (.bool pm) (cs' := #[.int .i64 0, .int .i64 cap, .bool pm, .slice none 0 0, .bool false, .slice none 0 0]) rfl).puts 3 (.slice E m d) (cs' := #[.int .i64 0, .int .i64 cap, .bool pm, .slice E m d, .bool false, .slice none 0 0]) rfl).puts 4 (.bool false) (cs' := #[.int .i64 0, .int .i64 cap, .bool pm, .slice E m d, .bool false, .slice none 0 0]) rfl).puts 5 (.slice none 0 0) (cs' := #[.int .i64 0, .int .i64 cap, .bool pm, .slice E m d, .bool false, .slice none 0 0]) rfl)
      replace HA := HA.only ho (by have := Zh.out; have := Zh2.out; have := Z1.out; have := Z2.out; have := Z3.out; have := Zg.out; have := Zg2.out; have := Z4.out; have := Z5.out; omega)
      replace HXS := HXS.only ho (by have := Zh.out; have := Zh2.out; have := Z1.out; have := Z2.out; have := Z3.out; have := Zg.out; have := Zg2.out; have := Z4.out; have := Z5.out; omega)
      replace HX1 := HX1.only ho (by have := Zh.out; have := Zh2.out; have := Z1.out; have := Z2.out; have := Z3.out; have := Zg.out; have := Zg2.out; have := Z4.out; have := Z5.out; omega)
      replace HOK := HOK.only ho (by have := Zh.out; have := Zh2.out; have := Z1.out; have := Z2.out; have := Z3.out; have := Zg.out; have := Zg2.out; have := Z4.out; have := Z5.out; omega)
      replace HB := Lib.hid (Below.only HB.out ho (by have := Zh.out; have := Zh2.out; have := Z1.out; have := Z2.out; have := Z3.out; have := Zg.out; have := Zg2.out; have := Z4.out; have := Z5.out; omega) HB.out.size)
      have Z6 : Hid (U5.heap.size = w4.heap.size) := Lib.hid (by rw [hU5]; simp [World.setCell]); clear ho
      have q_0 := HX2.look 0
      have q_1 := HX2.look 1
      have q_2 := HX2.look 2
      have q_3 := HX2.look 3
      have q_4 := HX2.look 4
      have q_5 := HX2.look 5
      subst hU5
      exact bodyPost_ret (v := .agg #[.int .i64 0, .int .i64 cap, .bool pm, .slice E m d, .bool false, .slice none 0 0]) (by simp [results, Try.results41, go_sem, q_0, q_1, q_2, q_3, q_4, q_5]) rfl ⟨E, m, d, none, 0, 0, by rw [HV.out.1, HV.out.2.1, HV.out.2.2.1, HV.out.2.2.2.2.1]; rfl, by rw [HV.out.2.2.2.1, HV.out.2.2.2.2.2]; exact QK.kept (QK.of_own (HOK.ownF.mono (by have := Zh.out; have := Zh2.out; have := Z1.out; have := Z2.out; have := Z3.out; have := Zg.out; have := Zg2.out; have := Z4.out; have := Z5.out; have := Z6.out; omega)) (OwnF.nil_ _ _ _ _ _) (fun r _ h => by cases h)) (Nat.le_refl _), HB.out, OwnF.room HOK.ownF⟩


end Go.Proofs.Ytiffhjofabaflaa

namespace Go.Proofs.Ytiffhjofabaflaa
open Go.RowKit
set_option linter.unusedVariables false

theorem l6Fits_below (cap : Int) (mk : Bool) (g b o : Nat) (q : Bool) (lo hi : Nat) (A : Option Addr) (n c : Nat) (ys : List Tmr) (x : Tmr) (w : World) (hg : Box w g 59 #[.int .i64 cap, .bool mk, .slice A n c]) (ha : Rep.timer.Sl q lo hi w A n ys) (hn : n ≤ 1000) (hx : w.cell? ⟨b, o + 3, none⟩ = some (.int .i64 x.due)) (hu : ups (revs ys)) :
    Calls Try.prog 132 #[.pointer (some ⟨g, 0, none⟩), .pointer (some ⟨b, o, none⟩)] w fun e w' => e = .returned (.int .i64 (fit ys x)) ∧ Below w.heap.size w w' :=
  (l6Fits_any cap mk g b o q lo hi A n c ys x w hg ha hn hx hu).mono fun e w' h => by obtain ⟨h1, m, rfl⟩ := h; exact ⟨h1, below_drewN (Below.refl _ _) _⟩

set_option maxRecDepth 100000 in
set_option maxHeartbeats 6400000 in
theorem specPushAll_any (cap : Int) (mk : Bool) (q : Bool) (lo hi : Nat) (A : Option Addr) (n c : Nat) (ys : List Tmr) (q2 : Bool) (lo2 hi2 : Nat) (A2 : Option Addr) (n2 c2 : Nat) (xs : List Tmr) (w : World) (ha : Rep.timer.Sl q lo hi w A n ys) (hh : hi ≤ w.heap.size) (hn : n ≤ 1048576) (hx : Rep.timer.Sl q2 lo2 hi2 w A2 n2 xs) (hh2 : hi2 ≤ w.heap.size) (hn2 : n2 ≤ 1048576) :
    Calls Try.prog 48 #[.agg #[.int .i64 cap, .bool mk, .slice A n c], .slice A2 n2 c2] w fun e w' => ∃ O j k E m d, e = .returned (.agg #[.int .i64 (paC cap mk ys xs), .int .i64 (paX cap mk ys xs), .bool (paP cap mk ys xs), .slice O j k, .bool (paT ys), .slice E m d]) ∧ Kept w.heap.size w'.heap.size (QK w.heap.size w'.heap.size O j (paU cap mk ys xs) E m (paZ ys)) w' ∧ Below w.heap.size w w' := by
  have hl := ha.1
  have hl2 := hx.1
  by_cases h0 : ¬ qf cap ys = 0
  · have HB := Lib.hid (Below.refl w.heap.size w)
    have HA := Rep.Sl.kept ha hh
    have Zh := Lib.hid hh
    have HXS := Rep.Sl.kept hx hh2
    have Zh2 := Lib.hid hh2
    obtain ⟨r, hr⟩ : ∃ z, qf cap ys = z := ⟨_, rfl⟩
    have HR := Lib.hid hr
    have h0r : ¬ r = 0 := by rw [← hr]; exact h0
    have hr0 : (r != 0) = true := by simpa using h0r
    have HV : Hid (paC cap mk ys xs = r ∧ paX cap mk ys xs = 0 ∧ paP cap mk ys xs = false ∧ paU cap mk ys xs = [] ∧ paT ys = false ∧ paZ ys = []) := Lib.hid (by refine ⟨?_, ?_, ?_, ?_, ?_, ?_⟩ <;> simp [paC, paX, paP, paU, paT, paZ, hr, h0r])
    clear h0 hr h0r
    clear ha hl hh hx hl2 hh2
    go_enter Try.func48, Try.ntmps48
    go_wp2_with fail
    refine Calls.name ?_
    intro U1 hU1
    have hb : Below w.heap.size w U1 := by rw [hU1]; exact (((Below.refl _ _).alloc (Nat.le_refl _) _).alloc (by simp <;> omega) _)
    have zz : Hid (w.heap.size + 2 = U1.heap.size) := Lib.hid (by rw [hU1]; simp)
    have HX1 : Kept w.heap.size (w.heap.size + 1) (BoxK w.heap.size 59 #[.int .i64 cap, .bool mk, .slice A n c]) U1 := by rw [hU1]; exact Kept.box ((Box.made_at _ _ _ rfl).over _)
    have HX2 : Kept (w.heap.size + 1) (w.heap.size + 1 + 1) (BoxK (w.heap.size + 1) 63 #[.int .i64 0, .int .i64 0, .bool false, .slice none 0 0, .bool false, .slice none 0 0]) U1 := by rw [hU1]; exact Kept.box (Box.made_at _ _ _ (by simp <;> omega))
    replace HA := HA.below hb
    replace HXS := HXS.below hb
    replace HB := Lib.hid (below_step HB.out hb)
    clear hb
    have Z1 := zz; clear zz
    clear hU1
    refine (specQueueFault_any cap mk q lo hi A n c ys _ HA.sl HA.le hn).mono ?_
    rw [HR.out]
    rintro e w2 ⟨rfl, hb⟩
    have Z2 := Lib.hid hb.size
    replace HA := HA.below hb
    replace HXS := HXS.below hb
    replace HX1 := HX1.below hb
    replace HX2 := HX2.below hb
    replace HB := Lib.hid (below_step HB.out hb)
    clear hb
    have c2_0 := HX2.look 0
    have c2_1 := HX2.look 1
    have c2_2 := HX2.look 2
    have c2_3 := HX2.look 3
    have c2_4 := HX2.look 4
    have c2_5 := HX2.look 5
    have f2_0 := HX2.free 0
    have f2_1 := HX2.free 1
    have f2_2 := HX2.free 2
    have f2_3 := HX2.free 3
    have f2_4 := HX2.free 4
    have f2_5 := HX2.free 5
    have l2_0 := HX1.bx.lt
    have l2_1 := HX2.bx.lt
    go_wp2
    clear c2_0 c2_1 c2_2 c2_3 c2_4 c2_5 f2_0 f2_1 f2_2 f2_3 f2_4 f2_5 l2_0 l2_1
    obtain ⟨U3, hU3⟩ : ∃ W : World, W = ((((((w2.setCell ⟨w.heap.size + 1, 0, none⟩ (.int .i64 r)).setCell ⟨w.heap.size + 1, 1, none⟩ (.int .i64 0)).setCell ⟨w.heap.size + 1, 2, none⟩ (.bool false)).setCell ⟨w.heap.size + 1, 3, none⟩ (.slice none 0 0)).setCell ⟨w.heap.size + 1, 4, none⟩ (.bool false)).setCell ⟨w.heap.size + 1, 5, none⟩ (.slice none 0 0)) := ⟨_, rfl⟩
    have ho : Only (w.heap.size + 1) (w.heap.size + 1 + 1) w2 U3 := by rw [hU3]; exact (((((((Only.refl _ _ _).set (p := ⟨w.heap.size + 1, 0, none⟩) (Nat.le_refl _) (Nat.lt_succ_self _) _).set (p := ⟨w.heap.size + 1, 1, none⟩) (Nat.le_refl _) (Nat.lt_succ_self _) _).set (p := ⟨w.heap.size + 1, 2, none⟩) (Nat.le_refl _) (Nat.lt_succ_self _) _).set (p := ⟨w.heap.size + 1, 3, none⟩) (Nat.le_refl _) (Nat.lt_succ_self _) _).set (p := ⟨w.heap.size + 1, 4, none⟩) (Nat.le_refl _) (Nat.lt_succ_self _) _).set (p := ⟨w.heap.size + 1, 5, none⟩) (Nat.le_refl _) (Nat.lt_succ_self _) _)
    replace HX2 : Kept (w.heap.size + 1) (w.heap.size + 1 + 1) (BoxK (w.heap.size + 1) 63 #[.int .i64 r, .int .i64 0, .bool false, .slice none 0 0, .bool false, .slice none 0 0]) U3 := by rw [hU3]; exact Kept.box ((((((HX2.bx.puts 0 (.int .i64 r) (cs' := #[.int .i64 r, .int .i64 0, .bool false, .slice none 0 0, .bool false, .slice none 0 0]) rfl).puts 1 (.int .i64 0) (cs' := #[.int .i64 r, .int .i64 0, .bool false, .slice none 0 0, .bool false, .slice none 0 0]) rfl).puts 2 (.bool false) (cs' := #[.int .i64 r, .int .i64 0, .bool false, .slice none 0 0, .bool false, .slice none 0 0]) rfl).puts 3 (.slice none 0 0) (cs' := #[.int .i64 r, .int .i64 0, .bool false, .slice none 0 0, .bool false, .slice none 0 0]) rfl).puts 4 (.bool false) (cs' := #[.int .i64 r, .int .i64 0, .bool false, .slice none 0 0, .bool false, .slice none 0 0]) rfl).puts 5 (.slice none 0 0) (cs' := #[.int .i64 r, .int .i64 0, .bool false, .slice none 0 0, .bool false, .slice none 0 0]) rfl)
    replace HA := HA.only ho (by have := Zh.out; have := Zh2.out; have := Z1.out; have := Z2.out; omega)
    replace HXS := HXS.only ho (by have := Zh.out; have := Zh2.out; have := Z1.out; have := Z2.out; omega)
    replace HX1 := HX1.only ho (by have := Zh.out; have := Zh2.out; have := Z1.out; have := Z2.out; omega)
    replace HB := Lib.hid (Below.only HB.out ho (by have := Zh.out; have := Zh2.out; have := Z1.out; have := Z2.out; omega) HB.out.size)
    have Z3 : Hid (U3.heap.size = w2.heap.size) := Lib.hid (by rw [hU3]; simp [World.setCell]); clear ho
    have q_0 := HX2.look 0
    have q_1 := HX2.look 1
    have q_2 := HX2.look 2
    have q_3 := HX2.look 3
    have q_4 := HX2.look 4
    have q_5 := HX2.look 5
    subst hU3
    exact bodyPost_ret (v := .agg #[.int .i64 r, .int .i64 0, .bool false, .slice none 0 0, .bool false, .slice none 0 0]) (by simp [results, Try.results48, go_sem, q_0, q_1, q_2, q_3, q_4, q_5]) rfl ⟨none, 0, 0, none, 0, 0, by rw [HV.out.1, HV.out.2.1, HV.out.2.2.1, HV.out.2.2.2.2.1], by rw [HV.out.2.2.2.1, HV.out.2.2.2.2.2]; exact QK.kept (QK.nil _ _ _ _ _) (Nat.le_refl _), HB.out⟩
  have h0 : qf cap ys = 0 := Classical.byContradiction h0
  by_cases h1 : 100 < xs.length
  · have HB := Lib.hid (Below.refl w.heap.size w)
    have HA := Rep.Sl.kept ha hh
    have Zh := Lib.hid hh
    have HXS := Rep.Sl.kept hx hh2
    have Zh2 := Lib.hid hh2
    have HR := Lib.hid h0
    have hm1 : 100 < n2 := by omega
    have hm2 : (100 : Int) < n2 := by omega
    have HV : Hid (paC cap mk ys xs = 2 ∧ paX cap mk ys xs = 0 ∧ paP cap mk ys xs = false ∧ paU cap mk ys xs = [] ∧ paT ys = false ∧ paZ ys = []) := Lib.hid (by refine ⟨?_, ?_, ?_, ?_, ?_, ?_⟩ <;> simp [paC, paX, paP, paU, paT, paZ, h0, h1])
    clear h0 h1 hm1
    clear ha hl hh hx hl2 hh2
    go_enter Try.func48, Try.ntmps48
    go_wp2_with fail
    refine Calls.name ?_
    intro U1 hU1
    have hb : Below w.heap.size w U1 := by rw [hU1]; exact (((Below.refl _ _).alloc (Nat.le_refl _) _).alloc (by simp <;> omega) _)
    have zz : Hid (w.heap.size + 2 = U1.heap.size) := Lib.hid (by rw [hU1]; simp)
    have HX1 : Kept w.heap.size (w.heap.size + 1) (BoxK w.heap.size 59 #[.int .i64 cap, .bool mk, .slice A n c]) U1 := by rw [hU1]; exact Kept.box ((Box.made_at _ _ _ rfl).over _)
    have HX2 : Kept (w.heap.size + 1) (w.heap.size + 1 + 1) (BoxK (w.heap.size + 1) 63 #[.int .i64 0, .int .i64 0, .bool false, .slice none 0 0, .bool false, .slice none 0 0]) U1 := by rw [hU1]; exact Kept.box (Box.made_at _ _ _ (by simp <;> omega))
    replace HA := HA.below hb
    replace HXS := HXS.below hb
    replace HB := Lib.hid (below_step HB.out hb)
    clear hb
    have Z1 := zz; clear zz
    clear hU1
    refine (specQueueFault_any cap mk q lo hi A n c ys _ HA.sl HA.le hn).mono ?_
    rw [HR.out]
    rintro e w2 ⟨rfl, hb⟩
    have Z2 := Lib.hid hb.size
    replace HA := HA.below hb
    replace HXS := HXS.below hb
    replace HX1 := HX1.below hb
    replace HX2 := HX2.below hb
    replace HB := Lib.hid (below_step HB.out hb)
    clear hb
    have c2_0 := HX2.look 0
    have c2_1 := HX2.look 1
    have c2_2 := HX2.look 2
    have c2_3 := HX2.look 3
    have c2_4 := HX2.look 4
    have c2_5 := HX2.look 5
    have f2_0 := HX2.free 0
    have f2_1 := HX2.free 1
    have f2_2 := HX2.free 2
    have f2_3 := HX2.free 3
    have f2_4 := HX2.free 4
    have f2_5 := HX2.free 5
    have l2_0 := HX1.bx.lt
    have l2_1 := HX2.bx.lt
    go_wp2
    clear c2_0 c2_1 c2_2 c2_3 c2_4 c2_5 f2_0 f2_1 f2_2 f2_3 f2_4 f2_5 l2_0 l2_1
    obtain ⟨U3, hU3⟩ : ∃ W : World, W = ((((((w2.setCell ⟨w.heap.size + 1, 0, none⟩ (.int .i64 2)).setCell ⟨w.heap.size + 1, 1, none⟩ (.int .i64 0)).setCell ⟨w.heap.size + 1, 2, none⟩ (.bool false)).setCell ⟨w.heap.size + 1, 3, none⟩ (.slice none 0 0)).setCell ⟨w.heap.size + 1, 4, none⟩ (.bool false)).setCell ⟨w.heap.size + 1, 5, none⟩ (.slice none 0 0)) := ⟨_, rfl⟩
    have ho : Only (w.heap.size + 1) (w.heap.size + 1 + 1) w2 U3 := by rw [hU3]; exact (((((((Only.refl _ _ _).set (p := ⟨w.heap.size + 1, 0, none⟩) (Nat.le_refl _) (Nat.lt_succ_self _) _).set (p := ⟨w.heap.size + 1, 1, none⟩) (Nat.le_refl _) (Nat.lt_succ_self _) _).set (p := ⟨w.heap.size + 1, 2, none⟩) (Nat.le_refl _) (Nat.lt_succ_self _) _).set (p := ⟨w.heap.size + 1, 3, none⟩) (Nat.le_refl _) (Nat.lt_succ_self _) _).set (p := ⟨w.heap.size + 1, 4, none⟩) (Nat.le_refl _) (Nat.lt_succ_self _) _).set (p := ⟨w.heap.size + 1, 5, none⟩) (Nat.le_refl _) (Nat.lt_succ_self _) _)
    replace HX2 : Kept (w.heap.size + 1) (w.heap.size + 1 + 1) (BoxK (w.heap.size + 1) 63 #[.int .i64 2, .int .i64 0, .bool false, .slice none 0 0, .bool false, .slice none 0 0]) U3 := by rw [hU3]; exact Kept.box ((((((HX2.bx.puts 0 (.int .i64 2) (cs' := #[.int .i64 2, .int .i64 0, .bool false, .slice none 0 0, .bool false, .slice none 0 0]) rfl).puts 1 (.int .i64 0) (cs' := #[.int .i64 2, .int .i64 0, .bool false, .slice none 0 0, .bool false, .slice none 0 0]) rfl).puts 2 (.bool false) (cs' := #[.int .i64 2, .int .i64 0, .bool false, .slice none 0 0, .bool false, .slice none 0 0]) rfl).puts 3 (.slice none 0 0) (cs' := #[.int .i64 2, .int .i64 0, .bool false, .slice none 0 0, .bool false, .slice none 0 0]) rfl).puts 4 (.bool false) (cs' := #[.int .i64 2, .int .i64 0, .bool false, .slice none 0 0, .bool false, .slice none 0 0]) rfl).puts 5 (.slice none 0 0) (cs' := #[.int .i64 2, .int .i64 0, .bool false, .slice none 0 0, .bool false, .slice none 0 0]) rfl)
    replace HA := HA.only ho (by have := Zh.out; have := Zh2.out; have := Z1.out; have := Z2.out; omega)
    replace HXS := HXS.only ho (by have := Zh.out; have := Zh2.out; have := Z1.out; have := Z2.out; omega)
    replace HX1 := HX1.only ho (by have := Zh.out; have := Zh2.out; have := Z1.out; have := Z2.out; omega)
    replace HB := Lib.hid (Below.only HB.out ho (by have := Zh.out; have := Zh2.out; have := Z1.out; have := Z2.out; omega) HB.out.size)
    have Z3 : Hid (U3.heap.size = w2.heap.size) := Lib.hid (by rw [hU3]; simp [World.setCell]); clear ho
    have q_0 := HX2.look 0
    have q_1 := HX2.look 1
    have q_2 := HX2.look 2
    have q_3 := HX2.look 3
    have q_4 := HX2.look 4
    have q_5 := HX2.look 5
    subst hU3
    exact bodyPost_ret (v := .agg #[.int .i64 2, .int .i64 0, .bool false, .slice none 0 0, .bool false, .slice none 0 0]) (by simp [results, Try.results48, go_sem, q_0, q_1, q_2, q_3, q_4, q_5]) rfl ⟨none, 0, 0, none, 0, 0, by rw [HV.out.1, HV.out.2.1, HV.out.2.2.1, HV.out.2.2.2.2.1], by rw [HV.out.2.2.2.1, HV.out.2.2.2.2.2]; exact QK.kept (QK.nil _ _ _ _ _) (Nat.le_refl _), HB.out⟩
  have HB := Lib.hid (Below.refl w.heap.size w)
  have HA := Rep.Sl.kept ha hh
  have Zh := Lib.hid hh
  have HXS := Rep.Sl.kept hx hh2
  have Zh2 := Lib.hid hh2
  have HR := Lib.hid h0
  have hq8 := qf_ok h0
  have hn8 : n ≤ 1000 := by have := hq8.2.2.1; omega
  have HPI := Lib.hid (PInv.of_qf h0)
  have hn100 : n2 ≤ 100 := by omega
  have hm2 : ¬ (100 : Int) < n2 := by omega
  have HLX := Lib.hid hl2
  obtain ⟨pc, hpc⟩ : ∃ z, (pushL cap xs mk ys).1 = z := ⟨_, rfl⟩
  obtain ⟨pm, hpm⟩ : ∃ z, (pushL cap xs mk ys).2.1 = z := ⟨_, rfl⟩
  obtain ⟨pu, hpu⟩ : ∃ z, (pushL cap xs mk ys).2.2 = z := ⟨_, rfl⟩
  have HV : Hid (paC cap mk ys xs = pc ∧ paX cap mk ys xs = (if pc = 0 then cap else 0) ∧ paP cap mk ys xs = pm ∧ paU cap mk ys xs = pu ∧ paT ys = false ∧ paZ ys = []) := Lib.hid (by refine ⟨?_, ?_, ?_, ?_, ?_, ?_⟩ <;> simp [paC, paX, paP, paU, paT, paZ, h0, h1, hpc, hpm, hpu])
  have HPL : Hid (pushL cap xs mk ys = (pc, pm, pu)) := Lib.hid (by rw [← hpc, ← hpm, ← hpu])
  clear h0 h1 hq8 hpc hpm hpu
  clear ha hl hh hx hl2 hh2
  go_enter Try.func48, Try.ntmps48
  go_wp2_with fail
  refine Calls.name ?_
  intro U1 hU1
  have hb : Below w.heap.size w U1 := by rw [hU1]; exact (((Below.refl _ _).alloc (Nat.le_refl _) _).alloc (by simp <;> omega) _)
  have zz : Hid (w.heap.size + 2 = U1.heap.size) := Lib.hid (by rw [hU1]; simp)
  have HX1 : Kept w.heap.size (w.heap.size + 1) (BoxK w.heap.size 59 #[.int .i64 cap, .bool mk, .slice A n c]) U1 := by rw [hU1]; exact Kept.box ((Box.made_at _ _ _ rfl).over _)
  have HX2 : Kept (w.heap.size + 1) (w.heap.size + 1 + 1) (BoxK (w.heap.size + 1) 63 #[.int .i64 0, .int .i64 0, .bool false, .slice none 0 0, .bool false, .slice none 0 0]) U1 := by rw [hU1]; exact Kept.box (Box.made_at _ _ _ (by simp <;> omega))
  replace HA := HA.below hb
  replace HXS := HXS.below hb
  replace HB := Lib.hid (below_step HB.out hb)
  clear hb
  have Z1 := zz; clear zz
  clear hU1
  refine (specQueueFault_any cap mk q lo hi A n c ys _ HA.sl HA.le hn).mono ?_
  rw [HR.out]
  rintro e w2 ⟨rfl, hb⟩
  have Z2 := Lib.hid hb.size
  replace HA := HA.below hb
  replace HXS := HXS.below hb
  replace HX1 := HX1.below hb
  replace HX2 := HX2.below hb
  replace HB := Lib.hid (below_step HB.out hb)
  clear hb
  have l2_0 := HX1.bx.lt
  have l2_1 := HX2.bx.lt
  go_wp2_with fail
  clear l2_0 l2_1
  refine (l6Copy_any cap mk w.heap.size q lo hi A n c ys _ HX1.bx HA.sl HA.le hn8).mono ?_
  rintro e w3 ⟨E0, d0, rfl, ho, hb⟩
  have Z3 := Lib.hid hb.size
  replace HA := HA.below hb
  replace HXS := HXS.below hb
  replace HX1 := HX1.below hb
  replace HX2 := HX2.below hb
  replace HB := Lib.hid (below_step HB.out hb)
  clear hb
  have HO := ho; clear ho
  have l3_0 := HX1.bx.lt
  have l3_1 := HX2.bx.lt
  go_wp2
  clear l3_0 l3_1
  refine Code.wp_name ?_
  intro U4 hU4
  have hb : Below w3.heap.size w3 U4 := by rw [hU4]; exact ((Below.refl _ _).alloc (Nat.le_refl _) _)
  have zz : Hid (w3.heap.size + 1 = U4.heap.size) := Lib.hid (by rw [hU4]; simp)
  have HX3 : Kept w3.heap.size (w3.heap.size + 1) (BoxK w3.heap.size 59 #[.int .i64 cap, .bool mk, .slice E0 n d0]) U4 := by rw [hU4]; exact Kept.box (Box.made_at _ _ _ rfl)
  replace HA := HA.below hb
  replace HXS := HXS.below hb
  replace HX1 := HX1.below hb
  replace HX2 := HX2.below hb
  replace HO := HO.below hb
  replace HB := Lib.hid (below_step HB.out hb)
  clear hb
  have Z4 := zz; clear zz
  clear hU4
  have HQ0 := Lib.hid HX3.bx; have HO0 := Lib.hid HO.ownF
  have Zq := Lib.hid HX3.le; clear HX3 HO
  go_loopw [7] (fun i wr => ∃ (k : Nat) (E : Option Addr) (m d : Nat) (mk' : Bool) (ys' : List Tmr), k ≤ n2 ∧ i = .int .i64 k ∧ Hid (Box wr (w3.heap.size) 59 #[.int .i64 cap, .bool mk', .slice E m d]) ∧ Hid (OwnF 66 4 tcell wr (w2.heap.size) E m d ys') ∧ Hid (PInv cap ys') ∧ Hid (pushL cap xs mk ys = pushL cap (xs.drop k) mk' ys') ∧ Hid (Only (w3.heap.size) (w3.heap.size + 1) U4 wr)) (fun i _ => n2 - (intOf i).toNat)
  case atStart => exact ⟨0, E0, n, d0, mk, ys, Nat.zero_le _, rfl, HQ0, HO0, HPI, Lib.hid rfl, Lib.hid (Only.refl _ _ _)⟩
  case round =>
    obtain ⟨k, E, m, d, mk', ys', hk, rfl, HQ, HO, HPI, HPJ, HVB⟩ := hrel
    have ho := HVB.out
    have Z5 := Lib.hid ho.size
    replace HA := HA.only ho (by have := Zh.out; have := Zh2.out; have := Z1.out; have := Z2.out; have := Z3.out; have := Z4.out; have := Zq.out; have := Z5.out; omega)
    replace HXS := HXS.only ho (by have := Zh.out; have := Zh2.out; have := Z1.out; have := Z2.out; have := Z3.out; have := Z4.out; have := Zq.out; have := Z5.out; omega)
    replace HX1 := HX1.only ho (by have := Zh.out; have := Zh2.out; have := Z1.out; have := Z2.out; have := Z3.out; have := Z4.out; have := Zq.out; have := Z5.out; omega)
    replace HX2 := HX2.only ho (by have := Zh.out; have := Zh2.out; have := Z1.out; have := Z2.out; have := Z3.out; have := Z4.out; have := Zq.out; have := Z5.out; omega)
    replace HB := Lib.hid (Below.only HB.out ho (by have := Zh.out; have := Zh2.out; have := Z1.out; have := Z2.out; have := Z3.out; have := Z4.out; have := Zq.out; have := Z5.out; omega) HB.out.size)
    clear ho
    replace HQ := Kept.box HQ.out
    have hm : m ≤ 100 := by have h1 := HO.out.1; have h2 := HPI.out.le; omega
    have hmc : (ys'.length : Int) ≤ cap := HPI.out.2.1
    by_cases hlt : k < n2
    · obtain ⟨b, o, x, rfl, hya, x0, x1, x2, x3⟩ := Rep.timer_at HXS.sl hlt
      have hlt' : (k : Int) < n2 := by omega
      have HPK := Lib.hid (pushL_drop (cap := cap) hya mk' ys')
      clear hya
      obtain ⟨f, hf⟩ : ∃ z, fit ys' x = z := ⟨_, rfl⟩
      have HF := Lib.hid hf
      clear hf
      have l4_0 := HX1.bx.lt
      have l4_1 := HX2.bx.lt
      have l4_2 := HQ.bx.lt
      go_wp2_with fail
      clear l4_0 l4_1 l4_2
      refine (l6Fits_below cap mk' (w3.heap.size) b (o + k * 4) true _ _ E m d ys' x _ HQ.bx (own_items HO.out) (by omega) x3 HPI.out.2.2).mono ?_
      rw [HF.out]
      rintro e w5 ⟨rfl, hb⟩
      have Z6 := Lib.hid hb.size
      replace x0 := (hb.cell (World.block_lt_of_cell? _ _ x0)).trans x0
      replace x1 := (hb.cell (World.block_lt_of_cell? _ _ x1)).trans x1
      replace x2 := (hb.cell (World.block_lt_of_cell? _ _ x2)).trans x2
      replace x3 := (hb.cell (World.block_lt_of_cell? _ _ x3)).trans x3
      have xl := World.block_lt_of_cell? _ _ x0
      replace HA := HA.below hb
      replace HXS := HXS.below hb
      replace HX1 := HX1.below hb
      replace HX2 := HX2.below hb
      replace HQ := HQ.below hb
      replace HB := Lib.hid (below_step HB.out hb)
      replace HO := Lib.hid (HO.out.below hb)
      replace HVB := Lib.hid (HVB.out.trans (Only.of_below hb _ _)); clear hb
      by_cases hfz : ¬ f = 0
      · have hf0 : (f != 0) = true := by simpa using hfz
        have HE : Hid (pc = f ∧ pm = false ∧ pu = []) := Lib.hid (by have h := HPL.out; rw [HPJ.out, HPK.out, HF.out, if_neg hfz] at h; injection h with h1 h2; injection h2 with h2 h3; exact ⟨h1.symm, h2.symm, h3.symm⟩)
        obtain ⟨rfl, rfl, rfl⟩ := HE.out
        have HV2 : Hid ((if pc = 0 then cap else 0) = 0) := Lib.hid (if_neg hfz)
        clear hfz x0 x1 x2 x3 xl
        have c5_0 := HX2.look 0
        have c5_1 := HX2.look 1
        have c5_2 := HX2.look 2
        have c5_3 := HX2.look 3
        have c5_4 := HX2.look 4
        have c5_5 := HX2.look 5
        have f5_0 := HX2.free 0
        have f5_1 := HX2.free 1
        have f5_2 := HX2.free 2
        have f5_3 := HX2.free 3
        have f5_4 := HX2.free 4
        have f5_5 := HX2.free 5
        have l5_0 := HX1.bx.lt
        have l5_1 := HX2.bx.lt
        have l5_2 := HQ.bx.lt
        go_wp2
        clear c5_0 c5_1 c5_2 c5_3 c5_4 c5_5 f5_0 f5_1 f5_2 f5_3 f5_4 f5_5 l5_0 l5_1 l5_2
        obtain ⟨U6, hU6⟩ : ∃ W : World, W = ((((((w5.setCell ⟨w.heap.size + 1, 0, none⟩ (.int .i64 pc)).setCell ⟨w.heap.size + 1, 1, none⟩ (.int .i64 0)).setCell ⟨w.heap.size + 1, 2, none⟩ (.bool false)).setCell ⟨w.heap.size + 1, 3, none⟩ (.slice none 0 0)).setCell ⟨w.heap.size + 1, 4, none⟩ (.bool false)).setCell ⟨w.heap.size + 1, 5, none⟩ (.slice none 0 0)) := ⟨_, rfl⟩
        have ho : Only (w.heap.size + 1) (w.heap.size + 1 + 1) w5 U6 := by rw [hU6]; exact (((((((Only.refl _ _ _).set (p := ⟨w.heap.size + 1, 0, none⟩) (Nat.le_refl _) (Nat.lt_succ_self _) _).set (p := ⟨w.heap.size + 1, 1, none⟩) (Nat.le_refl _) (Nat.lt_succ_self _) _).set (p := ⟨w.heap.size + 1, 2, none⟩) (Nat.le_refl _) (Nat.lt_succ_self _) _).set (p := ⟨w.heap.size + 1, 3, none⟩) (Nat.le_refl _) (Nat.lt_succ_self _) _).set (p := ⟨w.heap.size + 1, 4, none⟩) (Nat.le_refl _) (Nat.lt_succ_self _) _).set (p := ⟨w.heap.size + 1, 5, none⟩) (Nat.le_refl _) (Nat.lt_succ_self _) _)
        replace HX2 : Kept (w.heap.size + 1) (w.heap.size + 1 + 1) (BoxK (w.heap.size + 1) 63 #[.int .i64 pc, .int .i64 0, .bool false, .slice none 0 0, .bool false, .slice none 0 0]) U6 := by rw [hU6]; exact Kept.box ((((((HX2.bx.puts 0 (.int .i64 pc) (cs' := #[.int .i64 pc, .int .i64 0, .bool false, .slice none 0 0, .bool false, .slice none 0 0]) rfl).puts 1 (.int .i64 0) (cs' := #[.int .i64 pc, .int .i64 0, .bool false, .slice none 0 0, .bool false, .slice none 0 0]) rfl).puts 2 (.bool false) (cs' := #[.int .i64 pc, .int .i64 0, .bool false, .slice none 0 0, .bool false, .slice none 0 0]) rfl).puts 3 (.slice none 0 0) (cs' := #[.int .i64 pc, .int .i64 0, .bool false, .slice none 0 0, .bool false, .slice none 0 0]) rfl).puts 4 (.bool false) (cs' := #[.int .i64 pc, .int .i64 0, .bool false, .slice none 0 0, .bool false, .slice none 0 0]) rfl).puts 5 (.slice none 0 0) (cs' := #[.int .i64 pc, .int .i64 0, .bool false, .slice none 0 0, .bool false, .slice none 0 0]) rfl)
        replace HA := HA.only ho (by have := Zh.out; have := Zh2.out; have := Z1.out; have := Z2.out; have := Z3.out; have := Z4.out; have := Zq.out; have := Z5.out; have := Z6.out; omega)
        replace HXS := HXS.only ho (by have := Zh.out; have := Zh2.out; have := Z1.out; have := Z2.out; have := Z3.out; have := Z4.out; have := Zq.out; have := Z5.out; have := Z6.out; omega)
        replace HX1 := HX1.only ho (by have := Zh.out; have := Zh2.out; have := Z1.out; have := Z2.out; have := Z3.out; have := Z4.out; have := Zq.out; have := Z5.out; have := Z6.out; omega)
        replace HQ := HQ.only ho (by have := Zh.out; have := Zh2.out; have := Z1.out; have := Z2.out; have := Z3.out; have := Z4.out; have := Zq.out; have := Z5.out; have := Z6.out; omega)
        replace HB := Lib.hid (Below.only HB.out ho (by have := Zh.out; have := Zh2.out; have := Z1.out; have := Z2.out; have := Z3.out; have := Z4.out; have := Zq.out; have := Z5.out; have := Z6.out; omega) HB.out.size)
        have Z7 : Hid (U6.heap.size = w5.heap.size) := Lib.hid (by rw [hU6]; simp [World.setCell]); clear ho
        have q_0 := HX2.look 0
        have q_1 := HX2.look 1
        have q_2 := HX2.look 2
        have q_3 := HX2.look 3
        have q_4 := HX2.look 4
        have q_5 := HX2.look 5
        subst hU6
        exact bodyPost_ret (v := .agg #[.int .i64 pc, .int .i64 0, .bool false, .slice none 0 0, .bool false, .slice none 0 0]) (by simp [results, Try.results48, go_sem, q_0, q_1, q_2, q_3, q_4, q_5]) rfl ⟨none, 0, 0, none, 0, 0, by rw [HV.out.1, HV.out.2.1, HV.out.2.2.1, HV.out.2.2.2.2.1, HV2.out], by rw [HV.out.2.2.2.1, HV.out.2.2.2.2.2]; exact QK.kept (QK.nil _ _ _ _ _) (Nat.le_refl _), HB.out⟩
      · obtain rfl : f = 0 := Classical.byContradiction hfz
        have l5_0 := HX1.bx.lt
        have l5_1 := HX2.bx.lt
        have l5_2 := HQ.bx.lt
        go_wp2_with fail
        clear l5_0 l5_1 l5_2
        clear x0 x1 x2 x3 xl
        refine (l6Push_any cap mk' (w3.heap.size) true _ _ E m d ys' x _ HQ.bx (own_items HO.out) (Nat.le_refl _) (by omega) hmc).mono ?_
        rintro e w6 ⟨E3, m3, d3, rfl, HO3, hb⟩
        have HBL := Lib.hid hb
        have Z7 := Lib.hid hb.size
        replace HA := HA.below hb
        replace HXS := HXS.below hb
        replace HX1 := HX1.below hb
        replace HX2 := HX2.below hb
        replace HQ := HQ.below hb
        replace HB := Lib.hid (below_step HB.out hb)
        clear hb
        have q0 := HQ.look 0; have q1 := HQ.look 1; have q2 := HQ.look 2; have f0 := HQ.free 0; have f1 := HQ.free 1; have f2 := HQ.free 2; have ql := HQ.bx.lt
        obtain ⟨X, hX⟩ : ∃ X : World, X = ((w6.setCell ⟨w3.heap.size, 0, none⟩ (.int .i64 cap)).setCell ⟨w3.heap.size, 1, none⟩ (.bool (putM cap mk' ys' x))).setCell ⟨w3.heap.size, 2, none⟩ (.slice E3 m3 d3) := ⟨_, rfl⟩
        have hoX : Only (w3.heap.size) (w3.heap.size + 1) w6 X := by rw [hX]; exact (((Only.refl _ _ _).set (p := ⟨w3.heap.size, 0, none⟩) (Nat.le_refl _) (Nat.lt_succ_self _) _).set (p := ⟨w3.heap.size, 1, none⟩) (Nat.le_refl _) (Nat.lt_succ_self _) _).set (p := ⟨w3.heap.size, 2, none⟩) (Nat.le_refl _) (Nat.lt_succ_self _) _
        have HQX : Hid (Box X (w3.heap.size) 59 #[.int .i64 cap, .bool (putM cap mk' ys' x), .slice E3 m3 d3]) := Lib.hid (by rw [hX]; exact ((HQ.bx.puts 0 (.int .i64 cap) (cs' := #[.int .i64 cap, .bool mk', .slice E m d]) rfl).puts 1 (.bool (putM cap mk' ys' x)) (cs' := #[.int .i64 cap, .bool (putM cap mk' ys' x), .slice E m d]) rfl).puts 2 (.slice E3 m3 d3) (cs' := #[.int .i64 cap, .bool (putM cap mk' ys' x), .slice E3 m3 d3]) rfl)
        have HOX := Lib.hid ((HO3.out.aside (Only.grown_ hoX) (fun r hr e => by injection e with e; have := (HO3.out.block r hr).1; have := Zh.out; have := Zh2.out; have := Z1.out; have := Z2.out; have := Z3.out; have := Z4.out; have := Zq.out; have := Z5.out; have := Z6.out; have := Z7.out; omega)).mono (B' := w2.heap.size) (by have := Zh.out; have := Zh2.out; have := Z1.out; have := Z2.out; have := Z3.out; have := Z4.out; have := Zq.out; have := Z5.out; have := Z6.out; have := Z7.out; omega))
        have HPX := Lib.hid (PInv.put HPI.out HF.out)
        have HPN : Hid (pushL cap xs mk ys = pushL cap (xs.drop (k + 1)) (putM cap mk' ys' x) (putY cap ys' x)) := Lib.hid (by rw [HPJ.out, HPK.out, if_pos HF.out])
        have HVX := Lib.hid ((HVB.out.trans (Only.of_below HBL.out _ _)).trans hoX)
        clear hoX
        go_wp2
        rw [← hX]
        go_roundw
        case rel => exact ⟨k + 1, E3, m3, d3, putM cap mk' ys' x, putY cap ys' x, by omega, by go_num, HQX, HOX, HPX, HPN, HVX⟩
        case measure => simp [intOf]; omega
    · have HE : Hid (pc = 0 ∧ pm = mk' ∧ pu = ys') := Lib.hid (by have h := HPL.out; rw [HPJ.out, List.drop_of_length_le (by have := HLX.out; omega)] at h; injection h with h1 h2; injection h2 with h2 h3; exact ⟨h1.symm, h2.symm, h3.symm⟩)
      obtain ⟨rfl, rfl, rfl⟩ := HE.out
      have hgo : ∀ r, E.map (·.block) = some r → r ≠ w3.heap.size := fun r hr e => OwnF.ne_box HO.out HQ.bx (by decide) (by rw [hr, e])
      have HNE := Lib.hid hgo; clear hgo
      have c4_0 := HQ.look 0
      have c4_1 := HQ.look 1
      have c4_2 := HQ.look 2
      have c4_3 := HX2.look 0
      have c4_4 := HX2.look 1
      have c4_5 := HX2.look 2
      have c4_6 := HX2.look 3
      have c4_7 := HX2.look 4
      have c4_8 := HX2.look 5
      have f4_0 := HX2.free 0
      have f4_1 := HX2.free 1
      have f4_2 := HX2.free 2
      have f4_3 := HX2.free 3
      have f4_4 := HX2.free 4
      have f4_5 := HX2.free 5
      have l4_0 := HX1.bx.lt
      have l4_1 := HX2.bx.lt
      have l4_2 := HQ.bx.lt
      have n4_0_0 : ¬ (w.heap.size + 1) = w3.heap.size := (by have := Zh.out; have := Zh2.out; have := Z1.out; have := Z2.out; have := Z3.out; have := Z4.out; have := Zq.out; have := Z5.out; omega)
      have m4_0_0 : ¬ w3.heap.size = (w.heap.size + 1) := (by have := Zh.out; have := Zh2.out; have := Z1.out; have := Z2.out; have := Z3.out; have := Z4.out; have := Zq.out; have := Z5.out; omega)
      go_wp2
      clear c4_0 c4_1 c4_2 c4_3 c4_4 c4_5 c4_6 c4_7 c4_8 f4_0 f4_1 f4_2 f4_3 f4_4 f4_5 l4_0 l4_1 l4_2 n4_0_0 m4_0_0
      obtain ⟨U5, hU5⟩ : ∃ W : World, W = ((((((wr.setCell ⟨w.heap.size + 1, 0, none⟩ (.int .i64 0)).setCell ⟨w.heap.size + 1, 1, none⟩ (.int .i64 cap)).setCell ⟨w.heap.size + 1, 2, none⟩ (.bool pm)).setCell ⟨w.heap.size + 1, 3, none⟩ (.slice E m d)).setCell ⟨w.heap.size + 1, 4, none⟩ (.bool false)).setCell ⟨w.heap.size + 1, 5, none⟩ (.slice none 0 0)) := ⟨_, rfl⟩
      have ho : Only (w.heap.size + 1) (w.heap.size + 1 + 1) wr U5 := by rw [hU5]; exact (((((((Only.refl _ _ _).set (p := ⟨w.heap.size + 1, 0, none⟩) (Nat.le_refl _) (Nat.lt_succ_self _) _).set (p := ⟨w.heap.size + 1, 1, none⟩) (Nat.le_refl _) (Nat.lt_succ_self _) _).set (p := ⟨w.heap.size + 1, 2, none⟩) (Nat.le_refl _) (Nat.lt_succ_self _) _).set (p := ⟨w.heap.size + 1, 3, none⟩) (Nat.le_refl _) (Nat.lt_succ_self _) _).set (p := ⟨w.heap.size + 1, 4, none⟩) (Nat.le_refl _) (Nat.lt_succ_self _) _).set (p := ⟨w.heap.size + 1, 5, none⟩) (Nat.le_refl _) (Nat.lt_succ_self _) _)
      have HOF := Lib.hid (HO.out.aside (Only.grown_ ho) (fun r hr e => by injection e with e; have := (HO.out.block r hr).1; have := Zh.out; have := Zh2.out; have := Z1.out; have := Z2.out; have := Z3.out; have := Z4.out; have := Zq.out; have := Z5.out; omega))
      replace HX2 : Kept (w.heap.size + 1) (w.heap.size + 1 + 1) (BoxK (w.heap.size + 1) 63 #[.int .i64 0, .int .i64 cap, .bool pm, .slice E m d, .bool false, .slice none 0 0]) U5 := by rw [hU5]; exact Kept.box ((((((HX2.bx.puts 0 (.int .i64 0) (cs' := #[.int .i64 0, .int .i64 0, .bool false, .slice none 0 0, .bool false, .slice none 0 0]) rfl).puts 1 (.int .i64 cap) (cs' := #[.int .i64 0, .int .i64 cap, .bool false, .slice none 0 0, .bool false, .slice none 0 0]) rfl).puts 2 (.bool pm) (cs' := #[.int .i64 0, .int .i64 cap, .bool pm, .slice none 0 0, .bool false, .slice none 0 0]) rfl).puts 3 (.slice E m d) (cs' := #[.int .i64 0, .int .i64 cap, .bool pm, .slice E m d, .bool false, .slice none 0 0]) rfl).puts 4 (.bool false) (cs' := #[.int .i64 0, .int .i64 cap, .bool pm, .slice E m d, .bool false, .slice none 0 0]) rfl).puts 5 (.slice none 0 0) (cs' := #[.int .i64 0, .int .i64 cap, .bool pm, .slice E m d, .bool false, .slice none 0 0]) rfl)
      replace HA := HA.only ho (by have := Zh.out; have := Zh2.out; have := Z1.out; have := Z2.out; have := Z3.out; have := Z4.out; have := Zq.out; have := Z5.out; omega)
      replace HXS := HXS.only ho (by have := Zh.out; have := Zh2.out; have := Z1.out; have := Z2.out; have := Z3.out; have := Z4.out; have := Zq.out; have := Z5.out; omega)
      replace HX1 := HX1.only ho (by have := Zh.out; have := Zh2.out; have := Z1.out; have := Z2.out; have := Z3.out; have := Z4.out; have := Zq.out; have := Z5.out; omega)
      replace HQ := HQ.only ho (by have := Zh.out; have := Zh2.out; have := Z1.out; have := Z2.out; have := Z3.out; have := Z4.out; have := Zq.out; have := Z5.out; omega)
      replace HB := Lib.hid (Below.only HB.out ho (by have := Zh.out; have := Zh2.out; have := Z1.out; have := Z2.out; have := Z3.out; have := Z4.out; have := Zq.out; have := Z5.out; omega) HB.out.size)
      have Z6 : Hid (U5.heap.size = wr.heap.size) := Lib.hid (by rw [hU5]; simp [World.setCell]); clear ho
      have q_0 := HX2.look 0
      have q_1 := HX2.look 1
      have q_2 := HX2.look 2
      have q_3 := HX2.look 3
      have q_4 := HX2.look 4
      have q_5 := HX2.look 5
      subst hU5
      exact bodyPost_ret (v := .agg #[.int .i64 0, .int .i64 cap, .bool pm, .slice E m d, .bool false, .slice none 0 0]) (by simp [results, Try.results48, go_sem, q_0, q_1, q_2, q_3, q_4, q_5]) rfl ⟨E, m, d, none, 0, ⟨0, by rw [HV.out.1, HV.out.2.1, HV.out.2.2.1, HV.out.2.2.2.2.1]; rfl⟩, by rw [HV.out.2.2.2.1, HV.out.2.2.2.2.2]; exact QK.kept (QK.of_own (HOF.out.mono (by have := Zh.out; have := Zh2.out; have := Z1.out; have := Z2.out; have := Z3.out; have := Z4.out; have := Zq.out; have := Z5.out; have := Z6.out; omega)) (OwnF.nil_ _ _ _ _ _) (fun r _ h => by cases h)) (Nat.le_refl _), HB.out⟩


end Go.Proofs.Ytiffhjofabaflaa

namespace Go.Proofs.Ytiffhjofabaflaa
open Go.RowKit
set_option linter.unusedVariables false

/-- A list of one item that was just made. -/
theorem sl_one {w : World} {g : Nat} {t : TypeId} {x : Tmr} (h : Box w g t #[.int .i64 x.typ, .int .i64 x.id, .int .i64 x.adv, .int .i64 x.due]) : Rep.timer.Sl true g (g + 1) w (some ⟨g, 0, none⟩) 1 [x] :=
  ⟨rfl, fun _ => ⟨g, 0, rfl, Nat.le_refl _, Nat.lt_succ_self _, fun _ i => h.free i, fun i a ha => by
    have hi0 : i = 0 := by have := (List.getElem?_eq_some_iff.1 ha).1; simp at this; exact this
    subst hi0
    simp only [List.getElem?_cons_zero, Option.some.injEq] at ha
    subst ha
    refine ⟨tcell x, rfl, fun j u hj => ?_⟩
    have hj4 : j < 4 := by have := (List.getElem?_eq_some_iff.1 hj).1; simpa [tcell] using this
    have e : (0 + 0 * 4 + j) = j := by omega
    show w.cell? ⟨g, 0 + 0 * 4 + j, none⟩ = some u
    rw [e, h.look j, ← hj]
    rcases (show j = 0 ∨ j = 1 ∨ j = 2 ∨ j = 3 by omega) with rfl | rfl | rfl | rfl <;> rfl⟩⟩

theorem QK.wide {lo hi lo' hi' : Nat} {A E : Option Addr} {n m : Nat} {us zs : List Tmr} {w : World} (h : QK lo hi A n us E m zs w) (h1 : lo' ≤ lo) (h2 : hi ≤ hi') : QK lo' hi' A n us E m zs w := by
  obtain ⟨bs, cs, f1, f2, f3, f4⟩ := h
  exact ⟨bs, cs, f1, f2, f3, fun b hb => by have := f4 b hb; omega⟩

set_option maxRecDepth 100000 in
set_option maxHeartbeats 3200000 in
theorem specPushItem_any (cap : Int) (mk : Bool) (q : Bool) (lo hi : Nat) (A : Option Addr) (n c : Nat) (ys : List Tmr) (x : Tmr) (w : World) (ha : Rep.timer.Sl q lo hi w A n ys) (hh : hi ≤ w.heap.size) (hn : n ≤ 1048576) :
    Calls Try.prog 50 #[.agg #[.int .i64 cap, .bool mk, .slice A n c], .agg #[.int .i64 x.typ, .int .i64 x.id, .int .i64 x.adv, .int .i64 x.due]] w fun e w' => ∃ O j k E m d, e = .returned (.agg #[.int .i64 (paC cap mk ys [x]), .int .i64 (paX cap mk ys [x]), .bool (paP cap mk ys [x]), .slice O j k, .bool (paT ys), .slice E m d]) ∧ Kept w.heap.size w'.heap.size (QK w.heap.size w'.heap.size O j (paU cap mk ys [x]) E m (paZ ys)) w' ∧ Below w.heap.size w w' := by
  have HB := Lib.hid (Below.refl w.heap.size w)
  have HA := Rep.Sl.kept ha hh
  have Zh := Lib.hid hh
  clear ha hh
  obtain ⟨vc, hv⟩ : ∃ z, paC cap mk ys [x] = z := ⟨_, rfl⟩
  have HVvc := Lib.hid hv
  rw [hv]
  clear hv
  obtain ⟨vx, hv⟩ : ∃ z, paX cap mk ys [x] = z := ⟨_, rfl⟩
  have HVvx := Lib.hid hv
  rw [hv]
  clear hv
  obtain ⟨vp, hv⟩ : ∃ z, paP cap mk ys [x] = z := ⟨_, rfl⟩
  have HVvp := Lib.hid hv
  rw [hv]
  clear hv
  obtain ⟨vu, hv⟩ : ∃ z, paU cap mk ys [x] = z := ⟨_, rfl⟩
  have HVvu := Lib.hid hv
  rw [hv]
  clear hv
  obtain ⟨vt, hv⟩ : ∃ z, paT ys = z := ⟨_, rfl⟩
  have HVvt := Lib.hid hv
  rw [hv]
  clear hv
  obtain ⟨vz, hv⟩ : ∃ z, paZ ys = z := ⟨_, rfl⟩
  have HVvz := Lib.hid hv
  rw [hv]
  clear hv
  go_enter Try.func50, Try.ntmps50
  go_wp2_with fail
  refine Calls.name ?_
  intro U1 hU1
  have hb : Below w.heap.size w U1 := by rw [hU1]; exact (((((Below.refl _ _).alloc (Nat.le_refl _) _).alloc (by simp <;> omega) _).alloc (by simp <;> omega) _).alloc (by simp <;> omega) _)
  have zz : Hid (w.heap.size + 4 = U1.heap.size) := Lib.hid (by rw [hU1]; simp)
  have HX1 : Kept w.heap.size (w.heap.size + 1) (BoxK w.heap.size 59 #[.int .i64 cap, .bool mk, .slice A n c]) U1 := by rw [hU1]; exact Kept.box ((((Box.made_at _ _ _ rfl).over _).over _).over _)
  have HX2 : Kept (w.heap.size + 1) (w.heap.size + 1 + 1) (BoxK (w.heap.size + 1) 66 #[.int .i64 x.typ, .int .i64 x.id, .int .i64 x.adv, .int .i64 x.due]) U1 := by rw [hU1]; exact Kept.box (((Box.made_at _ _ _ (by simp <;> omega)).over _).over _)
  have HX3 : Kept (w.heap.size + 1 + 1) (w.heap.size + 1 + 1 + 1) (BoxK (w.heap.size + 1 + 1) 63 #[.int .i64 0, .int .i64 0, .bool false, .slice none 0 0, .bool false, .slice none 0 0]) U1 := by rw [hU1]; exact Kept.box ((Box.made_at _ _ _ (by simp <;> omega)).over _)
  have HX4 : Kept (w.heap.size + 1 + 1 + 1) (w.heap.size + 1 + 1 + 1 + 1) (BoxK (w.heap.size + 1 + 1 + 1) 66 #[.int .i64 x.typ, .int .i64 x.id, .int .i64 x.adv, .int .i64 x.due]) U1 := by rw [hU1]; exact Kept.box (Box.made_at _ _ _ (by simp <;> omega))
  replace HA := HA.below hb
  replace HB := Lib.hid (below_step HB.out hb)
  clear hb
  have Z1 := zz; clear zz
  clear hU1
  refine (specPushAll_any cap mk q lo hi A n c ys true _ _ (some ⟨w.heap.size + 1 + 1 + 1, 0, none⟩) 1 1 [x] _ HA.sl HA.le hn (sl_one HX4.bx) HX4.le (by omega)).mono ?_
  rw [HVvc.out, HVvx.out, HVvp.out, HVvu.out, HVvt.out, HVvz.out]
  rintro e w2 ⟨O, j, k, E, m, d, rfl, hk, hb⟩
  have Z2 := Lib.hid hb.size
  replace HA := HA.below hb
  replace HX1 := HX1.below hb
  replace HX2 := HX2.below hb
  replace HX3 := HX3.below hb
  replace HX4 := HX4.below hb
  replace HB := Lib.hid (below_step HB.out hb)
  clear hb
  have HQ := hk; clear hk
  have c2_0 := HX3.look 0
  have c2_1 := HX3.look 1
  have c2_2 := HX3.look 2
  have c2_3 := HX3.look 3
  have c2_4 := HX3.look 4
  have c2_5 := HX3.look 5
  have f2_0 := HX3.free 0
  have f2_1 := HX3.free 1
  have f2_2 := HX3.free 2
  have f2_3 := HX3.free 3
  have f2_4 := HX3.free 4
  have f2_5 := HX3.free 5
  have l2_0 := HX1.bx.lt
  have l2_1 := HX2.bx.lt
  have l2_2 := HX3.bx.lt
  have l2_3 := HX4.bx.lt
  go_wp2
  clear c2_0 c2_1 c2_2 c2_3 c2_4 c2_5 f2_0 f2_1 f2_2 f2_3 f2_4 f2_5 l2_0 l2_1 l2_2 l2_3
  obtain ⟨U3, hU3⟩ : ∃ W : World, W = ((((((w2.setCell ⟨w.heap.size + 1 + 1, 0, none⟩ (.int .i64 vc)).setCell ⟨w.heap.size + 1 + 1, 1, none⟩ (.int .i64 vx)).setCell ⟨w.heap.size + 1 + 1, 2, none⟩ (.bool vp)).setCell ⟨w.heap.size + 1 + 1, 3, none⟩ (.slice O j k)).setCell ⟨w.heap.size + 1 + 1, 4, none⟩ (.bool vt)).setCell ⟨w.heap.size + 1 + 1, 5, none⟩ (.slice E m d)) := ⟨_, rfl⟩
  have ho : Only (w.heap.size + 1 + 1) (w.heap.size + 1 + 1 + 1) w2 U3 := by rw [hU3]; exact (((((((Only.refl _ _ _).set (p := ⟨w.heap.size + 1 + 1, 0, none⟩) (Nat.le_refl _) (Nat.lt_succ_self _) _).set (p := ⟨w.heap.size + 1 + 1, 1, none⟩) (Nat.le_refl _) (Nat.lt_succ_self _) _).set (p := ⟨w.heap.size + 1 + 1, 2, none⟩) (Nat.le_refl _) (Nat.lt_succ_self _) _).set (p := ⟨w.heap.size + 1 + 1, 3, none⟩) (Nat.le_refl _) (Nat.lt_succ_self _) _).set (p := ⟨w.heap.size + 1 + 1, 4, none⟩) (Nat.le_refl _) (Nat.lt_succ_self _) _).set (p := ⟨w.heap.size + 1 + 1, 5, none⟩) (Nat.le_refl _) (Nat.lt_succ_self _) _)
  replace HX3 : Kept (w.heap.size + 1 + 1) (w.heap.size + 1 + 1 + 1) (BoxK (w.heap.size + 1 + 1) 63 #[.int .i64 vc, .int .i64 vx, .bool vp, .slice O j k, .bool vt, .slice E m d]) U3 := by rw [hU3]; exact Kept.box ((((((HX3.bx.puts 0 (.int .i64 vc) (cs' := #[.int .i64 vc, .int .i64 0, .bool false, .slice none 0 0, .bool false, .slice none 0 0]) rfl).puts 1 (.int .i64 vx) (cs' := #[.int .i64 vc, .int .i64 vx, .bool false, .slice none 0 0, .bool false, .slice none 0 0]) rfl).puts 2 (.bool vp) (cs' := #[.int .i64 vc, .int .i64 vx, .bool vp, .slice none 0 0, .bool false, .slice none 0 0]) rfl).puts 3 (.slice O j k) (cs' := #[.int .i64 vc, .int .i64 vx, .bool vp, .slice O j k, .bool false, .slice none 0 0]) rfl).puts 4 (.bool vt) (cs' := #[.int .i64 vc, .int .i64 vx, .bool vp, .slice O j k, .bool vt, .slice none 0 0]) rfl).puts 5 (.slice E m d) (cs' := #[.int .i64 vc, .int .i64 vx, .bool vp, .slice O j k, .bool vt, .slice E m d]) rfl)
  replace HA := HA.only ho (by have := Zh.out; have := Z1.out; have := Z2.out; omega)
  replace HX1 := HX1.only ho (by have := Zh.out; have := Z1.out; have := Z2.out; omega)
  replace HX2 := HX2.only ho (by have := Zh.out; have := Z1.out; have := Z2.out; omega)
  replace HX4 := HX4.only ho (by have := Zh.out; have := Z1.out; have := Z2.out; omega)
  replace HQ := HQ.only ho (by have := Zh.out; have := Z1.out; have := Z2.out; omega)
  replace HB := Lib.hid (Below.only HB.out ho (by have := Zh.out; have := Z1.out; have := Z2.out; omega) HB.out.size)
  have Z3 : Hid (U3.heap.size = w2.heap.size) := Lib.hid (by rw [hU3]; simp [World.setCell]); clear ho
  have q_0 := HX3.look 0
  have q_1 := HX3.look 1
  have q_2 := HX3.look 2
  have q_3 := HX3.look 3
  have q_4 := HX3.look 4
  have q_5 := HX3.look 5
  subst hU3
  exact bodyPost_ret (v := .agg #[.int .i64 vc, .int .i64 vx, .bool vp, .slice O j k, .bool vt, .slice E m d]) (by simp [results, Try.results50, go_sem, q_0, q_1, q_2, q_3, q_4, q_5]) rfl ⟨O, j, k, E, m, d, rfl, QK.kept (QK.wide HQ.out (by have := Zh.out; have := Z1.out; have := Z2.out; have := Z3.out; omega) (by have := HQ.le; omega)) (Nat.le_refl _), HB.out⟩

set_option maxRecDepth 100000 in
set_option maxHeartbeats 3200000 in
theorem pushItem_any (cap : Int) (mk : Bool) (q : Bool) (lo hi : Nat) (A : Option Addr) (n c : Nat) (ys : List Tmr) (x : Tmr) (w : World) (ha : Rep.timer.Sl q lo hi w A n ys) (hh : hi ≤ w.heap.size) (hn : n ≤ 1048576) (hc : n ≤ c) :
    Calls Try.prog 43 #[.agg #[.int .i64 cap, .bool mk, .slice A n c], .agg #[.int .i64 x.typ, .int .i64 x.id, .int .i64 x.adv, .int .i64 x.due]] w fun e w' => ∃ O j k E m d, e = .returned (.agg #[.int .i64 (paC cap mk ys [x]), .int .i64 (paX cap mk ys [x]), .bool (paP cap mk ys [x]), .slice O j k, .bool (paT ys), .slice E m d]) ∧ Kept w.heap.size w'.heap.size (QK w.heap.size w'.heap.size O j (paU cap mk ys [x]) E m (paZ ys)) w' ∧ Below w.heap.size w w' := by
  have HB := Lib.hid (Below.refl w.heap.size w)
  have HA := Rep.Sl.kept ha hh
  have Zh := Lib.hid hh
  clear ha hh
  obtain ⟨vc, hv⟩ : ∃ z, paC cap mk ys [x] = z := ⟨_, rfl⟩
  have HVvc := Lib.hid hv
  rw [hv]
  clear hv
  obtain ⟨vx, hv⟩ : ∃ z, paX cap mk ys [x] = z := ⟨_, rfl⟩
  have HVvx := Lib.hid hv
  rw [hv]
  clear hv
  obtain ⟨vp, hv⟩ : ∃ z, paP cap mk ys [x] = z := ⟨_, rfl⟩
  have HVvp := Lib.hid hv
  rw [hv]
  clear hv
  obtain ⟨vu, hv⟩ : ∃ z, paU cap mk ys [x] = z := ⟨_, rfl⟩
  have HVvu := Lib.hid hv
  rw [hv]
  clear hv
  obtain ⟨vt, hv⟩ : ∃ z, paT ys = z := ⟨_, rfl⟩
  have HVvt := Lib.hid hv
  rw [hv]
  clear hv
  obtain ⟨vz, hv⟩ : ∃ z, paZ ys = z := ⟨_, rfl⟩
  have HVvz := Lib.hid hv
  rw [hv]
  clear hv
  go_enter Try.func43, Try.ntmps43
  go_wp2_with fail
  refine Calls.name ?_
  intro U1 hU1
  have hb : Below w.heap.size w U1 := by rw [hU1]; exact (((((Below.refl _ _).alloc (Nat.le_refl _) _).alloc (by simp <;> omega) _).alloc (by simp <;> omega) _).alloc (by simp <;> omega) _)
  have zz : Hid (w.heap.size + 4 = U1.heap.size) := Lib.hid (by rw [hU1]; simp)
  have HX1 : Kept w.heap.size (w.heap.size + 1) (BoxK w.heap.size 59 #[.int .i64 cap, .bool mk, .slice A n c]) U1 := by rw [hU1]; exact Kept.box ((((Box.made_at _ _ _ rfl).over _).over _).over _)
  have HX2 : Kept (w.heap.size + 1) (w.heap.size + 1 + 1) (BoxK (w.heap.size + 1) 66 #[.int .i64 x.typ, .int .i64 x.id, .int .i64 x.adv, .int .i64 x.due]) U1 := by rw [hU1]; exact Kept.box (((Box.made_at _ _ _ (by simp <;> omega)).over _).over _)
  have HX3 : Kept (w.heap.size + 1 + 1) (w.heap.size + 1 + 1 + 1) (BoxK (w.heap.size + 1 + 1) 63 #[.int .i64 0, .int .i64 0, .bool false, .slice none 0 0, .bool false, .slice none 0 0]) U1 := by rw [hU1]; exact Kept.box ((Box.made_at _ _ _ (by simp <;> omega)).over _)
  have HX4 : Kept (w.heap.size + 1 + 1 + 1) (w.heap.size + 1 + 1 + 1 + 1) (BoxK (w.heap.size + 1 + 1 + 1) 66 #[.int .i64 x.typ, .int .i64 x.id, .int .i64 x.adv, .int .i64 x.due]) U1 := by rw [hU1]; exact Kept.box (Box.made_at _ _ _ (by simp <;> omega))
  replace HA := HA.below hb
  replace HB := Lib.hid (below_step HB.out hb)
  clear hb
  have Z1 := zz; clear zz
  clear hU1
  refine (pushAll_any cap mk q lo hi A n c ys true _ _ (some ⟨w.heap.size + 1 + 1 + 1, 0, none⟩) 1 1 [x] _ HA.sl HA.le hn (sl_one HX4.bx) HX4.le (by omega) hc).mono ?_
  rw [HVvc.out, HVvx.out, HVvp.out, HVvu.out, HVvt.out, HVvz.out]
  rintro e w2 ⟨O, j, k, E, m, d, rfl, hk, hb⟩
  have Z2 := Lib.hid hb.size
  replace HA := HA.below hb
  replace HX1 := HX1.below hb
  replace HX2 := HX2.below hb
  replace HX3 := HX3.below hb
  replace HX4 := HX4.below hb
  replace HB := Lib.hid (below_step HB.out hb)
  clear hb
  have HQ := hk; clear hk
  have c2_0 := HX3.look 0
  have c2_1 := HX3.look 1
  have c2_2 := HX3.look 2
  have c2_3 := HX3.look 3
  have c2_4 := HX3.look 4
  have c2_5 := HX3.look 5
  have f2_0 := HX3.free 0
  have f2_1 := HX3.free 1
  have f2_2 := HX3.free 2
  have f2_3 := HX3.free 3
  have f2_4 := HX3.free 4
  have f2_5 := HX3.free 5
  have l2_0 := HX1.bx.lt
  have l2_1 := HX2.bx.lt
  have l2_2 := HX3.bx.lt
  have l2_3 := HX4.bx.lt
  go_wp2
  clear c2_0 c2_1 c2_2 c2_3 c2_4 c2_5 f2_0 f2_1 f2_2 f2_3 f2_4 f2_5 l2_0 l2_1 l2_2 l2_3
  obtain ⟨U3, hU3⟩ : ∃ W : World, W = ((((((w2.setCell ⟨w.heap.size + 1 + 1, 0, none⟩ (.int .i64 vc)).setCell ⟨w.heap.size + 1 + 1, 1, none⟩ (.int .i64 vx)).setCell ⟨w.heap.size + 1 + 1, 2, none⟩ (.bool vp)).setCell ⟨w.heap.size + 1 + 1, 3, none⟩ (.slice O j k)).setCell ⟨w.heap.size + 1 + 1, 4, none⟩ (.bool vt)).setCell ⟨w.heap.size + 1 + 1, 5, none⟩ (.slice E m d)) := ⟨_, rfl⟩
  have ho : Only (w.heap.size + 1 + 1) (w.heap.size + 1 + 1 + 1) w2 U3 := by rw [hU3]; exact (((((((Only.refl _ _ _).set (p := ⟨w.heap.size + 1 + 1, 0, none⟩) (Nat.le_refl _) (Nat.lt_succ_self _) _).set (p := ⟨w.heap.size + 1 + 1, 1, none⟩) (Nat.le_refl _) (Nat.lt_succ_self _) _).set (p := ⟨w.heap.size + 1 + 1, 2, none⟩) (Nat.le_refl _) (Nat.lt_succ_self _) _).set (p := ⟨w.heap.size + 1 + 1, 3, none⟩) (Nat.le_refl _) (Nat.lt_succ_self _) _).set (p := ⟨w.heap.size + 1 + 1, 4, none⟩) (Nat.le_refl _) (Nat.lt_succ_self _) _).set (p := ⟨w.heap.size + 1 + 1, 5, none⟩) (Nat.le_refl _) (Nat.lt_succ_self _) _)
  replace HX3 : Kept (w.heap.size + 1 + 1) (w.heap.size + 1 + 1 + 1) (BoxK (w.heap.size + 1 + 1) 63 #[.int .i64 vc, .int .i64 vx, .bool vp, .slice O j k, .bool vt, .slice E m d]) U3 := by rw [hU3]; exact Kept.box ((((((HX3.bx.puts 0 (.int .i64 vc) (cs' := #[.int .i64 vc, .int .i64 0, .bool false, .slice none 0 0, .bool false, .slice none 0 0]) rfl).puts 1 (.int .i64 vx) (cs' := #[.int .i64 vc, .int .i64 vx, .bool false, .slice none 0 0, .bool false, .slice none 0 0]) rfl).puts 2 (.bool vp) (cs' := #[.int .i64 vc, .int .i64 vx, .bool vp, .slice none 0 0, .bool false, .slice none 0 0]) rfl).puts 3 (.slice O j k) (cs' := #[.int .i64 vc, .int .i64 vx, .bool vp, .slice O j k, .bool false, .slice none 0 0]) rfl).puts 4 (.bool vt) (cs' := #[.int .i64 vc, .int .i64 vx, .bool vp, .slice O j k, .bool vt, .slice none 0 0]) rfl).puts 5 (.slice E m d) (cs' := #[.int .i64 vc, .int .i64 vx, .bool vp, .slice O j k, .bool vt, .slice E m d]) rfl)
  replace HA := HA.only ho (by have := Zh.out; have := Z1.out; have := Z2.out; omega)
  replace HX1 := HX1.only ho (by have := Zh.out; have := Z1.out; have := Z2.out; omega)
  replace HX2 := HX2.only ho (by have := Zh.out; have := Z1.out; have := Z2.out; omega)
  replace HX4 := HX4.only ho (by have := Zh.out; have := Z1.out; have := Z2.out; omega)
  replace HQ := HQ.only ho (by have := Zh.out; have := Z1.out; have := Z2.out; omega)
  replace HB := Lib.hid (Below.only HB.out ho (by have := Zh.out; have := Z1.out; have := Z2.out; omega) HB.out.size)
  have Z3 : Hid (U3.heap.size = w2.heap.size) := Lib.hid (by rw [hU3]; simp [World.setCell]); clear ho
  have q_0 := HX3.look 0
  have q_1 := HX3.look 1
  have q_2 := HX3.look 2
  have q_3 := HX3.look 3
  have q_4 := HX3.look 4
  have q_5 := HX3.look 5
  subst hU3
  exact bodyPost_ret (v := .agg #[.int .i64 vc, .int .i64 vx, .bool vp, .slice O j k, .bool vt, .slice E m d]) (by simp [results, Try.results43, go_sem, q_0, q_1, q_2, q_3, q_4, q_5]) rfl ⟨O, j, k, E, m, d, rfl, QK.kept (QK.wide HQ.out (by have := Zh.out; have := Z1.out; have := Z2.out; have := Z3.out; omega) (by have := HQ.le; omega)) (Nat.le_refl _), HB.out⟩


end Go.Proofs.Ytiffhjofabaflaa

namespace Go.Proofs.Ytiffhjofabaflaa
open Go.RowKit
set_option linter.unusedVariables false

/-- Of each key the last item, in their order. -/
def keepL : List Tmr → List Tmr
  | [] => []
  | t :: r => if r.any (fun u => keyT t u) = true then keepL r else t :: keepL r
theorem keepL_plain : ∀ {ys : List Tmr}, twinB ys = false → keepL ys = ys
  | [], _ => rfl
  | t :: r, h => by
    have h' : r.any (fun u => keyT t u) = false ∧ twinB r = false := by simpa [twinB] using h
    unfold keepL
    rw [h'.1, keepL_plain h'.2]
    simp
theorem keyT_trans {a b c : Tmr} (h1 : keyT a b = true) (h2 : keyT b c = true) : keyT a c = true := by
  rw [keyT_iff] at *
  exact ⟨h1.1.trans h2.1, h1.2.1.trans h2.2.1, h1.2.2.trans h2.2.2⟩
theorem keepL_without (x : Tmr) (r : List Tmr) : ∀ ys : List Tmr, keepL (without ys x ++ x :: r) = keepL (ys ++ x :: r)
  | [] => rfl
  | t :: ys => by
    by_cases h : keyT t x = true
    · have e1 : without (t :: ys) x = without ys x := by simp [without, h]
      have e2 : (ys ++ x :: r).any (fun u => keyT t u) = true := List.any_eq_true.2 ⟨x, by simp, h⟩
      rw [e1, keepL_without x r ys, List.cons_append]
      conv => rhs; unfold keepL
      rw [if_pos e2]
    · have h0 : keyT t x = false := by simpa using h
      have e1 : without (t :: ys) x = t :: without ys x := by simp [without, h0]
      have e2 : (without ys x ++ x :: r).any (fun u => keyT t u) = (ys ++ x :: r).any (fun u => keyT t u) := by
        rw [Bool.eq_iff_iff, List.any_eq_true, List.any_eq_true]
        constructor
        · rintro ⟨u, hu, hk⟩
          refine ⟨u, ?_, hk⟩
          rcases List.mem_append.1 hu with hu | hu
          · exact List.mem_append.2 (.inl (List.mem_filter.1 hu).1)
          · exact List.mem_append.2 (.inr hu)
        · rintro ⟨u, hu, hk⟩
          refine ⟨u, ?_, hk⟩
          rcases List.mem_append.1 hu with hu | hu
          · refine List.mem_append.2 (.inl (List.mem_filter.2 ⟨hu, ?_⟩))
            cases hux : keyT u x with
            | false => rfl
            | true => exact absurd (keyT_trans hk hux) h
          · exact List.mem_append.2 (.inr hu)
      rw [e1, List.cons_append, List.cons_append]
      conv => lhs; unfold keepL
      conv => rhs; unfold keepL
      rw [e2, keepL_without x r ys]
theorem twinB_filter (p : Tmr → Bool) : ∀ {ys : List Tmr}, twinB ys = false → twinB (ys.filter p) = false
  | [], _ => rfl
  | t :: r, h => by
    have h' : r.any (fun u => keyT t u) = false ∧ twinB r = false := by simpa [twinB] using h
    have ih := twinB_filter p h'.2
    cases hp : p t with
    | false => simpa [hp] using ih
    | true =>
      have e : (r.filter p).any (fun u => keyT t u) = false := by
        rw [List.any_eq_false] at h' ⊢
        exact fun u hu => h'.1 u (List.mem_filter.1 hu).1
      simp only [List.filter_cons, hp, if_true, twinB, e, ih, Bool.or_self]
theorem twinB_put {ys : List Tmr} (x : Tmr) (h : twinB ys = false) : twinB (without ys x ++ [x]) = false := by
  rw [twinB_snoc]
  have h1 : twinB (without ys x) = false := twinB_filter _ h
  have h2 : ((without ys x).any fun u => keyT x u) = false := by
    rw [List.any_eq_false]
    intro u hu
    have := (List.mem_filter.1 hu).2
    rw [keyT_comm]
    simpa using this
  rw [h1, h2]
  rfl
/-- Where no mark is left, what was pushed into a queue is the last of each key. -/
theorem pushL_keep (cap : Int) : ∀ (xs : List Tmr) (mk : Bool) (ys zs : List Tmr), twinB ys = false → pushL cap xs mk ys = (0, false, zs) → mk = false ∧ zs = keepL (ys ++ xs)
  | [], mk, ys, zs, ht, h => by
    simp only [pushL, Prod.mk.injEq, true_and] at h
    rw [List.append_nil, keepL_plain ht]
    exact ⟨h.1, h.2.symm⟩
  | x :: r, mk, ys, zs, ht, h => by
    unfold pushL at h
    by_cases hf : fit ys x = 0
    · rw [if_pos hf] at h
      by_cases hc : ((without ys x).length : Int) = cap
      · have em : putM cap mk ys x = true := by unfold putM; rw [if_pos hc]
        have ey : putY cap ys x = [x] := by unfold putY; rw [if_pos hc]
        rw [em, ey] at h
        have := (pushL_keep cap r true [x] zs (by simp [twinB]) h).1
        cases this
      · have em : putM cap mk ys x = mk := by unfold putM; rw [if_neg hc]
        have ey : putY cap ys x = without ys x ++ [x] := by unfold putY; rw [if_neg hc]
        rw [em, ey] at h
        obtain ⟨h1, h2⟩ := pushL_keep cap r mk _ zs (twinB_put x ht) h
        refine ⟨h1, ?_⟩
        rw [h2, List.append_assoc, List.singleton_append, keepL_without]
    · rw [if_neg hf] at h
      simp only [Prod.mk.injEq] at h
      exact absurd h.1 hf

/-- A queue into which an item went that fits is right. -/
theorem qf_put {cap : Int} {ys : List Tmr} {x : Tmr} (h : qf cap ys = 0) (hf : fit ys x = 0) : qf cap (putY cap ys x) = 0 := by
  obtain ⟨p1, p2, p3⟩ := PInv.put (PInv.of_qf h) hf
  obtain ⟨_, _, _, h3, _, h5⟩ := qf_ok h
  have hx := (fit_ok hf).1
  have a1 : allIn 1 100000 (revs (putY cap ys x)) = true := by
    unfold allIn at h3 ⊢
    rw [List.all_eq_true] at h3 ⊢
    intro v hv
    obtain ⟨t, ht, rfl⟩ := List.mem_map.1 hv
    unfold putY at ht
    split at ht
    · obtain rfl := List.mem_singleton.1 ht
      simp [hx]
    · rcases List.mem_append.1 ht with ht | ht
      · exact h3 _ (List.mem_map.2 ⟨t, (List.mem_filter.1 ht).1, rfl⟩)
      · obtain rfl := List.mem_singleton.1 ht
        simp [hx]
  have a2 : twinB (putY cap ys x) = false := by
    unfold putY
    split
    · simp [twinB]
    · exact twinB_put x h5
  unfold qf
  rw [if_neg (fun hn => hn p1), if_neg (by omega), if_neg (by simp [a1]), if_neg (fun hn => hn p3), if_neg (by simp [a2])]
/-- The item that went in is the last. -/
theorem putY_last (cap : Int) (ys : List Tmr) (x : Tmr) : ∃ us, putY cap ys x = us ++ [x] := by
  unfold putY
  split
  · exact ⟨[], rfl⟩
  · exact ⟨_, rfl⟩
theorem putM_mk {cap : Int} {mk : Bool} {ys : List Tmr} {x : Tmr} (h : mk = true) : putM cap mk ys x = true := by
  unfold putM
  split
  · rfl
  · exact h
/-- What was pushed into a right queue is right. -/
theorem pushL_qf (cap : Int) : ∀ (xs : List Tmr) (mk : Bool) (ys : List Tmr), qf cap ys = 0 → (pushL cap xs mk ys).1 = 0 → qf cap (pushL cap xs mk ys).2.2 = 0
  | [], mk, ys, h, _ => h
  | x :: r, mk, ys, h, h0 => by
    unfold pushL at h0 ⊢
    by_cases hf : fit ys x = 0
    · rw [if_pos hf] at h0 ⊢
      exact pushL_qf cap r _ _ (qf_put h hf) h0
    · rw [if_neg hf] at h0
      exact absurd h0 hf

end Go.Proofs.Ytiffhjofabaflaa

namespace Go.Proofs.Ytiffhjofabaflaa
open Go.RowKit
set_option linter.unusedVariables false

end Go.Proofs.Ytiffhjofabaflaa

namespace Go.Proofs.Ytiffhjofabaflaa
open Go.RowKit
set_option linter.unusedVariables false

/-- Of one item, none behind it. -/
theorem items_end {t : TypeId} {w : World} {B g c : Nat} {ys : List Tmr} {A : Option Addr} (h : OwnF t 4 tcell w B (some ⟨g, 0, none⟩) 1 c ys) : ∃ bs, Rep.timer.FSl w A 0 (ys.drop 1) bs ∧ bs.Nodup ∧ ∀ x ∈ bs, x = g :=
  ⟨[], .inl ⟨rfl, List.eq_nil_of_length_eq_zero (by rw [List.length_drop, h.1]), rfl⟩, List.nodup_nil, fun x hx => by cases hx⟩
/-- Items somewhere, and one in a new block. -/
theorem QK.from_box {w : World} {lo hi : Nat} {A : Option Addr} {n : Nat} {us : List Tmr} {bs : List Nat} {g : Nat} {t : TypeId} {a : Tmr} (h1 : Rep.timer.FSl w A n us bs) (h2 : bs.Nodup) (h3 : ∀ x ∈ bs, lo ≤ x ∧ x < hi ∧ x ≠ g) (hw : hi ≤ w.heap.size)
    (hb : Box w g t #[.int .i64 a.typ, .int .i64 a.id, .int .i64 a.adv, .int .i64 a.due]) (hlo : lo ≤ g ∧ g < hi) (_ : ∀ x ∈ bs, x ≠ g) : QK lo hi A n us (some ⟨g, 0, none⟩) 1 [a] w := by
  refine ⟨bs, [g], h1, .inr ⟨by omega, g, rfl, rfl, fun _ => ⟨g, 0, rfl, Nat.le_refl _, Nat.lt_succ_self _, fun _ i => hb.free i, fun i x hx => ?_⟩⟩, List.nodup_append.2 ⟨h2, by simp, fun x hx y hy e => (h3 x hx).2.2 (by simp at hy; omega)⟩, fun x hx => ?_⟩
  · have hi0 : i = 0 := by have := (List.getElem?_eq_some_iff.1 hx).1; simp at this; exact this
    subst hi0
    simp only [List.getElem?_cons_zero, Option.some.injEq] at hx
    subst hx
    refine ⟨tcell a, rfl, fun j u hj => ?_⟩
    have hj4 : j < 4 := by have := (List.getElem?_eq_some_iff.1 hj).1; simpa [tcell] using this
    have e : (0 + 0 * 4 + j) = j := by omega
    show w.cell? ⟨g, 0 + 0 * 4 + j, none⟩ = some u
    rw [e, hb.look j, ← hj]
    rcases (show j = 0 ∨ j = 1 ∨ j = 2 ∨ j = 3 by omega) with rfl | rfl | rfl | rfl <;> rfl
  · rcases List.mem_append.1 hx with h | h
    · exact ⟨(h3 x h).1, (h3 x h).2.1⟩
    · simp at h; subst h; exact hlo

set_option maxRecDepth 100000 in
set_option maxHeartbeats 3200000 in
theorem specPopItem_any (cap : Int) (mk : Bool) (q : Bool) (lo hi : Nat) (A : Option Addr) (n c : Nat) (ys : List Tmr) (w : World) (ha : Rep.timer.Sl q lo hi w A n ys) (hh : hi ≤ w.heap.size) (hn : n ≤ 1048576) :
    Calls Try.prog 51 #[.agg #[.int .i64 cap, .bool mk, .slice A n c]] w fun e w' => ∃ O j k E m d, e = .returned (.agg #[.int .i64 (ppC cap mk ys), .int .i64 (ppX cap mk ys), .bool (ppP ys), .slice O j k, .bool (ppT cap mk ys), .slice E m d]) ∧ Kept w.heap.size w'.heap.size (QK w.heap.size w'.heap.size O j (ppU cap mk ys) E m (ppZ cap mk ys)) w' ∧ Below w.heap.size w w' := by
  have hl := ha.1
  by_cases h0 : ¬ qf cap ys = 0
  · have HB := Lib.hid (Below.refl w.heap.size w)
    have HA := Rep.Sl.kept ha hh
    have Zh := Lib.hid hh
    obtain ⟨r, hr⟩ : ∃ z, qf cap ys = z := ⟨_, rfl⟩
    have HR := Lib.hid hr
    have h0r : ¬ r = 0 := by rw [← hr]; exact h0
    have hr0 : (r != 0) = true := by simpa using h0r
    have HV : Hid (ppC cap mk ys = r ∧ ppX cap mk ys = 0 ∧ ppP ys = false ∧ ppU cap mk ys = [] ∧ ppT cap mk ys = false ∧ ppZ cap mk ys = []) := Lib.hid (by refine ⟨?_, ?_, ?_, ?_, ?_, ?_⟩ <;> simp [ppC, ppP, ppT, ppU, ppX, ppZ, hr, h0r])
    clear h0 hr h0r
    clear ha hl hh
    go_enter Try.func51, Try.ntmps51
    go_wp2_with fail
    refine Calls.name ?_
    intro U1 hU1
    have hb : Below w.heap.size w U1 := by rw [hU1]; exact (((Below.refl _ _).alloc (Nat.le_refl _) _).alloc (by simp <;> omega) _)
    have zz : Hid (w.heap.size + 2 = U1.heap.size) := Lib.hid (by rw [hU1]; simp)
    have HX1 : Kept w.heap.size (w.heap.size + 1) (BoxK w.heap.size 59 #[.int .i64 cap, .bool mk, .slice A n c]) U1 := by rw [hU1]; exact Kept.box ((Box.made_at _ _ _ rfl).over _)
    have HX2 : Kept (w.heap.size + 1) (w.heap.size + 1 + 1) (BoxK (w.heap.size + 1) 63 #[.int .i64 0, .int .i64 0, .bool false, .slice none 0 0, .bool false, .slice none 0 0]) U1 := by rw [hU1]; exact Kept.box (Box.made_at _ _ _ (by simp <;> omega))
    replace HA := HA.below hb
    replace HB := Lib.hid (below_step HB.out hb)
    clear hb
    have Z1 := zz; clear zz
    clear hU1
    refine (specQueueFault_any cap mk q lo hi A n c ys _ HA.sl HA.le hn).mono ?_
    rw [HR.out]
    rintro e w2 ⟨rfl, hb⟩
    have Z2 := Lib.hid hb.size
    replace HA := HA.below hb
    replace HX1 := HX1.below hb
    replace HX2 := HX2.below hb
    replace HB := Lib.hid (below_step HB.out hb)
    clear hb
    have c2_0 := HX2.look 0
    have c2_1 := HX2.look 1
    have c2_2 := HX2.look 2
    have c2_3 := HX2.look 3
    have c2_4 := HX2.look 4
    have c2_5 := HX2.look 5
    have f2_0 := HX2.free 0
    have f2_1 := HX2.free 1
    have f2_2 := HX2.free 2
    have f2_3 := HX2.free 3
    have f2_4 := HX2.free 4
    have f2_5 := HX2.free 5
    have l2_0 := HX1.bx.lt
    have l2_1 := HX2.bx.lt
    go_wp2
    clear c2_0 c2_1 c2_2 c2_3 c2_4 c2_5 f2_0 f2_1 f2_2 f2_3 f2_4 f2_5 l2_0 l2_1
    obtain ⟨U3, hU3⟩ : ∃ W : World, W = ((((((w2.setCell ⟨w.heap.size + 1, 0, none⟩ (.int .i64 r)).setCell ⟨w.heap.size + 1, 1, none⟩ (.int .i64 0)).setCell ⟨w.heap.size + 1, 2, none⟩ (.bool false)).setCell ⟨w.heap.size + 1, 3, none⟩ (.slice none 0 0)).setCell ⟨w.heap.size + 1, 4, none⟩ (.bool false)).setCell ⟨w.heap.size + 1, 5, none⟩ (.slice none 0 0)) := ⟨_, rfl⟩
    have ho : Only (w.heap.size + 1) (w.heap.size + 1 + 1) w2 U3 := by rw [hU3]; exact (((((((Only.refl _ _ _).set (p := ⟨w.heap.size + 1, 0, none⟩) (Nat.le_refl _) (Nat.lt_succ_self _) _).set (p := ⟨w.heap.size + 1, 1, none⟩) (Nat.le_refl _) (Nat.lt_succ_self _) _).set (p := ⟨w.heap.size + 1, 2, none⟩) (Nat.le_refl _) (Nat.lt_succ_self _) _).set (p := ⟨w.heap.size + 1, 3, none⟩) (Nat.le_refl _) (Nat.lt_succ_self _) _).set (p := ⟨w.heap.size + 1, 4, none⟩) (Nat.le_refl _) (Nat.lt_succ_self _) _).set (p := ⟨w.heap.size + 1, 5, none⟩) (Nat.le_refl _) (Nat.lt_succ_self _) _)
    replace HX2 : Kept (w.heap.size + 1) (w.heap.size + 1 + 1) (BoxK (w.heap.size + 1) 63 #[.int .i64 r, .int .i64 0, .bool false, .slice none 0 0, .bool false, .slice none 0 0]) U3 := by rw [hU3]; exact Kept.box ((((((HX2.bx.puts 0 (.int .i64 r) (cs' := #[.int .i64 r, .int .i64 0, .bool false, .slice none 0 0, .bool false, .slice none 0 0]) rfl).puts 1 (.int .i64 0) (cs' := #[.int .i64 r, .int .i64 0, .bool false, .slice none 0 0, .bool false, .slice none 0 0]) rfl).puts 2 (.bool false) (cs' := #[.int .i64 r, .int .i64 0, .bool false, .slice none 0 0, .bool false, .slice none 0 0]) rfl).puts 3 (.slice none 0 0) (cs' := #[.int .i64 r, .int .i64 0, .bool false, .slice none 0 0, .bool false, .slice none 0 0]) rfl).puts 4 (.bool false) (cs' := #[.int .i64 r, .int .i64 0, .bool false, .slice none 0 0, .bool false, .slice none 0 0]) rfl).puts 5 (.slice none 0 0) (cs' := #[.int .i64 r, .int .i64 0, .bool false, .slice none 0 0, .bool false, .slice none 0 0]) rfl)
    replace HA := HA.only ho (by have := Zh.out; have := Z1.out; have := Z2.out; omega)
    replace HX1 := HX1.only ho (by have := Zh.out; have := Z1.out; have := Z2.out; omega)
    replace HB := Lib.hid (Below.only HB.out ho (by have := Zh.out; have := Z1.out; have := Z2.out; omega) HB.out.size)
    have Z3 : Hid (U3.heap.size = w2.heap.size) := Lib.hid (by rw [hU3]; simp [World.setCell]); clear ho
    have q_0 := HX2.look 0
    have q_1 := HX2.look 1
    have q_2 := HX2.look 2
    have q_3 := HX2.look 3
    have q_4 := HX2.look 4
    have q_5 := HX2.look 5
    subst hU3
    exact bodyPost_ret (v := .agg #[.int .i64 r, .int .i64 0, .bool false, .slice none 0 0, .bool false, .slice none 0 0]) (by simp [results, Try.results51, go_sem, q_0, q_1, q_2, q_3, q_4, q_5]) rfl ⟨none, 0, 0, none, 0, 0, by rw [HV.out.1, HV.out.2.1, HV.out.2.2.1, HV.out.2.2.2.2.1], by rw [HV.out.2.2.2.1, HV.out.2.2.2.2.2]; exact QK.kept (QK.nil _ _ _ _ _) (Nat.le_refl _), HB.out⟩
  have h0 : qf cap ys = 0 := Classical.byContradiction h0
  cases mk with
  | true =>
    have HB := Lib.hid (Below.refl w.heap.size w)
    have HA := Rep.Sl.kept ha hh
    have Zh := Lib.hid hh
    have HR := Lib.hid h0
    have hq8 := qf_ok h0
    have hn8 : n ≤ 1000 := by have := hq8.2.2.1; omega
    have HV : Hid (ppC cap true ys = 0 ∧ ppX cap true ys = cap ∧ ppP ys = false ∧ ppU cap true ys = ys ∧ ppT cap true ys = true ∧ ppZ cap true ys = []) := Lib.hid (by refine ⟨?_, ?_, ?_, ?_, ?_, ?_⟩ <;> simp [ppC, ppX, ppP, ppU, ppT, ppZ, h0])
    clear h0 hq8
    clear ha hl hh
    go_enter Try.func51, Try.ntmps51
    go_wp2_with fail
    refine Calls.name ?_
    intro U1 hU1
    have hb : Below w.heap.size w U1 := by rw [hU1]; exact (((Below.refl _ _).alloc (Nat.le_refl _) _).alloc (by simp <;> omega) _)
    have zz : Hid (w.heap.size + 2 = U1.heap.size) := Lib.hid (by rw [hU1]; simp)
    have HX1 : Kept w.heap.size (w.heap.size + 1) (BoxK w.heap.size 59 #[.int .i64 cap, .bool true, .slice A n c]) U1 := by rw [hU1]; exact Kept.box ((Box.made_at _ _ _ rfl).over _)
    have HX2 : Kept (w.heap.size + 1) (w.heap.size + 1 + 1) (BoxK (w.heap.size + 1) 63 #[.int .i64 0, .int .i64 0, .bool false, .slice none 0 0, .bool false, .slice none 0 0]) U1 := by rw [hU1]; exact Kept.box (Box.made_at _ _ _ (by simp <;> omega))
    replace HA := HA.below hb
    replace HB := Lib.hid (below_step HB.out hb)
    clear hb
    have Z1 := zz; clear zz
    clear hU1
    refine (specQueueFault_any cap true q lo hi A n c ys _ HA.sl HA.le hn).mono ?_
    rw [HR.out]
    rintro e w2 ⟨rfl, hb⟩
    have Z2 := Lib.hid hb.size
    replace HA := HA.below hb
    replace HX1 := HX1.below hb
    replace HX2 := HX2.below hb
    replace HB := Lib.hid (below_step HB.out hb)
    clear hb
    have l2_0 := HX1.bx.lt
    have l2_1 := HX2.bx.lt
    go_wp2_with fail
    clear l2_0 l2_1
    refine (l6Copy_any cap true w.heap.size q lo hi A n c ys _ HX1.bx HA.sl HA.le hn8).mono ?_
    rintro e w3 ⟨E, d, rfl, ho, hb⟩
    have Z3 := Lib.hid hb.size
    replace HA := HA.below hb
    replace HX1 := HX1.below hb
    replace HX2 := HX2.below hb
    replace HB := Lib.hid (below_step HB.out hb)
    clear hb
    have HO := ho; clear ho
    have c3_0 := HX1.look 1
    have c3_1 := HX2.look 0
    have c3_2 := HX2.look 1
    have c3_3 := HX2.look 2
    have c3_4 := HX2.look 3
    have c3_5 := HX2.look 4
    have c3_6 := HX2.look 5
    have f3_0 := HX2.free 0
    have f3_1 := HX2.free 1
    have f3_2 := HX2.free 2
    have f3_3 := HX2.free 3
    have f3_4 := HX2.free 4
    have f3_5 := HX2.free 5
    have l3_0 := HX1.bx.lt
    have l3_1 := HX2.bx.lt
    have n3_0_0 : ¬ (w.heap.size + 1) = w.heap.size := (by have := Zh.out; have := Z1.out; have := Z2.out; have := Z3.out; omega)
    have m3_0_0 : ¬ w.heap.size = (w.heap.size + 1) := (by have := Zh.out; have := Z1.out; have := Z2.out; have := Z3.out; omega)
    go_wp2
    clear c3_0 c3_1 c3_2 c3_3 c3_4 c3_5 c3_6 f3_0 f3_1 f3_2 f3_3 f3_4 f3_5 l3_0 l3_1 n3_0_0 m3_0_0
    obtain ⟨U4, hU4⟩ : ∃ W : World, W = ((((((w3.setCell ⟨w.heap.size + 1, 0, none⟩ (.int .i64 0)).setCell ⟨w.heap.size + 1, 1, none⟩ (.int .i64 cap)).setCell ⟨w.heap.size + 1, 2, none⟩ (.bool false)).setCell ⟨w.heap.size + 1, 3, none⟩ (.slice E n d)).setCell ⟨w.heap.size + 1, 4, none⟩ (.bool true)).setCell ⟨w.heap.size + 1, 5, none⟩ (.slice none 0 0)) := ⟨_, rfl⟩
    have ho : Only (w.heap.size + 1) (w.heap.size + 1 + 1) w3 U4 := by rw [hU4]; exact (((((((Only.refl _ _ _).set (p := ⟨w.heap.size + 1, 0, none⟩) (Nat.le_refl _) (Nat.lt_succ_self _) _).set (p := ⟨w.heap.size + 1, 1, none⟩) (Nat.le_refl _) (Nat.lt_succ_self _) _).set (p := ⟨w.heap.size + 1, 2, none⟩) (Nat.le_refl _) (Nat.lt_succ_self _) _).set (p := ⟨w.heap.size + 1, 3, none⟩) (Nat.le_refl _) (Nat.lt_succ_self _) _).set (p := ⟨w.heap.size + 1, 4, none⟩) (Nat.le_refl _) (Nat.lt_succ_self _) _).set (p := ⟨w.heap.size + 1, 5, none⟩) (Nat.le_refl _) (Nat.lt_succ_self _) _)
    replace HX2 : Kept (w.heap.size + 1) (w.heap.size + 1 + 1) (BoxK (w.heap.size + 1) 63 #[.int .i64 0, .int .i64 cap, .bool false, .slice E n d, .bool true, .slice none 0 0]) U4 := by rw [hU4]; exact Kept.box ((((((HX2.bx.puts 0 (.int .i64 0) (cs' := #[.int .i64 0, .int .i64 0, .bool false, .slice none 0 0, .bool false, .slice none 0 0]) rfl).puts 1 (.int .i64 cap) (cs' := #[.int .i64 0, .int .i64 cap, .bool false, .slice none 0 0, .bool false, .slice none 0 0]) rfl).puts 2 (.bool false) (cs' := #[.int .i64 0, .int .i64 cap, .bool false, .slice none 0 0, .bool false, .slice none 0 0]) rfl).puts 3 (.slice E n d) (cs' := #[.int .i64 0, .int .i64 cap, .bool false, .slice E n d, .bool false, .slice none 0 0]) rfl).puts 4 (.bool true) (cs' := #[.int .i64 0, .int .i64 cap, .bool false, .slice E n d, .bool true, .slice none 0 0]) rfl).puts 5 (.slice none 0 0) (cs' := #[.int .i64 0, .int .i64 cap, .bool false, .slice E n d, .bool true, .slice none 0 0]) rfl)
    replace HA := HA.only ho (by have := Zh.out; have := Z1.out; have := Z2.out; have := Z3.out; omega)
    replace HX1 := HX1.only ho (by have := Zh.out; have := Z1.out; have := Z2.out; have := Z3.out; omega)
    replace HO := HO.only ho (by have := Zh.out; have := Z1.out; have := Z2.out; have := Z3.out; omega)
    replace HB := Lib.hid (Below.only HB.out ho (by have := Zh.out; have := Z1.out; have := Z2.out; have := Z3.out; omega) HB.out.size)
    have Z4 : Hid (U4.heap.size = w3.heap.size) := Lib.hid (by rw [hU4]; simp [World.setCell]); clear ho
    obtain ⟨U5, hU5⟩ : ∃ W : World, W = (U4.alloc (.cells #[.int .i64 cap, .bool false, .slice E n d] 59)) := ⟨_, rfl⟩
    have hb : Below U4.heap.size U4 U5 := by rw [hU5]; exact ((Below.refl _ _).alloc (Nat.le_refl _) _)
    have zz : Hid (U4.heap.size + 1 = U5.heap.size) := Lib.hid (by rw [hU5]; simp)
    have HX3 : Kept w3.heap.size (w3.heap.size + 1) (BoxK w3.heap.size 59 #[.int .i64 cap, .bool false, .slice E n d]) U5 := by rw [hU5]; exact Kept.box (Box.made_at _ _ _ (by rw [hU4]; simp [World.setCell]))
    replace HA := HA.below hb
    replace HX1 := HX1.below hb
    replace HX2 := HX2.below hb
    replace HO := HO.below hb
    replace HB := Lib.hid (below_step HB.out hb)
    clear hb
    have Z5 := zz; clear zz
    have q_0 := HX2.look 0
    have q_1 := HX2.look 1
    have q_2 := HX2.look 2
    have q_3 := HX2.look 3
    have q_4 := HX2.look 4
    have q_5 := HX2.look 5
    subst hU5 hU4
    exact bodyPost_ret (v := .agg #[.int .i64 0, .int .i64 cap, .bool false, .slice E n d, .bool true, .slice none 0 0]) (by simp [results, Try.results51, go_sem, q_0, q_1, q_2, q_3, q_4, q_5]) rfl ⟨E, n, d, none, 0, 0, by rw [HV.out.1, HV.out.2.1, HV.out.2.2.1, HV.out.2.2.2.2.1], by rw [HV.out.2.2.2.1, HV.out.2.2.2.2.2]; exact QK.kept (QK.of_own (HO.ownF.mono (by have := Zh.out; have := Z1.out; have := Z2.out; have := Z3.out; have := Z4.out; have := Z5.out; omega)) (OwnF.nil_ _ _ _ _ _) (fun r _ h => by cases h)) (Nat.le_refl _), HB.out⟩
  | false =>
  by_cases hn0 : n = 0
  · have HB := Lib.hid (Below.refl w.heap.size w)
    have HA := Rep.Sl.kept ha hh
    have Zh := Lib.hid hh
    have hy0 : ys = [] := List.eq_nil_of_length_eq_zero (by omega)
    have h0e : qf cap [] = 0 := by rw [← hy0]; exact h0
    have HR := Lib.hid h0
    have hq8 := qf_ok h0
    have hn8 : n ≤ 1000 := by have := hq8.2.2.1; omega
    have HV : Hid (ppC cap false ys = 4 ∧ ppX cap false ys = 0 ∧ ppP ys = false ∧ ppU cap false ys = [] ∧ ppT cap false ys = false ∧ ppZ cap false ys = []) := Lib.hid (by refine ⟨?_, ?_, ?_, ?_, ?_, ?_⟩ <;> simp [ppC, ppX, ppP, ppU, ppT, ppZ, hy0, h0e])
    have hn1 : ((n : Int) == 0) = true := by rw [hn0]; rfl
    clear h0 hq8 hy0 hn0 h0e
    clear ha hl hh
    go_enter Try.func51, Try.ntmps51
    go_wp2_with fail
    refine Calls.name ?_
    intro U1 hU1
    have hb : Below w.heap.size w U1 := by rw [hU1]; exact (((Below.refl _ _).alloc (Nat.le_refl _) _).alloc (by simp <;> omega) _)
    have zz : Hid (w.heap.size + 2 = U1.heap.size) := Lib.hid (by rw [hU1]; simp)
    have HX1 : Kept w.heap.size (w.heap.size + 1) (BoxK w.heap.size 59 #[.int .i64 cap, .bool false, .slice A n c]) U1 := by rw [hU1]; exact Kept.box ((Box.made_at _ _ _ rfl).over _)
    have HX2 : Kept (w.heap.size + 1) (w.heap.size + 1 + 1) (BoxK (w.heap.size + 1) 63 #[.int .i64 0, .int .i64 0, .bool false, .slice none 0 0, .bool false, .slice none 0 0]) U1 := by rw [hU1]; exact Kept.box (Box.made_at _ _ _ (by simp <;> omega))
    replace HA := HA.below hb
    replace HB := Lib.hid (below_step HB.out hb)
    clear hb
    have Z1 := zz; clear zz
    clear hU1
    refine (specQueueFault_any cap false q lo hi A n c ys _ HA.sl HA.le hn).mono ?_
    rw [HR.out]
    rintro e w2 ⟨rfl, hb⟩
    have Z2 := Lib.hid hb.size
    replace HA := HA.below hb
    replace HX1 := HX1.below hb
    replace HX2 := HX2.below hb
    replace HB := Lib.hid (below_step HB.out hb)
    clear hb
    have l2_0 := HX1.bx.lt
    have l2_1 := HX2.bx.lt
    go_wp2_with fail
    clear l2_0 l2_1
    refine (l6Copy_any cap false w.heap.size q lo hi A n c ys _ HX1.bx HA.sl HA.le hn8).mono ?_
    rintro e w3 ⟨E, d, rfl, ho, hb⟩
    have Z3 := Lib.hid hb.size
    replace HA := HA.below hb
    replace HX1 := HX1.below hb
    replace HX2 := HX2.below hb
    replace HB := Lib.hid (below_step HB.out hb)
    clear hb
    have HO := ho; clear ho
    have c3_0 := HX1.look 1
    have c3_1 := HX1.look 2
    have c3_2 := HX2.look 0
    have c3_3 := HX2.look 1
    have c3_4 := HX2.look 2
    have c3_5 := HX2.look 3
    have c3_6 := HX2.look 4
    have c3_7 := HX2.look 5
    have f3_0 := HX2.free 0
    have f3_1 := HX2.free 1
    have f3_2 := HX2.free 2
    have f3_3 := HX2.free 3
    have f3_4 := HX2.free 4
    have f3_5 := HX2.free 5
    have l3_0 := HX1.bx.lt
    have l3_1 := HX2.bx.lt
    have n3_0_0 : ¬ (w.heap.size + 1) = w.heap.size := (by have := Zh.out; have := Z1.out; have := Z2.out; have := Z3.out; omega)
    have m3_0_0 : ¬ w.heap.size = (w.heap.size + 1) := (by have := Zh.out; have := Z1.out; have := Z2.out; have := Z3.out; omega)
    go_wp2
    clear c3_0 c3_1 c3_2 c3_3 c3_4 c3_5 c3_6 c3_7 f3_0 f3_1 f3_2 f3_3 f3_4 f3_5 l3_0 l3_1 n3_0_0 m3_0_0
    obtain ⟨U4, hU4⟩ : ∃ W : World, W = ((((((w3.setCell ⟨w.heap.size + 1, 0, none⟩ (.int .i64 4)).setCell ⟨w.heap.size + 1, 1, none⟩ (.int .i64 0)).setCell ⟨w.heap.size + 1, 2, none⟩ (.bool false)).setCell ⟨w.heap.size + 1, 3, none⟩ (.slice none 0 0)).setCell ⟨w.heap.size + 1, 4, none⟩ (.bool false)).setCell ⟨w.heap.size + 1, 5, none⟩ (.slice none 0 0)) := ⟨_, rfl⟩
    have ho : Only (w.heap.size + 1) (w.heap.size + 1 + 1) w3 U4 := by rw [hU4]; exact (((((((Only.refl _ _ _).set (p := ⟨w.heap.size + 1, 0, none⟩) (Nat.le_refl _) (Nat.lt_succ_self _) _).set (p := ⟨w.heap.size + 1, 1, none⟩) (Nat.le_refl _) (Nat.lt_succ_self _) _).set (p := ⟨w.heap.size + 1, 2, none⟩) (Nat.le_refl _) (Nat.lt_succ_self _) _).set (p := ⟨w.heap.size + 1, 3, none⟩) (Nat.le_refl _) (Nat.lt_succ_self _) _).set (p := ⟨w.heap.size + 1, 4, none⟩) (Nat.le_refl _) (Nat.lt_succ_self _) _).set (p := ⟨w.heap.size + 1, 5, none⟩) (Nat.le_refl _) (Nat.lt_succ_self _) _)
    replace HX2 : Kept (w.heap.size + 1) (w.heap.size + 1 + 1) (BoxK (w.heap.size + 1) 63 #[.int .i64 4, .int .i64 0, .bool false, .slice none 0 0, .bool false, .slice none 0 0]) U4 := by rw [hU4]; exact Kept.box ((((((HX2.bx.puts 0 (.int .i64 4) (cs' := #[.int .i64 4, .int .i64 0, .bool false, .slice none 0 0, .bool false, .slice none 0 0]) rfl).puts 1 (.int .i64 0) (cs' := #[.int .i64 4, .int .i64 0, .bool false, .slice none 0 0, .bool false, .slice none 0 0]) rfl).puts 2 (.bool false) (cs' := #[.int .i64 4, .int .i64 0, .bool false, .slice none 0 0, .bool false, .slice none 0 0]) rfl).puts 3 (.slice none 0 0) (cs' := #[.int .i64 4, .int .i64 0, .bool false, .slice none 0 0, .bool false, .slice none 0 0]) rfl).puts 4 (.bool false) (cs' := #[.int .i64 4, .int .i64 0, .bool false, .slice none 0 0, .bool false, .slice none 0 0]) rfl).puts 5 (.slice none 0 0) (cs' := #[.int .i64 4, .int .i64 0, .bool false, .slice none 0 0, .bool false, .slice none 0 0]) rfl)
    replace HA := HA.only ho (by have := Zh.out; have := Z1.out; have := Z2.out; have := Z3.out; omega)
    replace HX1 := HX1.only ho (by have := Zh.out; have := Z1.out; have := Z2.out; have := Z3.out; omega)
    replace HO := HO.only ho (by have := Zh.out; have := Z1.out; have := Z2.out; have := Z3.out; omega)
    replace HB := Lib.hid (Below.only HB.out ho (by have := Zh.out; have := Z1.out; have := Z2.out; have := Z3.out; omega) HB.out.size)
    have Z4 : Hid (U4.heap.size = w3.heap.size) := Lib.hid (by rw [hU4]; simp [World.setCell]); clear ho
    obtain ⟨U5, hU5⟩ : ∃ W : World, W = (U4.alloc (.cells #[.int .i64 cap, .bool false, .slice E n d] 59)) := ⟨_, rfl⟩
    have hb : Below U4.heap.size U4 U5 := by rw [hU5]; exact ((Below.refl _ _).alloc (Nat.le_refl _) _)
    have zz : Hid (U4.heap.size + 1 = U5.heap.size) := Lib.hid (by rw [hU5]; simp)
    have HX3 : Kept w3.heap.size (w3.heap.size + 1) (BoxK w3.heap.size 59 #[.int .i64 cap, .bool false, .slice E n d]) U5 := by rw [hU5]; exact Kept.box (Box.made_at _ _ _ (by rw [hU4]; simp [World.setCell]))
    replace HA := HA.below hb
    replace HX1 := HX1.below hb
    replace HX2 := HX2.below hb
    replace HO := HO.below hb
    replace HB := Lib.hid (below_step HB.out hb)
    clear hb
    have Z5 := zz; clear zz
    have q_0 := HX2.look 0
    have q_1 := HX2.look 1
    have q_2 := HX2.look 2
    have q_3 := HX2.look 3
    have q_4 := HX2.look 4
    have q_5 := HX2.look 5
    subst hU5 hU4
    exact bodyPost_ret (v := .agg #[.int .i64 4, .int .i64 0, .bool false, .slice none 0 0, .bool false, .slice none 0 0]) (by simp [results, Try.results51, go_sem, q_0, q_1, q_2, q_3, q_4, q_5]) rfl ⟨none, 0, 0, none, 0, 0, by rw [HV.out.1, HV.out.2.1, HV.out.2.2.1, HV.out.2.2.2.2.1], by rw [HV.out.2.2.2.1, HV.out.2.2.2.2.2]; exact QK.kept (QK.nil _ _ _ _ _) (Nat.le_refl _), HB.out⟩
  · have HB := Lib.hid (Below.refl w.heap.size w)
    have HA := Rep.Sl.kept ha hh
    have Zh := Lib.hid hh
    have hy : ¬ ys = [] := fun e => hn0 (by rw [← hl, e]; rfl)
    obtain ⟨b, o, a, rfl, hya, a0, a1, a2, a3⟩ := Rep.timer_at ha (show 0 < n by omega)
    have HT1 : Hid (ys.take 1 = [a]) := Lib.hid (by cases ys with
          | nil => simp at hya
          | cons y t => simp at hya; rw [hya]; rfl)
    have HR := Lib.hid h0
    have hq8 := qf_ok h0
    have hn8 : n ≤ 1000 := by have := hq8.2.2.1; omega
    have HV : Hid (ppC cap false ys = 0 ∧ ppX cap false ys = cap ∧ ppP ys = false ∧ ppU cap false ys = (ys.drop 1) ∧ ppT cap false ys = false ∧ ppZ cap false ys = (ys.take 1)) := Lib.hid (by refine ⟨?_, ?_, ?_, ?_, ?_, ?_⟩ <;> simp [ppC, ppX, ppP, ppU, ppT, ppZ, h0, hy])
    have hn1 : ((n : Int) == 0) = false := by rw [beq_eq_false_iff_ne]; omega
    have hpos : 1 ≤ n := by omega
    have hposz : (0 : Int) < n := by omega
    clear h0 hq8 hy hn0 hya a0 a1 a2 a3
    clear ha hl hh
    go_enter Try.func51, Try.ntmps51
    go_wp2_with fail
    refine Calls.name ?_
    intro U1 hU1
    have hb : Below w.heap.size w U1 := by rw [hU1]; exact (((Below.refl _ _).alloc (Nat.le_refl _) _).alloc (by simp <;> omega) _)
    have zz : Hid (w.heap.size + 2 = U1.heap.size) := Lib.hid (by rw [hU1]; simp)
    have HX1 : Kept w.heap.size (w.heap.size + 1) (BoxK w.heap.size 59 #[.int .i64 cap, .bool false, .slice (some ⟨b, o, none⟩) n c]) U1 := by rw [hU1]; exact Kept.box ((Box.made_at _ _ _ rfl).over _)
    have HX2 : Kept (w.heap.size + 1) (w.heap.size + 1 + 1) (BoxK (w.heap.size + 1) 63 #[.int .i64 0, .int .i64 0, .bool false, .slice none 0 0, .bool false, .slice none 0 0]) U1 := by rw [hU1]; exact Kept.box (Box.made_at _ _ _ (by simp <;> omega))
    replace HA := HA.below hb
    replace HB := Lib.hid (below_step HB.out hb)
    clear hb
    have Z1 := zz; clear zz
    clear hU1
    refine (specQueueFault_any cap false q lo hi _ n c ys _ HA.sl HA.le hn).mono ?_
    rw [HR.out]
    rintro e w2 ⟨rfl, hb⟩
    have Z2 := Lib.hid hb.size
    replace HA := HA.below hb
    replace HX1 := HX1.below hb
    replace HX2 := HX2.below hb
    replace HB := Lib.hid (below_step HB.out hb)
    clear hb
    have l2_0 := HX1.bx.lt
    have l2_1 := HX2.bx.lt
    go_wp2_with fail
    clear l2_0 l2_1
    refine (l6Copy_any cap false w.heap.size q lo hi _ n c ys _ HX1.bx HA.sl HA.le hn8).mono ?_
    rintro e w3 ⟨E, d, rfl, ho, hb⟩
    have Z3 := Lib.hid hb.size
    replace HA := HA.below hb
    replace HX1 := HX1.below hb
    replace HX2 := HX2.below hb
    replace HB := Lib.hid (below_step HB.out hb)
    clear hb
    have HO := ho; clear ho
    obtain ⟨ge, rfl, hg1, hg2⟩ := HO.ownF.form (by omega)
    have hnd : n ≤ d := by
          rcases HO.ownF.2.2 with ⟨h', _⟩ | ⟨g', cap', cur, h1, _, _, h4, _⟩
          · simp at h'
          · simp only [Value.slice.injEq] at h1; omega
    have Zge := Lib.hid (And.intro hg1 hg2); clear hg1 hg2
    have hd1 : (1 : Int) ≤ d := by omega
    by_cases hd : d = 1
    · have hnn : n = 1 := by omega
      subst hnn
      subst hd
      clear hnd hd1 hn1 hpos hposz hn hn8
      have c3_0 := HX1.look 1
      have c3_1 := HX1.look 2
      have l3_0 := HX1.bx.lt
      have l3_1 := HX2.bx.lt
      go_wp2_with fail
      clear c3_0 c3_1 l3_0 l3_1
      refine Code.wp_name ?_
      intro U4 hU4
      have hb : Below w3.heap.size w3 U4 := by rw [hU4]; exact ((Below.refl _ _).alloc (Nat.le_refl _) _)
      have zz : Hid (w3.heap.size + 1 = U4.heap.size) := Lib.hid (by rw [hU4]; simp)
      have HX3 : Kept w3.heap.size (w3.heap.size + 1) (BoxK w3.heap.size 59 #[.int .i64 cap, .bool false, .slice (some ⟨ge, 0, none⟩) 0 0]) U4 := by rw [hU4]; exact Kept.box (Box.made_at _ _ _ rfl)
      replace HA := HA.below hb
      replace HX1 := HX1.below hb
      replace HX2 := HX2.below hb
      replace HO := HO.below hb
      replace HB := Lib.hid (below_step HB.out hb)
      clear hb
      have Z4 := zz; clear zz
      clear hU4
      obtain ⟨b', o', a', e', hya', a0, a1, a2, a3⟩ := Rep.timer_at HA.sl (show 0 < 1 by omega)
      injection e' with e'; injection e' with e1 e2 _; subst e1 e2
      have HT2 : Hid (ys.take 1 = [a']) := Lib.hid (by cases ys with
              | nil => simp at hya'
              | cons y t => simp at hya'; rw [hya']; rfl)
      simp only [Nat.zero_mul, Nat.add_zero] at a0 a1 a2 a3
      clear hya'
      have hbl := World.block_lt_of_cell? _ _ a0
      have t0 := HX3.look 0
      have t1 := HX3.look 1
      have t2 := HX3.look 2
      have s2 := HX1.look 2
      have r0 := HX2.look 0
      have f0 := HX2.free 0
      have r1 := HX2.look 1
      have f1 := HX2.free 1
      have r2 := HX2.look 2
      have f2 := HX2.free 2
      have r3 := HX2.look 3
      have f3 := HX2.free 3
      have r4 := HX2.look 4
      have f4 := HX2.free 4
      have r5 := HX2.look 5
      have f5 := HX2.free 5
      have lHX3 := HX3.bx.lt
      have lHX2 := HX2.bx.lt
      have lHX1 := HX1.bx.lt
      go_region_law (fail)
      all_goals
        clear t0 t1 t2 s2 r0 f0 r1 f1 r2 f2 r3 f3 r4 f4 r5 f5 a0 a1 a2 a3 hbl
        clear lHX3
        clear lHX2
        clear lHX1
        have l4_0 := HX1.bx.lt
        have l4_1 := HX2.bx.lt
        have l4_2 := HX3.bx.lt
        go_wp2
        clear l4_0 l4_1 l4_2
        obtain ⟨U5, hU5⟩ : ∃ W : World, W = ((((((U4.setCell ⟨w.heap.size + 1, 0, none⟩ (.int .i64 0)).setCell ⟨w.heap.size + 1, 1, none⟩ (.int .i64 cap)).setCell ⟨w.heap.size + 1, 2, none⟩ (.bool false)).setCell ⟨w.heap.size + 1, 3, none⟩ (.slice (some ⟨ge, 0, none⟩) 0 0)).setCell ⟨w.heap.size + 1, 4, none⟩ (.bool false)).setCell ⟨w.heap.size + 1, 5, none⟩ (.slice (some ⟨U4.heap.size, 0, none⟩) 1 1)) := ⟨_, rfl⟩
        have ho : Only (w.heap.size + 1) (w.heap.size + 1 + 1) U4 U5 := by rw [hU5]; exact (((((((Only.refl _ _ _).set (p := ⟨w.heap.size + 1, 0, none⟩) (Nat.le_refl _) (Nat.lt_succ_self _) _).set (p := ⟨w.heap.size + 1, 1, none⟩) (Nat.le_refl _) (Nat.lt_succ_self _) _).set (p := ⟨w.heap.size + 1, 2, none⟩) (Nat.le_refl _) (Nat.lt_succ_self _) _).set (p := ⟨w.heap.size + 1, 3, none⟩) (Nat.le_refl _) (Nat.lt_succ_self _) _).set (p := ⟨w.heap.size + 1, 4, none⟩) (Nat.le_refl _) (Nat.lt_succ_self _) _).set (p := ⟨w.heap.size + 1, 5, none⟩) (Nat.le_refl _) (Nat.lt_succ_self _) _)
        replace HX2 : Kept (w.heap.size + 1) (w.heap.size + 1 + 1) (BoxK (w.heap.size + 1) 63 #[.int .i64 0, .int .i64 cap, .bool false, .slice (some ⟨ge, 0, none⟩) 0 0, .bool false, .slice (some ⟨U4.heap.size, 0, none⟩) 1 1]) U5 := by rw [hU5]; exact Kept.box ((((((HX2.bx.puts 0 (.int .i64 0) (cs' := #[.int .i64 0, .int .i64 0, .bool false, .slice none 0 0, .bool false, .slice none 0 0]) rfl).puts 1 (.int .i64 cap) (cs' := #[.int .i64 0, .int .i64 cap, .bool false, .slice none 0 0, .bool false, .slice none 0 0]) rfl).puts 2 (.bool false) (cs' := #[.int .i64 0, .int .i64 cap, .bool false, .slice none 0 0, .bool false, .slice none 0 0]) rfl).puts 3 (.slice (some ⟨ge, 0, none⟩) 0 0) (cs' := #[.int .i64 0, .int .i64 cap, .bool false, .slice (some ⟨ge, 0, none⟩) 0 0, .bool false, .slice none 0 0]) rfl).puts 4 (.bool false) (cs' := #[.int .i64 0, .int .i64 cap, .bool false, .slice (some ⟨ge, 0, none⟩) 0 0, .bool false, .slice none 0 0]) rfl).puts 5 (.slice (some ⟨U4.heap.size, 0, none⟩) 1 1) (cs' := #[.int .i64 0, .int .i64 cap, .bool false, .slice (some ⟨ge, 0, none⟩) 0 0, .bool false, .slice (some ⟨U4.heap.size, 0, none⟩) 1 1]) rfl)
        replace HA := HA.only ho (by have := Zh.out; have := Z1.out; have := Z2.out; have := Z3.out; have := Zge.out; have := Z4.out; omega)
        replace HX1 := HX1.only ho (by have := Zh.out; have := Z1.out; have := Z2.out; have := Z3.out; have := Zge.out; have := Z4.out; omega)
        replace HO := HO.only ho (by have := Zh.out; have := Z1.out; have := Z2.out; have := Z3.out; have := Zge.out; have := Z4.out; omega)
        replace HX3 := HX3.only ho (by have := Zh.out; have := Z1.out; have := Z2.out; have := Z3.out; have := Zge.out; have := Z4.out; omega)
        replace HB := Lib.hid (Below.only HB.out ho (by have := Zh.out; have := Z1.out; have := Z2.out; have := Z3.out; have := Zge.out; have := Z4.out; omega) HB.out.size)
        have Z5 : Hid (U5.heap.size = U4.heap.size) := Lib.hid (by rw [hU5]; simp [World.setCell]); clear ho
        obtain ⟨U6, hU6⟩ : ∃ W : World, W = (U5.alloc (.cells #[.int .i64 a'.typ, .int .i64 a'.id, .int .i64 a'.adv, .int .i64 a'.due] 66)).drew := ⟨_, rfl⟩
        have hb : Below U5.heap.size U5 U6 := by rw [hU6]; exact ((Below.refl _ _).alloc (Nat.le_refl _) _).drew
        have zz : Hid (U5.heap.size + 1 = U6.heap.size) := Lib.hid (by rw [hU6]; simp)
        have HX4 : Kept U4.heap.size (U4.heap.size + 1) (BoxK U4.heap.size 66 #[.int .i64 a'.typ, .int .i64 a'.id, .int .i64 a'.adv, .int .i64 a'.due]) U6 := by rw [hU6]; exact Kept.box (show Box _ _ _ _ from (Box.made_at _ _ _ (by rw [hU5]; simp [World.setCell])))
        replace HA := HA.below hb
        replace HX1 := HX1.below hb
        replace HX2 := HX2.below hb
        replace HO := HO.below hb
        replace HX3 := HX3.below hb
        replace HB := Lib.hid (below_step HB.out hb)
        clear hb
        have Z6 := zz; clear zz
        have q_0 := HX2.look 0
        have q_1 := HX2.look 1
        have q_2 := HX2.look 2
        have q_3 := HX2.look 3
        have q_4 := HX2.look 4
        have q_5 := HX2.look 5
        subst hU6 hU5
        exact bodyPost_ret (v := .agg #[.int .i64 0, .int .i64 cap, .bool false, .slice (some ⟨ge, 0, none⟩) 0 0, .bool false, .slice (some ⟨U4.heap.size, 0, none⟩) 1 1]) (by simp [results, Try.results51, go_sem, q_0, q_1, q_2, q_3, q_4, q_5]) rfl ⟨_, _, _, _, _, ⟨_, by rw [HV.out.1, HV.out.2.1, HV.out.2.2.1, HV.out.2.2.2.2.1]⟩, by rw [HV.out.2.2.2.1, HV.out.2.2.2.2.2, HT2.out]; exact QK.kept (by obtain ⟨bs, f1, f2, f3⟩ := items_end HO.ownF; exact QK.from_box f1 f2 (fun x hx => by have := f3 x hx; have := Zh.out; have := Z1.out; have := Z2.out; have := Z3.out; have := Zge.out; have := Z4.out; have := Z5.out; have := Z6.out; omega) (Nat.le_refl _) HX4.bx (by have := Zh.out; have := Z1.out; have := Z2.out; have := Z3.out; have := Zge.out; have := Z4.out; have := Z5.out; have := Z6.out; omega) (fun x hx => by have := f3 x hx; have := Zh.out; have := Z1.out; have := Z2.out; have := Z3.out; have := Zge.out; have := Z4.out; have := Z5.out; have := Z6.out; omega)) (Nat.le_refl _), HB.out⟩
    · have hd2 : ¬ 1 = d := fun e => hd e.symm
      have hpn : 0 < n := by omega
      have c3_0 := HX1.look 1
      have c3_1 := HX1.look 2
      have l3_0 := HX1.bx.lt
      have l3_1 := HX2.bx.lt
      go_wp2_with fail
      clear c3_0 c3_1 l3_0 l3_1
      refine Code.wp_name ?_
      intro U4 hU4
      have hb : Below w3.heap.size w3 U4 := by rw [hU4]; exact ((Below.refl _ _).alloc (Nat.le_refl _) _)
      have zz : Hid (w3.heap.size + 1 = U4.heap.size) := Lib.hid (by rw [hU4]; simp)
      have HX3 : Kept w3.heap.size (w3.heap.size + 1) (BoxK w3.heap.size 59 #[.int .i64 cap, .bool false, .slice (some ⟨ge, 4, none⟩) (n - 1) (d - 1)]) U4 := by rw [hU4]; exact Kept.box (Box.made_at _ _ _ rfl)
      replace HA := HA.below hb
      replace HX1 := HX1.below hb
      replace HX2 := HX2.below hb
      replace HO := HO.below hb
      replace HB := Lib.hid (below_step HB.out hb)
      clear hb
      have Z4 := zz; clear zz
      clear hU4
      obtain ⟨b', o', a', e', hya', a0, a1, a2, a3⟩ := Rep.timer_at HA.sl (show 0 < n by omega)
      injection e' with e'; injection e' with e1 e2 _; subst e1 e2
      have HT2 : Hid (ys.take 1 = [a']) := Lib.hid (by cases ys with
              | nil => simp at hya'
              | cons y t => simp at hya'; rw [hya']; rfl)
      simp only [Nat.zero_mul, Nat.add_zero] at a0 a1 a2 a3
      clear hya'
      have hbl := World.block_lt_of_cell? _ _ a0
      have t0 := HX3.look 0
      have t1 := HX3.look 1
      have t2 := HX3.look 2
      have s2 := HX1.look 2
      have r0 := HX2.look 0
      have f0 := HX2.free 0
      have r1 := HX2.look 1
      have f1 := HX2.free 1
      have r2 := HX2.look 2
      have f2 := HX2.free 2
      have r3 := HX2.look 3
      have f3 := HX2.free 3
      have r4 := HX2.look 4
      have f4 := HX2.free 4
      have r5 := HX2.look 5
      have f5 := HX2.free 5
      have lHX3 := HX3.bx.lt
      have lHX2 := HX2.bx.lt
      have lHX1 := HX1.bx.lt
      go_region_law (fail)
      all_goals
        clear t0 t1 t2 s2 r0 f0 r1 f1 r2 f2 r3 f3 r4 f4 r5 f5 a0 a1 a2 a3 hbl
        clear lHX3
        clear lHX2
        clear lHX1
        have l4_0 := HX1.bx.lt
        have l4_1 := HX2.bx.lt
        have l4_2 := HX3.bx.lt
        go_wp2
        clear l4_0 l4_1 l4_2
        obtain ⟨U5, hU5⟩ : ∃ W : World, W = ((((((U4.setCell ⟨w.heap.size + 1, 0, none⟩ (.int .i64 0)).setCell ⟨w.heap.size + 1, 1, none⟩ (.int .i64 cap)).setCell ⟨w.heap.size + 1, 2, none⟩ (.bool false)).setCell ⟨w.heap.size + 1, 3, none⟩ (.slice (some ⟨ge, 4, none⟩) (n - 1) (d - 1))).setCell ⟨w.heap.size + 1, 4, none⟩ (.bool false)).setCell ⟨w.heap.size + 1, 5, none⟩ (.slice (some ⟨U4.heap.size, 0, none⟩) 1 1)) := ⟨_, rfl⟩
        have ho : Only (w.heap.size + 1) (w.heap.size + 1 + 1) U4 U5 := by rw [hU5]; exact (((((((Only.refl _ _ _).set (p := ⟨w.heap.size + 1, 0, none⟩) (Nat.le_refl _) (Nat.lt_succ_self _) _).set (p := ⟨w.heap.size + 1, 1, none⟩) (Nat.le_refl _) (Nat.lt_succ_self _) _).set (p := ⟨w.heap.size + 1, 2, none⟩) (Nat.le_refl _) (Nat.lt_succ_self _) _).set (p := ⟨w.heap.size + 1, 3, none⟩) (Nat.le_refl _) (Nat.lt_succ_self _) _).set (p := ⟨w.heap.size + 1, 4, none⟩) (Nat.le_refl _) (Nat.lt_succ_self _) _).set (p := ⟨w.heap.size + 1, 5, none⟩) (Nat.le_refl _) (Nat.lt_succ_self _) _)
        replace HX2 : Kept (w.heap.size + 1) (w.heap.size + 1 + 1) (BoxK (w.heap.size + 1) 63 #[.int .i64 0, .int .i64 cap, .bool false, .slice (some ⟨ge, 4, none⟩) (n - 1) (d - 1), .bool false, .slice (some ⟨U4.heap.size, 0, none⟩) 1 1]) U5 := by rw [hU5]; exact Kept.box ((((((HX2.bx.puts 0 (.int .i64 0) (cs' := #[.int .i64 0, .int .i64 0, .bool false, .slice none 0 0, .bool false, .slice none 0 0]) rfl).puts 1 (.int .i64 cap) (cs' := #[.int .i64 0, .int .i64 cap, .bool false, .slice none 0 0, .bool false, .slice none 0 0]) rfl).puts 2 (.bool false) (cs' := #[.int .i64 0, .int .i64 cap, .bool false, .slice none 0 0, .bool false, .slice none 0 0]) rfl).puts 3 (.slice (some ⟨ge, 4, none⟩) (n - 1) (d - 1)) (cs' := #[.int .i64 0, .int .i64 cap, .bool false, .slice (some ⟨ge, 4, none⟩) (n - 1) (d - 1), .bool false, .slice none 0 0]) rfl).puts 4 (.bool false) (cs' := #[.int .i64 0, .int .i64 cap, .bool false, .slice (some ⟨ge, 4, none⟩) (n - 1) (d - 1), .bool false, .slice none 0 0]) rfl).puts 5 (.slice (some ⟨U4.heap.size, 0, none⟩) 1 1) (cs' := #[.int .i64 0, .int .i64 cap, .bool false, .slice (some ⟨ge, 4, none⟩) (n - 1) (d - 1), .bool false, .slice (some ⟨U4.heap.size, 0, none⟩) 1 1]) rfl)
        replace HA := HA.only ho (by have := Zh.out; have := Z1.out; have := Z2.out; have := Z3.out; have := Zge.out; have := Z4.out; omega)
        replace HX1 := HX1.only ho (by have := Zh.out; have := Z1.out; have := Z2.out; have := Z3.out; have := Zge.out; have := Z4.out; omega)
        replace HO := HO.only ho (by have := Zh.out; have := Z1.out; have := Z2.out; have := Z3.out; have := Zge.out; have := Z4.out; omega)
        replace HX3 := HX3.only ho (by have := Zh.out; have := Z1.out; have := Z2.out; have := Z3.out; have := Zge.out; have := Z4.out; omega)
        replace HB := Lib.hid (Below.only HB.out ho (by have := Zh.out; have := Z1.out; have := Z2.out; have := Z3.out; have := Zge.out; have := Z4.out; omega) HB.out.size)
        have Z5 : Hid (U5.heap.size = U4.heap.size) := Lib.hid (by rw [hU5]; simp [World.setCell]); clear ho
        obtain ⟨U6, hU6⟩ : ∃ W : World, W = (U5.alloc (.cells #[.int .i64 a'.typ, .int .i64 a'.id, .int .i64 a'.adv, .int .i64 a'.due] 66)).drew := ⟨_, rfl⟩
        have hb : Below U5.heap.size U5 U6 := by rw [hU6]; exact ((Below.refl _ _).alloc (Nat.le_refl _) _).drew
        have zz : Hid (U5.heap.size + 1 = U6.heap.size) := Lib.hid (by rw [hU6]; simp)
        have HX4 : Kept U4.heap.size (U4.heap.size + 1) (BoxK U4.heap.size 66 #[.int .i64 a'.typ, .int .i64 a'.id, .int .i64 a'.adv, .int .i64 a'.due]) U6 := by rw [hU6]; exact Kept.box (show Box _ _ _ _ from (Box.made_at _ _ _ (by rw [hU5]; simp [World.setCell])))
        replace HA := HA.below hb
        replace HX1 := HX1.below hb
        replace HX2 := HX2.below hb
        replace HO := HO.below hb
        replace HX3 := HX3.below hb
        replace HB := Lib.hid (below_step HB.out hb)
        clear hb
        have Z6 := zz; clear zz
        have q_0 := HX2.look 0
        have q_1 := HX2.look 1
        have q_2 := HX2.look 2
        have q_3 := HX2.look 3
        have q_4 := HX2.look 4
        have q_5 := HX2.look 5
        subst hU6 hU5
        exact bodyPost_ret (v := .agg #[.int .i64 0, .int .i64 cap, .bool false, .slice (some ⟨ge, 4, none⟩) (n - 1) (d - 1), .bool false, .slice (some ⟨U4.heap.size, 0, none⟩) 1 1]) (by simp [results, Try.results51, go_sem, q_0, q_1, q_2, q_3, q_4, q_5]) rfl ⟨_, _, _, _, _, ⟨_, by rw [HV.out.1, HV.out.2.1, HV.out.2.2.1, HV.out.2.2.2.2.1]⟩, by rw [HV.out.2.2.2.1, HV.out.2.2.2.2.2, HT2.out]; exact QK.kept (by obtain ⟨bs, f1, f2, f3⟩ := items_from HO.ownF 1; exact QK.from_box f1 f2 (fun x hx => by have := f3 x hx; have := Zh.out; have := Z1.out; have := Z2.out; have := Z3.out; have := Zge.out; have := Z4.out; have := Z5.out; have := Z6.out; omega) (Nat.le_refl _) HX4.bx (by have := Zh.out; have := Z1.out; have := Z2.out; have := Z3.out; have := Zge.out; have := Z4.out; have := Z5.out; have := Z6.out; omega) (fun x hx => by have := f3 x hx; have := Zh.out; have := Z1.out; have := Z2.out; have := Z3.out; have := Zge.out; have := Z4.out; have := Z5.out; have := Z6.out; omega)) (Nat.le_refl _), HB.out⟩

end Go.Proofs.Ytiffhjofabaflaa

namespace Go.Proofs.Ytiffhjofabaflaa
open Go.RowKit
set_option linter.unusedVariables false

set_option maxRecDepth 100000 in
set_option maxHeartbeats 3200000 in
theorem pushItemR_any (cap : Int) (mk : Bool) (q : Bool) (lo hi : Nat) (A : Option Addr) (n c : Nat) (ys : List Tmr) (x : Tmr) (w : World) (ha : Rep.timer.Sl q lo hi w A n ys) (hh : hi ≤ w.heap.size) (hn : n ≤ 1048576) (hc : n ≤ c) :
    Calls Try.prog 43 #[.agg #[.int .i64 cap, .bool mk, .slice A n c], .agg #[.int .i64 x.typ, .int .i64 x.id, .int .i64 x.adv, .int .i64 x.due]] w fun e w' => ∃ O j k E m d, e = .returned (.agg #[.int .i64 (paC cap mk ys [x]), .int .i64 (paX cap mk ys [x]), .bool (paP cap mk ys [x]), .slice O j k, .bool (paT ys), .slice E m d]) ∧ Kept w.heap.size w'.heap.size (QK w.heap.size w'.heap.size O j (paU cap mk ys [x]) E m (paZ ys)) w' ∧ Below w.heap.size w w' ∧ j ≤ k := by
  have HB := Lib.hid (Below.refl w.heap.size w)
  have HA := Rep.Sl.kept ha hh
  have Zh := Lib.hid hh
  clear ha hh
  obtain ⟨vc, hv⟩ : ∃ z, paC cap mk ys [x] = z := ⟨_, rfl⟩
  have HVvc := Lib.hid hv
  rw [hv]
  clear hv
  obtain ⟨vx, hv⟩ : ∃ z, paX cap mk ys [x] = z := ⟨_, rfl⟩
  have HVvx := Lib.hid hv
  rw [hv]
  clear hv
  obtain ⟨vp, hv⟩ : ∃ z, paP cap mk ys [x] = z := ⟨_, rfl⟩
  have HVvp := Lib.hid hv
  rw [hv]
  clear hv
  obtain ⟨vu, hv⟩ : ∃ z, paU cap mk ys [x] = z := ⟨_, rfl⟩
  have HVvu := Lib.hid hv
  rw [hv]
  clear hv
  obtain ⟨vt, hv⟩ : ∃ z, paT ys = z := ⟨_, rfl⟩
  have HVvt := Lib.hid hv
  rw [hv]
  clear hv
  obtain ⟨vz, hv⟩ : ∃ z, paZ ys = z := ⟨_, rfl⟩
  have HVvz := Lib.hid hv
  rw [hv]
  clear hv
  go_enter Try.func43, Try.ntmps43
  go_wp2_with fail
  refine Calls.name ?_
  intro U1 hU1
  have hb : Below w.heap.size w U1 := by rw [hU1]; exact (((((Below.refl _ _).alloc (Nat.le_refl _) _).alloc (by simp <;> omega) _).alloc (by simp <;> omega) _).alloc (by simp <;> omega) _)
  have zz : Hid (w.heap.size + 4 = U1.heap.size) := Lib.hid (by rw [hU1]; simp)
  have HX1 : Kept w.heap.size (w.heap.size + 1) (BoxK w.heap.size 59 #[.int .i64 cap, .bool mk, .slice A n c]) U1 := by rw [hU1]; exact Kept.box ((((Box.made_at _ _ _ rfl).over _).over _).over _)
  have HX2 : Kept (w.heap.size + 1) (w.heap.size + 1 + 1) (BoxK (w.heap.size + 1) 66 #[.int .i64 x.typ, .int .i64 x.id, .int .i64 x.adv, .int .i64 x.due]) U1 := by rw [hU1]; exact Kept.box (((Box.made_at _ _ _ (by simp <;> omega)).over _).over _)
  have HX3 : Kept (w.heap.size + 1 + 1) (w.heap.size + 1 + 1 + 1) (BoxK (w.heap.size + 1 + 1) 63 #[.int .i64 0, .int .i64 0, .bool false, .slice none 0 0, .bool false, .slice none 0 0]) U1 := by rw [hU1]; exact Kept.box ((Box.made_at _ _ _ (by simp <;> omega)).over _)
  have HX4 : Kept (w.heap.size + 1 + 1 + 1) (w.heap.size + 1 + 1 + 1 + 1) (BoxK (w.heap.size + 1 + 1 + 1) 66 #[.int .i64 x.typ, .int .i64 x.id, .int .i64 x.adv, .int .i64 x.due]) U1 := by rw [hU1]; exact Kept.box (Box.made_at _ _ _ (by simp <;> omega))
  replace HA := HA.below hb
  replace HB := Lib.hid (below_step HB.out hb)
  clear hb
  have Z1 := zz; clear zz
  clear hU1
  refine (pushAllR_any cap mk q lo hi A n c ys true _ _ (some ⟨w.heap.size + 1 + 1 + 1, 0, none⟩) 1 1 [x] _ HA.sl HA.le hn (sl_one HX4.bx) HX4.le (by omega) hc).mono ?_
  rw [HVvc.out, HVvx.out, HVvp.out, HVvu.out, HVvt.out, HVvz.out]
  rintro e w2 ⟨O, j, k, E, m, d, rfl, hk, hb, hjk⟩
  have Z2 := Lib.hid hb.size
  replace HA := HA.below hb
  replace HX1 := HX1.below hb
  replace HX2 := HX2.below hb
  replace HX3 := HX3.below hb
  replace HX4 := HX4.below hb
  replace HB := Lib.hid (below_step HB.out hb)
  clear hb
  have HQ := hk; clear hk
  have c2_0 := HX3.look 0
  have c2_1 := HX3.look 1
  have c2_2 := HX3.look 2
  have c2_3 := HX3.look 3
  have c2_4 := HX3.look 4
  have c2_5 := HX3.look 5
  have f2_0 := HX3.free 0
  have f2_1 := HX3.free 1
  have f2_2 := HX3.free 2
  have f2_3 := HX3.free 3
  have f2_4 := HX3.free 4
  have f2_5 := HX3.free 5
  have l2_0 := HX1.bx.lt
  have l2_1 := HX2.bx.lt
  have l2_2 := HX3.bx.lt
  have l2_3 := HX4.bx.lt
  go_wp2
  clear c2_0 c2_1 c2_2 c2_3 c2_4 c2_5 f2_0 f2_1 f2_2 f2_3 f2_4 f2_5 l2_0 l2_1 l2_2 l2_3
  obtain ⟨U3, hU3⟩ : ∃ W : World, W = ((((((w2.setCell ⟨w.heap.size + 1 + 1, 0, none⟩ (.int .i64 vc)).setCell ⟨w.heap.size + 1 + 1, 1, none⟩ (.int .i64 vx)).setCell ⟨w.heap.size + 1 + 1, 2, none⟩ (.bool vp)).setCell ⟨w.heap.size + 1 + 1, 3, none⟩ (.slice O j k)).setCell ⟨w.heap.size + 1 + 1, 4, none⟩ (.bool vt)).setCell ⟨w.heap.size + 1 + 1, 5, none⟩ (.slice E m d)) := ⟨_, rfl⟩
  have ho : Only (w.heap.size + 1 + 1) (w.heap.size + 1 + 1 + 1) w2 U3 := by rw [hU3]; exact (((((((Only.refl _ _ _).set (p := ⟨w.heap.size + 1 + 1, 0, none⟩) (Nat.le_refl _) (Nat.lt_succ_self _) _).set (p := ⟨w.heap.size + 1 + 1, 1, none⟩) (Nat.le_refl _) (Nat.lt_succ_self _) _).set (p := ⟨w.heap.size + 1 + 1, 2, none⟩) (Nat.le_refl _) (Nat.lt_succ_self _) _).set (p := ⟨w.heap.size + 1 + 1, 3, none⟩) (Nat.le_refl _) (Nat.lt_succ_self _) _).set (p := ⟨w.heap.size + 1 + 1, 4, none⟩) (Nat.le_refl _) (Nat.lt_succ_self _) _).set (p := ⟨w.heap.size + 1 + 1, 5, none⟩) (Nat.le_refl _) (Nat.lt_succ_self _) _)
  replace HX3 : Kept (w.heap.size + 1 + 1) (w.heap.size + 1 + 1 + 1) (BoxK (w.heap.size + 1 + 1) 63 #[.int .i64 vc, .int .i64 vx, .bool vp, .slice O j k, .bool vt, .slice E m d]) U3 := by rw [hU3]; exact Kept.box ((((((HX3.bx.puts 0 (.int .i64 vc) (cs' := #[.int .i64 vc, .int .i64 0, .bool false, .slice none 0 0, .bool false, .slice none 0 0]) rfl).puts 1 (.int .i64 vx) (cs' := #[.int .i64 vc, .int .i64 vx, .bool false, .slice none 0 0, .bool false, .slice none 0 0]) rfl).puts 2 (.bool vp) (cs' := #[.int .i64 vc, .int .i64 vx, .bool vp, .slice none 0 0, .bool false, .slice none 0 0]) rfl).puts 3 (.slice O j k) (cs' := #[.int .i64 vc, .int .i64 vx, .bool vp, .slice O j k, .bool false, .slice none 0 0]) rfl).puts 4 (.bool vt) (cs' := #[.int .i64 vc, .int .i64 vx, .bool vp, .slice O j k, .bool vt, .slice none 0 0]) rfl).puts 5 (.slice E m d) (cs' := #[.int .i64 vc, .int .i64 vx, .bool vp, .slice O j k, .bool vt, .slice E m d]) rfl)
  replace HA := HA.only ho (by have := Zh.out; have := Z1.out; have := Z2.out; omega)
  replace HX1 := HX1.only ho (by have := Zh.out; have := Z1.out; have := Z2.out; omega)
  replace HX2 := HX2.only ho (by have := Zh.out; have := Z1.out; have := Z2.out; omega)
  replace HX4 := HX4.only ho (by have := Zh.out; have := Z1.out; have := Z2.out; omega)
  replace HQ := HQ.only ho (by have := Zh.out; have := Z1.out; have := Z2.out; omega)
  replace HB := Lib.hid (Below.only HB.out ho (by have := Zh.out; have := Z1.out; have := Z2.out; omega) HB.out.size)
  have Z3 : Hid (U3.heap.size = w2.heap.size) := Lib.hid (by rw [hU3]; simp [World.setCell]); clear ho
  have q_0 := HX3.look 0
  have q_1 := HX3.look 1
  have q_2 := HX3.look 2
  have q_3 := HX3.look 3
  have q_4 := HX3.look 4
  have q_5 := HX3.look 5
  subst hU3
  exact bodyPost_ret (v := .agg #[.int .i64 vc, .int .i64 vx, .bool vp, .slice O j k, .bool vt, .slice E m d]) (by simp [results, Try.results43, go_sem, q_0, q_1, q_2, q_3, q_4, q_5]) rfl ⟨O, j, k, E, m, d, rfl, QK.kept (QK.wide HQ.out (by have := Zh.out; have := Z1.out; have := Z2.out; have := Z3.out; omega) (by have := HQ.le; omega)) (Nat.le_refl _), HB.out, hjk⟩


/-- What an item that is put in makes of a queue: no fault, it is the last one, and a mark stays. -/
theorem item_in {cap : Int} {mk : Bool} {ys : List Tmr} {x : Tmr} (h : paC cap mk ys [x] = 0) : qf (paX cap mk ys [x]) (paU cap mk ys [x]) = 0 ∧ (∃ us, paU cap mk ys [x] = us ++ [x]) ∧ (mk = true → paP cap mk ys [x] = true) := by
  have hx : paX cap mk ys [x] = cap := by unfold paX; rw [if_pos h]
  by_cases hq : qf cap ys = 0
  · have h1 : ¬ 100 < ([x] : List Tmr).length := by simp
    have hc : paC cap mk ys [x] = (pushL cap [x] mk ys).1 := by unfold paC; rw [if_pos hq, if_neg h1]
    have hu : paU cap mk ys [x] = (pushL cap [x] mk ys).2.2 := by unfold paU; rw [if_pos hq, if_neg h1]
    have hp : paP cap mk ys [x] = (pushL cap [x] mk ys).2.1 := by unfold paP; rw [if_pos hq, if_neg h1]
    rw [hx, hu, hp]
    rw [hc] at h
    by_cases hf : fit ys x = 0
    · have e : pushL cap [x] mk ys = (0, putM cap mk ys x, putY cap ys x) := by
        unfold pushL
        rw [if_pos hf]; rfl
      rw [e]
      exact ⟨qf_put hq hf, putY_last cap ys x, fun hm => putM_mk hm⟩
    · exfalso
      have e : pushL cap [x] mk ys = (fit ys x, false, []) := by
        unfold pushL
        rw [if_neg hf]
      rw [e] at h
      exact hf h
  · exfalso
    have hc : paC cap mk ys [x] = qf cap ys := by unfold paC; rw [if_neg hq]
    rw [hc] at h
    exact hq h

end Go.Proofs.Ytiffhjofabaflaa

namespace Go.Proofs.Ytiffhjofabaflaa
open Go.RowKit
set_option linter.unusedVariables false

/-- What NewQueue answers: code and Cap. -/
def nqC (a : Int) : Int := if 1 ≤ a ∧ a ≤ 8 then 0 else 3
def nqV (a : Int) : Int := if 1 ≤ a ∧ a ≤ 8 then a else 0

set_option maxHeartbeats 1600000 in
theorem specNewQueue_any (a : Int) (w : World) :
    Calls Try.prog 54 #[.int .i64 a] w fun e w' => ∃ A n c E m d, e = .returned (.agg #[.int .i64 (nqC a), .int .i64 (nqV a), .bool false, .slice A n c, .bool false, .slice E m d]) ∧ Kept w.heap.size w'.heap.size (QK w.heap.size w'.heap.size A n [] E m []) w' ∧ Below w.heap.size w w' := by
  by_cases h : 1 ≤ a ∧ a ≤ 8
  · have HB := Lib.hid (Below.refl w.heap.size w)
    have HA := Lib.hid (allIn_one_yes h.1 h.2)
    have HR : Hid (nqC a = 0 ∧ nqV a = a) := Lib.hid ⟨if_pos h, if_pos h⟩
    clear h
    go_enter Try.func54, Try.ntmps54
    go_wp2_with fail
    refine Calls.name ?_
    intro U1 hU1
    have hb : Below w.heap.size w U1 := by rw [hU1]; exact ((Below.refl _ _).alloc (Nat.le_refl _) _)
    have zz : Hid (w.heap.size + 1 = U1.heap.size) := Lib.hid (by rw [hU1]; simp)
    have HX1 : Kept w.heap.size (w.heap.size + 1) (BoxK w.heap.size 63 #[.int .i64 0, .int .i64 0, .bool false, .slice none 0 0, .bool false, .slice none 0 0]) U1 := by rw [hU1]; exact Kept.box (Box.made_at _ _ _ rfl)
    replace HB := Lib.hid (below_step HB.out hb)
    clear hb
    have Z1 := zz; clear zz
    clear hU1
    refine (l1In_any a 1 8 _).mono ?_
    rw [HA.out]
    rintro e w2 ⟨rfl, rfl⟩
    have c2_0 := HX1.look 0
    have c2_1 := HX1.look 1
    have c2_2 := HX1.look 2
    have c2_3 := HX1.look 3
    have c2_4 := HX1.look 4
    have c2_5 := HX1.look 5
    have f2_0 := HX1.free 0
    have f2_1 := HX1.free 1
    have f2_2 := HX1.free 2
    have f2_3 := HX1.free 3
    have f2_4 := HX1.free 4
    have f2_5 := HX1.free 5
    have l2_0 := HX1.bx.lt
    go_wp2
    clear c2_0 c2_1 c2_2 c2_3 c2_4 c2_5 f2_0 f2_1 f2_2 f2_3 f2_4 f2_5 l2_0
    obtain ⟨U3, hU3⟩ : ∃ W : World, W = ((((((w2.setCell ⟨w.heap.size, 0, none⟩ (.int .i64 0)).setCell ⟨w.heap.size, 1, none⟩ (.int .i64 a)).setCell ⟨w.heap.size, 2, none⟩ (.bool false)).setCell ⟨w.heap.size, 3, none⟩ (.slice none 0 0)).setCell ⟨w.heap.size, 4, none⟩ (.bool false)).setCell ⟨w.heap.size, 5, none⟩ (.slice none 0 0)) := ⟨_, rfl⟩
    have ho : Only w.heap.size (w.heap.size + 1) w2 U3 := by rw [hU3]; exact (((((((Only.refl _ _ _).set (p := ⟨w.heap.size, 0, none⟩) (Nat.le_refl _) (Nat.lt_succ_self _) _).set (p := ⟨w.heap.size, 1, none⟩) (Nat.le_refl _) (Nat.lt_succ_self _) _).set (p := ⟨w.heap.size, 2, none⟩) (Nat.le_refl _) (Nat.lt_succ_self _) _).set (p := ⟨w.heap.size, 3, none⟩) (Nat.le_refl _) (Nat.lt_succ_self _) _).set (p := ⟨w.heap.size, 4, none⟩) (Nat.le_refl _) (Nat.lt_succ_self _) _).set (p := ⟨w.heap.size, 5, none⟩) (Nat.le_refl _) (Nat.lt_succ_self _) _)
    replace HX1 : Kept w.heap.size (w.heap.size + 1) (BoxK w.heap.size 63 #[.int .i64 0, .int .i64 a, .bool false, .slice none 0 0, .bool false, .slice none 0 0]) U3 := by rw [hU3]; exact Kept.box ((((((HX1.bx.puts 0 (.int .i64 0) (cs' := #[.int .i64 0, .int .i64 0, .bool false, .slice none 0 0, .bool false, .slice none 0 0]) rfl).puts 1 (.int .i64 a) (cs' := #[.int .i64 0, .int .i64 a, .bool false, .slice none 0 0, .bool false, .slice none 0 0]) rfl).puts 2 (.bool false) (cs' := #[.int .i64 0, .int .i64 a, .bool false, .slice none 0 0, .bool false, .slice none 0 0]) rfl).puts 3 (.slice none 0 0) (cs' := #[.int .i64 0, .int .i64 a, .bool false, .slice none 0 0, .bool false, .slice none 0 0]) rfl).puts 4 (.bool false) (cs' := #[.int .i64 0, .int .i64 a, .bool false, .slice none 0 0, .bool false, .slice none 0 0]) rfl).puts 5 (.slice none 0 0) (cs' := #[.int .i64 0, .int .i64 a, .bool false, .slice none 0 0, .bool false, .slice none 0 0]) rfl)
    replace HB := Lib.hid (Below.only HB.out ho (by have := Z1.out; omega) HB.out.size)
    have Z2 : Hid (U3.heap.size = w2.heap.size) := Lib.hid (by rw [hU3]; simp [World.setCell]); clear ho
    have q_0 := HX1.look 0
    have q_1 := HX1.look 1
    have q_2 := HX1.look 2
    have q_3 := HX1.look 3
    have q_4 := HX1.look 4
    have q_5 := HX1.look 5
    subst hU3
    exact bodyPost_ret (v := .agg #[.int .i64 0, .int .i64 a, .bool false, .slice none 0 0, .bool false, .slice none 0 0]) (by simp [results, Try.results54, go_sem, q_0, q_1, q_2, q_3, q_4, q_5]) rfl (by rw [HR.out.1, HR.out.2]; exact ⟨none, 0, 0, none, 0, 0, rfl, QK.kept (QK.nil _ _ _ _ _) (Nat.le_refl _), HB.out⟩)
  · have HB := Lib.hid (Below.refl w.heap.size w)
    have HA := Lib.hid (allIn_one_no h)
    have HR : Hid (nqC a = 3 ∧ nqV a = 0) := Lib.hid ⟨if_neg h, if_neg h⟩
    clear h
    go_enter Try.func54, Try.ntmps54
    go_wp2_with fail
    refine Calls.name ?_
    intro U1 hU1
    have hb : Below w.heap.size w U1 := by rw [hU1]; exact ((Below.refl _ _).alloc (Nat.le_refl _) _)
    have zz : Hid (w.heap.size + 1 = U1.heap.size) := Lib.hid (by rw [hU1]; simp)
    have HX1 : Kept w.heap.size (w.heap.size + 1) (BoxK w.heap.size 63 #[.int .i64 0, .int .i64 0, .bool false, .slice none 0 0, .bool false, .slice none 0 0]) U1 := by rw [hU1]; exact Kept.box (Box.made_at _ _ _ rfl)
    replace HB := Lib.hid (below_step HB.out hb)
    clear hb
    have Z1 := zz; clear zz
    clear hU1
    refine (l1In_any a 1 8 _).mono ?_
    rw [HA.out]
    rintro e w2 ⟨rfl, rfl⟩
    have c2_0 := HX1.look 0
    have c2_1 := HX1.look 1
    have c2_2 := HX1.look 2
    have c2_3 := HX1.look 3
    have c2_4 := HX1.look 4
    have c2_5 := HX1.look 5
    have f2_0 := HX1.free 0
    have f2_1 := HX1.free 1
    have f2_2 := HX1.free 2
    have f2_3 := HX1.free 3
    have f2_4 := HX1.free 4
    have f2_5 := HX1.free 5
    have l2_0 := HX1.bx.lt
    go_wp2
    clear c2_0 c2_1 c2_2 c2_3 c2_4 c2_5 f2_0 f2_1 f2_2 f2_3 f2_4 f2_5 l2_0
    obtain ⟨U3, hU3⟩ : ∃ W : World, W = ((((((w2.setCell ⟨w.heap.size, 0, none⟩ (.int .i64 3)).setCell ⟨w.heap.size, 1, none⟩ (.int .i64 0)).setCell ⟨w.heap.size, 2, none⟩ (.bool false)).setCell ⟨w.heap.size, 3, none⟩ (.slice none 0 0)).setCell ⟨w.heap.size, 4, none⟩ (.bool false)).setCell ⟨w.heap.size, 5, none⟩ (.slice none 0 0)) := ⟨_, rfl⟩
    have ho : Only w.heap.size (w.heap.size + 1) w2 U3 := by rw [hU3]; exact (((((((Only.refl _ _ _).set (p := ⟨w.heap.size, 0, none⟩) (Nat.le_refl _) (Nat.lt_succ_self _) _).set (p := ⟨w.heap.size, 1, none⟩) (Nat.le_refl _) (Nat.lt_succ_self _) _).set (p := ⟨w.heap.size, 2, none⟩) (Nat.le_refl _) (Nat.lt_succ_self _) _).set (p := ⟨w.heap.size, 3, none⟩) (Nat.le_refl _) (Nat.lt_succ_self _) _).set (p := ⟨w.heap.size, 4, none⟩) (Nat.le_refl _) (Nat.lt_succ_self _) _).set (p := ⟨w.heap.size, 5, none⟩) (Nat.le_refl _) (Nat.lt_succ_self _) _)
    replace HX1 : Kept w.heap.size (w.heap.size + 1) (BoxK w.heap.size 63 #[.int .i64 3, .int .i64 0, .bool false, .slice none 0 0, .bool false, .slice none 0 0]) U3 := by rw [hU3]; exact Kept.box ((((((HX1.bx.puts 0 (.int .i64 3) (cs' := #[.int .i64 3, .int .i64 0, .bool false, .slice none 0 0, .bool false, .slice none 0 0]) rfl).puts 1 (.int .i64 0) (cs' := #[.int .i64 3, .int .i64 0, .bool false, .slice none 0 0, .bool false, .slice none 0 0]) rfl).puts 2 (.bool false) (cs' := #[.int .i64 3, .int .i64 0, .bool false, .slice none 0 0, .bool false, .slice none 0 0]) rfl).puts 3 (.slice none 0 0) (cs' := #[.int .i64 3, .int .i64 0, .bool false, .slice none 0 0, .bool false, .slice none 0 0]) rfl).puts 4 (.bool false) (cs' := #[.int .i64 3, .int .i64 0, .bool false, .slice none 0 0, .bool false, .slice none 0 0]) rfl).puts 5 (.slice none 0 0) (cs' := #[.int .i64 3, .int .i64 0, .bool false, .slice none 0 0, .bool false, .slice none 0 0]) rfl)
    replace HB := Lib.hid (Below.only HB.out ho (by have := Z1.out; omega) HB.out.size)
    have Z2 : Hid (U3.heap.size = w2.heap.size) := Lib.hid (by rw [hU3]; simp [World.setCell]); clear ho
    have q_0 := HX1.look 0
    have q_1 := HX1.look 1
    have q_2 := HX1.look 2
    have q_3 := HX1.look 3
    have q_4 := HX1.look 4
    have q_5 := HX1.look 5
    subst hU3
    exact bodyPost_ret (v := .agg #[.int .i64 3, .int .i64 0, .bool false, .slice none 0 0, .bool false, .slice none 0 0]) (by simp [results, Try.results54, go_sem, q_0, q_1, q_2, q_3, q_4, q_5]) rfl (by rw [HR.out.1, HR.out.2]; exact ⟨none, 0, 0, none, 0, 0, rfl, QK.kept (QK.nil _ _ _ _ _) (Nat.le_refl _), HB.out⟩)

set_option maxHeartbeats 1600000 in
theorem newQueue_any (a : Int) (w : World) :
    Calls Try.prog 53 #[.int .i64 a] w fun e w' => ∃ A n c E m d, e = .returned (.agg #[.int .i64 (nqC a), .int .i64 (nqV a), .bool false, .slice A n c, .bool false, .slice E m d]) ∧ Kept w.heap.size w'.heap.size (QK w.heap.size w'.heap.size A n [] E m []) w' ∧ Below w.heap.size w w' := by
  by_cases h : 1 ≤ a ∧ a ≤ 8
  · have HB := Lib.hid (Below.refl w.heap.size w)
    have HA := Lib.hid (allIn_one_yes h.1 h.2)
    have HR : Hid (nqC a = 0 ∧ nqV a = a) := Lib.hid ⟨if_pos h, if_pos h⟩
    clear h
    go_enter Try.func53, Try.ntmps53
    go_wp2_with fail
    refine Calls.name ?_
    intro U1 hU1
    have hb : Below w.heap.size w U1 := by rw [hU1]; exact (((Below.refl _ _).alloc (Nat.le_refl _) _).alloc (by simp <;> omega) _)
    have zz : Hid (w.heap.size + 2 = U1.heap.size) := Lib.hid (by rw [hU1]; simp)
    have HX1 : Kept w.heap.size (w.heap.size + 1) (BoxK w.heap.size 63 #[.int .i64 0, .int .i64 0, .bool false, .slice none 0 0, .bool false, .slice none 0 0]) U1 := by rw [hU1]; exact Kept.box ((Box.made_at _ _ _ rfl).over _)
    have HX2 : Kept (w.heap.size + 1) (w.heap.size + 1 + 1) (BoxK (w.heap.size + 1) 2 #[.int .i64 a]) U1 := by rw [hU1]; exact Kept.box (Box.made_at _ _ _ (by simp <;> omega))
    replace HB := Lib.hid (below_step HB.out hb)
    clear hb
    have Z1 := zz; clear zz
    clear hU1
    have HL := Lib.hid (HX2.look 0)
    refine (allWithin_one _ _ _ a _ HL.out).mono ?_
    rw [HA.out]
    rintro e w2 ⟨rfl, rfl⟩
    clear HL
    have c2_0 := HX1.look 0
    have c2_1 := HX1.look 1
    have c2_2 := HX1.look 2
    have c2_3 := HX1.look 3
    have c2_4 := HX1.look 4
    have c2_5 := HX1.look 5
    have f2_0 := HX1.free 0
    have f2_1 := HX1.free 1
    have f2_2 := HX1.free 2
    have f2_3 := HX1.free 3
    have f2_4 := HX1.free 4
    have f2_5 := HX1.free 5
    have l2_0 := HX1.bx.lt
    have l2_1 := HX2.bx.lt
    go_wp2
    clear c2_0 c2_1 c2_2 c2_3 c2_4 c2_5 f2_0 f2_1 f2_2 f2_3 f2_4 f2_5 l2_0 l2_1
    obtain ⟨U3, hU3⟩ : ∃ W : World, W = ((((((w2.setCell ⟨w.heap.size, 0, none⟩ (.int .i64 0)).setCell ⟨w.heap.size, 1, none⟩ (.int .i64 a)).setCell ⟨w.heap.size, 2, none⟩ (.bool false)).setCell ⟨w.heap.size, 3, none⟩ (.slice none 0 0)).setCell ⟨w.heap.size, 4, none⟩ (.bool false)).setCell ⟨w.heap.size, 5, none⟩ (.slice none 0 0)) := ⟨_, rfl⟩
    have ho : Only w.heap.size (w.heap.size + 1) w2 U3 := by rw [hU3]; exact (((((((Only.refl _ _ _).set (p := ⟨w.heap.size, 0, none⟩) (Nat.le_refl _) (Nat.lt_succ_self _) _).set (p := ⟨w.heap.size, 1, none⟩) (Nat.le_refl _) (Nat.lt_succ_self _) _).set (p := ⟨w.heap.size, 2, none⟩) (Nat.le_refl _) (Nat.lt_succ_self _) _).set (p := ⟨w.heap.size, 3, none⟩) (Nat.le_refl _) (Nat.lt_succ_self _) _).set (p := ⟨w.heap.size, 4, none⟩) (Nat.le_refl _) (Nat.lt_succ_self _) _).set (p := ⟨w.heap.size, 5, none⟩) (Nat.le_refl _) (Nat.lt_succ_self _) _)
    replace HX1 : Kept w.heap.size (w.heap.size + 1) (BoxK w.heap.size 63 #[.int .i64 0, .int .i64 a, .bool false, .slice none 0 0, .bool false, .slice none 0 0]) U3 := by rw [hU3]; exact Kept.box ((((((HX1.bx.puts 0 (.int .i64 0) (cs' := #[.int .i64 0, .int .i64 0, .bool false, .slice none 0 0, .bool false, .slice none 0 0]) rfl).puts 1 (.int .i64 a) (cs' := #[.int .i64 0, .int .i64 a, .bool false, .slice none 0 0, .bool false, .slice none 0 0]) rfl).puts 2 (.bool false) (cs' := #[.int .i64 0, .int .i64 a, .bool false, .slice none 0 0, .bool false, .slice none 0 0]) rfl).puts 3 (.slice none 0 0) (cs' := #[.int .i64 0, .int .i64 a, .bool false, .slice none 0 0, .bool false, .slice none 0 0]) rfl).puts 4 (.bool false) (cs' := #[.int .i64 0, .int .i64 a, .bool false, .slice none 0 0, .bool false, .slice none 0 0]) rfl).puts 5 (.slice none 0 0) (cs' := #[.int .i64 0, .int .i64 a, .bool false, .slice none 0 0, .bool false, .slice none 0 0]) rfl)
    replace HX2 := HX2.only ho (by have := Z1.out; omega)
    replace HB := Lib.hid (Below.only HB.out ho (by have := Z1.out; omega) HB.out.size)
    have Z2 : Hid (U3.heap.size = w2.heap.size) := Lib.hid (by rw [hU3]; simp [World.setCell]); clear ho
    have q_0 := HX1.look 0
    have q_1 := HX1.look 1
    have q_2 := HX1.look 2
    have q_3 := HX1.look 3
    have q_4 := HX1.look 4
    have q_5 := HX1.look 5
    subst hU3
    exact bodyPost_ret (v := .agg #[.int .i64 0, .int .i64 a, .bool false, .slice none 0 0, .bool false, .slice none 0 0]) (by simp [results, Try.results53, go_sem, q_0, q_1, q_2, q_3, q_4, q_5]) rfl (by rw [HR.out.1, HR.out.2]; exact ⟨none, 0, 0, none, 0, 0, rfl, QK.kept (QK.nil _ _ _ _ _) (Nat.le_refl _), HB.out⟩)
  · have HB := Lib.hid (Below.refl w.heap.size w)
    have HA := Lib.hid (allIn_one_no h)
    have HR : Hid (nqC a = 3 ∧ nqV a = 0) := Lib.hid ⟨if_neg h, if_neg h⟩
    clear h
    go_enter Try.func53, Try.ntmps53
    go_wp2_with fail
    refine Calls.name ?_
    intro U1 hU1
    have hb : Below w.heap.size w U1 := by rw [hU1]; exact (((Below.refl _ _).alloc (Nat.le_refl _) _).alloc (by simp <;> omega) _)
    have zz : Hid (w.heap.size + 2 = U1.heap.size) := Lib.hid (by rw [hU1]; simp)
    have HX1 : Kept w.heap.size (w.heap.size + 1) (BoxK w.heap.size 63 #[.int .i64 0, .int .i64 0, .bool false, .slice none 0 0, .bool false, .slice none 0 0]) U1 := by rw [hU1]; exact Kept.box ((Box.made_at _ _ _ rfl).over _)
    have HX2 : Kept (w.heap.size + 1) (w.heap.size + 1 + 1) (BoxK (w.heap.size + 1) 2 #[.int .i64 a]) U1 := by rw [hU1]; exact Kept.box (Box.made_at _ _ _ (by simp <;> omega))
    replace HB := Lib.hid (below_step HB.out hb)
    clear hb
    have Z1 := zz; clear zz
    clear hU1
    have HL := Lib.hid (HX2.look 0)
    refine (allWithin_one _ _ _ a _ HL.out).mono ?_
    rw [HA.out]
    rintro e w2 ⟨rfl, rfl⟩
    clear HL
    have c2_0 := HX1.look 0
    have c2_1 := HX1.look 1
    have c2_2 := HX1.look 2
    have c2_3 := HX1.look 3
    have c2_4 := HX1.look 4
    have c2_5 := HX1.look 5
    have f2_0 := HX1.free 0
    have f2_1 := HX1.free 1
    have f2_2 := HX1.free 2
    have f2_3 := HX1.free 3
    have f2_4 := HX1.free 4
    have f2_5 := HX1.free 5
    have l2_0 := HX1.bx.lt
    have l2_1 := HX2.bx.lt
    go_wp2
    clear c2_0 c2_1 c2_2 c2_3 c2_4 c2_5 f2_0 f2_1 f2_2 f2_3 f2_4 f2_5 l2_0 l2_1
    obtain ⟨U3, hU3⟩ : ∃ W : World, W = ((((((w2.setCell ⟨w.heap.size, 0, none⟩ (.int .i64 3)).setCell ⟨w.heap.size, 1, none⟩ (.int .i64 0)).setCell ⟨w.heap.size, 2, none⟩ (.bool false)).setCell ⟨w.heap.size, 3, none⟩ (.slice none 0 0)).setCell ⟨w.heap.size, 4, none⟩ (.bool false)).setCell ⟨w.heap.size, 5, none⟩ (.slice none 0 0)) := ⟨_, rfl⟩
    have ho : Only w.heap.size (w.heap.size + 1) w2 U3 := by rw [hU3]; exact (((((((Only.refl _ _ _).set (p := ⟨w.heap.size, 0, none⟩) (Nat.le_refl _) (Nat.lt_succ_self _) _).set (p := ⟨w.heap.size, 1, none⟩) (Nat.le_refl _) (Nat.lt_succ_self _) _).set (p := ⟨w.heap.size, 2, none⟩) (Nat.le_refl _) (Nat.lt_succ_self _) _).set (p := ⟨w.heap.size, 3, none⟩) (Nat.le_refl _) (Nat.lt_succ_self _) _).set (p := ⟨w.heap.size, 4, none⟩) (Nat.le_refl _) (Nat.lt_succ_self _) _).set (p := ⟨w.heap.size, 5, none⟩) (Nat.le_refl _) (Nat.lt_succ_self _) _)
    replace HX1 : Kept w.heap.size (w.heap.size + 1) (BoxK w.heap.size 63 #[.int .i64 3, .int .i64 0, .bool false, .slice none 0 0, .bool false, .slice none 0 0]) U3 := by rw [hU3]; exact Kept.box ((((((HX1.bx.puts 0 (.int .i64 3) (cs' := #[.int .i64 3, .int .i64 0, .bool false, .slice none 0 0, .bool false, .slice none 0 0]) rfl).puts 1 (.int .i64 0) (cs' := #[.int .i64 3, .int .i64 0, .bool false, .slice none 0 0, .bool false, .slice none 0 0]) rfl).puts 2 (.bool false) (cs' := #[.int .i64 3, .int .i64 0, .bool false, .slice none 0 0, .bool false, .slice none 0 0]) rfl).puts 3 (.slice none 0 0) (cs' := #[.int .i64 3, .int .i64 0, .bool false, .slice none 0 0, .bool false, .slice none 0 0]) rfl).puts 4 (.bool false) (cs' := #[.int .i64 3, .int .i64 0, .bool false, .slice none 0 0, .bool false, .slice none 0 0]) rfl).puts 5 (.slice none 0 0) (cs' := #[.int .i64 3, .int .i64 0, .bool false, .slice none 0 0, .bool false, .slice none 0 0]) rfl)
    replace HX2 := HX2.only ho (by have := Z1.out; omega)
    replace HB := Lib.hid (Below.only HB.out ho (by have := Z1.out; omega) HB.out.size)
    have Z2 : Hid (U3.heap.size = w2.heap.size) := Lib.hid (by rw [hU3]; simp [World.setCell]); clear ho
    have q_0 := HX1.look 0
    have q_1 := HX1.look 1
    have q_2 := HX1.look 2
    have q_3 := HX1.look 3
    have q_4 := HX1.look 4
    have q_5 := HX1.look 5
    subst hU3
    exact bodyPost_ret (v := .agg #[.int .i64 3, .int .i64 0, .bool false, .slice none 0 0, .bool false, .slice none 0 0]) (by simp [results, Try.results53, go_sem, q_0, q_1, q_2, q_3, q_4, q_5]) rfl (by rw [HR.out.1, HR.out.2]; exact ⟨none, 0, 0, none, 0, 0, rfl, QK.kept (QK.nil _ _ _ _ _) (Nat.le_refl _), HB.out⟩)


end Go.Proofs.Ytiffhjofabaflaa

namespace Go.Proofs.Ytiffhjofabaflaa
open Go.RowKit
set_option linter.unusedVariables false

/-- Rows of items of the call's own, apart from each other, in a range of blocks. -/
def RowsK {α : Type} (r : Rep α) (lo hi : Nat) (A : Option Addr) (n : Nat) (ys : List (List α)) : World → Prop := fun w => ∃ bs, r.FRows w A n ys bs ∧ bs.Nodup ∧ ∀ b ∈ bs, lo ≤ b ∧ b < hi
theorem RowsK.kept {α : Type} {r : Rep α} {lo hi : Nat} {A : Option Addr} {n : Nat} {ys : List (List α)} {w : World} (h : RowsK r lo hi A n ys w) (hs : hi ≤ w.heap.size) : Kept lo hi (RowsK r lo hi A n ys) w := by
  obtain ⟨bs, h1, h2, h3⟩ := h
  exact ⟨hs, fun w2 k => ⟨bs, h1.keep fun b hb => k b (h3 b hb).1 (h3 b hb).2, h2, h3⟩⟩
theorem Kept.rows {lo hi : Nat} {A : Option Addr} {n : Nat} {ys : List (List Tmr)} {w : World} (h : Kept lo hi (RowsK Rep.timer lo hi A n ys) w) : Rep.timer.rows.Sl false lo hi w A n ys := by
  obtain ⟨bs, h1, h2, h3⟩ := h.out
  exact h1.sl (fun _ _ _ _ _ h => h) h3
/-- An answer's rows and its list beside them, all apart. -/
def ResK {α : Type} (r : Rep α) (lo hi : Nat) (A : Option Addr) (n : Nat) (ys : List (List α)) (E : Option Addr) (m : Nat) (zs : List α) : World → Prop := fun w =>
  ∃ bs cs, r.FRows w A n ys bs ∧ r.FSl w E m zs cs ∧ (bs ++ cs).Nodup ∧ ∀ b ∈ bs ++ cs, lo ≤ b ∧ b < hi
theorem ResK.kept {α : Type} {r : Rep α} {lo hi : Nat} {A E : Option Addr} {n m : Nat} {ys : List (List α)} {zs : List α} {w : World} (h : ResK r lo hi A n ys E m zs w) (hs : hi ≤ w.heap.size) : Kept lo hi (ResK r lo hi A n ys E m zs) w := by
  obtain ⟨bs, cs, h1, h2, h3, h4⟩ := h
  exact ⟨hs, fun w2 k => ⟨bs, cs, h1.keep fun b hb => k b (h4 b (by simp [hb])).1 (h4 b (by simp [hb])).2, h2.keep fun b hb => k b (h4 b (by simp [hb])).1 (h4 b (by simp [hb])).2, h3, h4⟩⟩
theorem Kept.res_rows {lo hi : Nat} {A E : Option Addr} {n m : Nat} {ys : List (List Tmr)} {zs : List Tmr} {w : World} (h : Kept lo hi (ResK Rep.timer lo hi A n ys E m zs) w) : Rep.timer.rows.Sl false lo hi w A n ys := by
  obtain ⟨bs, cs, h1, h2, h3, h4⟩ := h.out
  exact h1.sl (fun _ _ _ _ _ h => h) fun b hb => h4 b (by simp [hb])
theorem Kept.res_due {lo hi : Nat} {A E : Option Addr} {n m : Nat} {ys : List (List Tmr)} {zs : List Tmr} {w : World} (h : Kept lo hi (ResK Rep.timer lo hi A n ys E m zs) w) : Rep.timer.Sl true lo hi w E m zs := by
  obtain ⟨bs, cs, h1, h2, h3, h4⟩ := h.out
  exact h2.sl fun b hb => h4 b (by simp [hb])
theorem szSS_neg {α : Type} : ∀ (ys : List (List α)) (left : Int), szSS left ys < 0 → szSS left ys = -1 := by
  intro ys left h
  unfold szSS at h ⊢
  split
  · rfl
  · rename_i h1
    rw [if_neg h1] at h
    have go : ∀ (ys : List (List α)) (l : Int), 0 ≤ l → szRows l ys < 0 → szRows l ys = -1 := by
      intro ys
      induction ys with
      | nil => intro l h0 h; simp [szRows] at h; omega
      | cons y t ih =>
        intro l h0 h
        unfold szRows at h ⊢
        split
        · rfl
        · rename_i h2
          rw [if_neg h2] at h
          exact ih _ (by omega) h
    exact go _ _ (by omega) h
theorem szRows_le {α : Type} : ∀ (ys : List (List α)) (l : Int), 0 ≤ l → szRows l ys ≤ l
  | [], l, h => by simp [szRows]
  | y :: t, l, h => by
    unfold szRows
    split
    · omega
    · rename_i h2
      have := szRows_le t (l - y.length) (by omega)
      omega
theorem szSS_bd {α : Type} (ys : List (List α)) (l : Int) (h : 0 ≤ l) : szSS l ys ≤ l := by
  unfold szSS
  split
  · omega
  · have := szRows_le ys (l - ys.length) (by omega)
    omega

end Go.Proofs.Ytiffhjofabaflaa

namespace Go.Proofs.Ytiffhjofabaflaa
open Go.RowKit
set_option linter.unusedVariables false

theorem Tmr.ext' {a b : Tmr} (h1 : a.typ = b.typ) (h2 : a.id = b.id) (h3 : a.adv = b.adv) (h4 : a.due = b.due) : a = b := by cases a; cases b; simp_all
/-- Do two timers tell the same. -/
def tmrB (a b : Tmr) : Bool := decide (a.typ = b.typ) && (decide (a.id = b.id) && (decide (a.adv = b.adv) && decide (a.due = b.due)))
theorem tmrB_iff (a b : Tmr) : tmrB a b = true ↔ a = b := by
  unfold tmrB
  simp only [Bool.and_eq_true, decide_eq_true_eq]
  exact ⟨fun ⟨h1, h2, h3, h4⟩ => Tmr.ext' h1 h2 h3 h4, fun h => by subst h; exact ⟨rfl, rfl, rfl, rfl⟩⟩
theorem neq_timer (a b : Tmr) (W : World) : (binOp .neq 36 (.agg #[.int .i64 a.typ, .int .i64 a.id, .int .i64 a.adv, .int .i64 a.due]) (.agg #[.int .i64 b.typ, .int .i64 b.id, .int .i64 b.adv, .int .i64 b.due])).run Try.prog W = .ok (.bool (!tmrB a b)) W := by
  by_cases h1 : a.typ = b.typ <;> by_cases h2 : a.id = b.id <;> by_cases h3 : a.adv = b.adv <;> by_cases h4 : a.due = b.due <;> simp [go_sem, tmrB, h1, h2, h3, h4]
attribute [local go_sem high] neq_timer

theorem ne_at {α : Type} {ys zs : List α} {k : Nat} {a b : α} (ha : ys[k]? = some a) (hb : zs[k]? = some b) (h : a ≠ b) : ys ≠ zs := by
  intro e; subst e; rw [ha] at hb; injection hb with hb; exact h hb
theorem eq_upto {α : Type} {ys zs : List α} (hl : ys.length = zs.length) (h : ∀ j, j < ys.length → ys[j]? = zs[j]?) : ys = zs := by
  apply List.ext_getElem? 
  intro i
  by_cases hi : i < ys.length
  · exact h i hi
  · rw [List.getElem?_eq_none (by omega), List.getElem?_eq_none (by omega)]
theorem bool_of {r : Bool} {p : Prop} (h : r = true ↔ p) (hn : ¬ p) : r = false := by cases r; rfl; exact absurd (h.1 rfl) hn
theorem is_of (p : Prop) : ∃ r : Bool, (r = true ↔ p) := by
  by_cases h : p
  · exact ⟨true, by simp [h]⟩
  · exact ⟨false, by simp [h]⟩

set_option maxHeartbeats 1600000 in
theorem equal_any (q1 q2 : Bool) (l1 h1 l2 h2 : Nat) (A B : Option Addr) (n m c d : Nat) (ys zs : List Tmr) (r : Bool) (w : World) (ha : Rep.timer.Sl q1 l1 h1 w A n ys) (hb : Rep.timer.Sl q2 l2 h2 w B m zs) (hn : n ≤ 1048576) (hm : m ≤ 1048576) (hr : r = true ↔ ys = zs) :
    Calls Try.prog 116 #[.slice A n c, .slice B m d] w fun e w' => e = .returned (.bool r) ∧ ∃ q, w' = w.drewN q := by
  have hl1 := ha.1
  have hl2 := hb.1
  by_cases hnm : n = m
  · subst hnm
    go_enter Try.func116, Try.ntmps116
    go_wp2
    go_loopw [13] (fun i wr => ∃ k : Nat, k ≤ n ∧ i = .int .i64 k ∧ Hid (∀ j, j < k → ys[j]? = zs[j]?) ∧ ∃ q, wr = w.drewN q) (fun i _ => n - (intOf i).toNat)
    case atStart => exact ⟨0, Nat.zero_le _, rfl, fun j hj => absurd hj (by omega), 0, rfl⟩
    case round =>
      obtain ⟨k, hk, rfl, HS, q, rfl⟩ := hrel
      by_cases hlt : k < n
      · obtain ⟨b, o, a, rfl, hya, a0, a1, a2, a3⟩ := Rep.timer_at ha hlt
        obtain ⟨b', o', a', rfl, hza, b0, b1, b2, b3⟩ := Rep.timer_at hb hlt
        have hlt' : (k : Int) < n := by omega
        by_cases he : a = a'
        · subst he
          have HE := Lib.hid (show ys[k]? = zs[k]? by rw [hya, hza])
          have ht : tmrB a a = true := (tmrB_iff a a).2 rfl
          clear hya hza
          go_wp2
          go_quiet (fail)
          go_wp2
          go_roundw
          case rel => exact ⟨k + 1, by omega, by go_num, fun j hj => by
            rcases Nat.lt_succ_iff_lt_or_eq.1 hj with h | rfl
            · exact HS.out j h
            · exact HE.out, _, rfl⟩
          case measure => simp [intOf]; omega
        · have HR := Lib.hid (bool_of hr (ne_at hya hza he))
          have ht : tmrB a a' = false := bool_of (tmrB_iff a a') he
          clear hya hza he
          go_wp2
          go_quiet (fail)
          go_wp2
          go_ret
          exact ⟨by rw [HR.out]; rfl, _, World.drewN_drewN _ _ _⟩
      · have HR := Lib.hid (hr.2 (eq_upto (by omega) (fun j hj => HS.out j (by omega))))
        go_wp2
        go_ret
        exact ⟨by rw [HR.out]; rfl, _, rfl⟩
  · have HR := Lib.hid (bool_of hr (fun e => hnm (by rw [← hl1, ← hl2, e])))
    have hne : ((n : Int) == m) = false := by simp; omega
    clear hr
    go_enter Try.func116, Try.ntmps116
    go_wp2
    go_ret
    exact ⟨by rw [HR.out]; rfl, 0, rfl⟩

/-- A function value that is slices.Equal. -/
abbrev equalV : Value := .func (.func 116) #[] #[]

set_option maxHeartbeats 1600000 in
theorem equalFunc_any (q1 q2 : Bool) (l1 h1 l2 h2 : Nat) (A B : Option Addr) (n m c d : Nat) (ys zs : List (List Tmr)) (r : Bool) (w : World) (ha : Rep.timer.rows.Sl q1 l1 h1 w A n ys) (hb : Rep.timer.rows.Sl q2 l2 h2 w B m zs) (hn : n ≤ 1048576) (hm : m ≤ 1048576) (hy : ∀ y ∈ ys, y.length ≤ 1048576) (hz : ∀ y ∈ zs, y.length ≤ 1048576) (hr : r = true ↔ ys = zs) :
    Calls Try.prog 115 #[.slice A n c, .slice B m d, equalV] w fun e w' => e = .returned (.bool r) ∧ ∃ q, w' = w.drewN q := by
  have hl1 := ha.1
  have hl2 := hb.1
  have HY := Lib.hid hy
  have HZ := Lib.hid hz
  clear hy hz
  by_cases hnm : n = m
  · subst hnm
    go_enter Try.func115, Try.ntmps115
    go_wp2
    go_loopw [17] (fun i wr => ∃ k : Nat, k ≤ n ∧ i = .int .i64 k ∧ Hid (∀ j, j < k → ys[j]? = zs[j]?) ∧ ∃ q, wr = w.drewN q) (fun i _ => n - (intOf i).toNat)
    case atStart => exact ⟨0, Nat.zero_le _, rfl, fun j hj => absurd hj (by omega), 0, rfl⟩
    case round =>
      obtain ⟨k, hk, rfl, HS, q, rfl⟩ := hrel
      by_cases hlt : k < n
      · obtain ⟨b, o, y, E, e1, c1, rfl, hya, ce, hya2⟩ := Rep.rows_at ha hlt
        obtain ⟨b', o', z, E', e2, c2, rfl, hza, ce', hza2⟩ := Rep.rows_at hb hlt
        have hlt' : (k : Int) < n := by omega
        have hle1 : e1 ≤ 1048576 := by have := HY.out y (List.mem_of_getElem? hya); have := hya2.1; omega
        have hle2 : e2 ≤ 1048576 := by have := HZ.out z (List.mem_of_getElem? hza); have := hza2.1; omega
        have HE1 := Lib.hid hya2
        have HE2 := Lib.hid hza2
        by_cases he : y = z
        · subst he
          have HE := Lib.hid (show ys[k]? = zs[k]? by rw [hya, hza])
          clear hya hza hya2 hza2
          go_wp2_with fail
          refine (equal_any q1 q2 l1 h1 l2 h2 E E' e1 e2 c1 c2 y y true _ (HE1.out.drewN _) (HE2.out.drewN _) hle1 hle2 (by simp)).mono ?_
          rintro e w2 ⟨rfl, p, rfl⟩
          go_wp2
          go_roundw
          case rel => exact ⟨k + 1, by omega, by go_num, fun j hj => by
            rcases Nat.lt_succ_iff_lt_or_eq.1 hj with h | rfl
            · exact HS.out j h
            · exact HE.out, _, rfl⟩
          case measure => simp [intOf]; omega
        · have HR := Lib.hid (bool_of hr (ne_at hya hza he))
          have HN := Lib.hid he
          clear hya hza he hya2 hza2
          go_wp2_with fail
          refine (equal_any q1 q2 l1 h1 l2 h2 E E' e1 e2 c1 c2 y z false _ (HE1.out.drewN _) (HE2.out.drewN _) hle1 hle2 (by simp [HN.out])).mono ?_
          rintro e w2 ⟨rfl, p, rfl⟩
          go_wp2
          go_ret
          exact ⟨by rw [HR.out]; rfl, _, rfl⟩
      · have HR := Lib.hid (hr.2 (eq_upto (by omega) (fun j hj => HS.out j (by omega))))
        go_wp2
        go_ret
        exact ⟨by rw [HR.out]; rfl, _, rfl⟩
  · have HR := Lib.hid (bool_of hr (fun e => hnm (by rw [← hl1, ← hl2, e])))
    have hne : ((n : Int) == m) = false := by simp; omega
    clear hr
    go_enter Try.func115, Try.ntmps115
    go_wp2
    go_ret
    exact ⟨by rw [HR.out]; rfl, 0, rfl⟩

set_option maxHeartbeats 1600000 in
theorem sameWheels_any (a b : Int) (q1 q2 : Bool) (l1 h1 l2 h2 : Nat) (A B : Option Addr) (n m c d : Nat) (ys zs : List (List Tmr)) (r : Bool) (w : World) (ha : Rep.timer.rows.Sl q1 l1 h1 w A n ys) (hb : Rep.timer.rows.Sl q2 l2 h2 w B m zs) (hh1 : h1 ≤ w.heap.size) (hh2 : h2 ≤ w.heap.size) (hn : n ≤ 1048576) (hm : m ≤ 1048576) (hy : ∀ y ∈ ys, y.length ≤ 1048576) (hz : ∀ y ∈ zs, y.length ≤ 1048576) (hr : r = true ↔ a = b ∧ ys = zs) :
    Calls Try.prog 26 #[.agg #[.int .i64 a, .slice A n c], .agg #[.int .i64 b, .slice B m d]] w fun e w' => e = .returned (.bool r) ∧ Below w.heap.size w w' := by
  have hV : Below w.heap.size w ((w.alloc (.cells #[.int .i64 a, .slice A n c] 26)).alloc (.cells #[.int .i64 b, .slice B m d] 26)) := ((Below.refl _ _).alloc (Nat.le_refl _) _).alloc (by simp) _
  have HB := Lib.hid hV
  have HA1 := Lib.hid (ha.below hV hh1)
  have HA2 := Lib.hid (hb.below hV hh2)
  have HY := Lib.hid hy
  have HZ := Lib.hid hz
  clear hV ha hb hy hz
  by_cases h : a = b
  · subst h
    have HR := Lib.hid (show r = true ↔ ys = zs by simpa using hr)
    clear hr
    go_enter Try.func26, Try.ntmps26
    go_wp2_with fail
    refine (equalFunc_any q1 q2 l1 h1 l2 h2 A B n m c d ys zs r _ HA1.out HA2.out hn hm HY.out HZ.out HR.out).mono ?_
    rintro e w2 ⟨rfl, p, rfl⟩
    go_wp2
    go_ret
    exact ⟨rfl, below_drewN HB.out p⟩
  · have HR := Lib.hid (bool_of hr (fun e => h e.1))
    have h' : (a == b) = false := by simpa using h
    clear hr h
    go_enter Try.func26, Try.ntmps26
    go_wp2
    go_ret
    exact ⟨by rw [HR.out]; rfl, HB.out⟩

set_option maxHeartbeats 3200000 in
theorem specSameWheels_any (a b : Int) (q1 q2 : Bool) (l1 h1 l2 h2 : Nat) (A B : Option Addr) (n m c d : Nat) (ys zs : List (List Tmr)) (r : Bool) (w : World) (ha : Rep.timer.rows.Sl q1 l1 h1 w A n ys) (hb : Rep.timer.rows.Sl q2 l2 h2 w B m zs) (hh1 : h1 ≤ w.heap.size) (hh2 : h2 ≤ w.heap.size) (hn : n ≤ 1048576) (hm : m ≤ 1048576) (hy : ∀ y ∈ ys, y.length ≤ 1048576) (hz : ∀ y ∈ zs, y.length ≤ 1048576) (hr : r = true ↔ a = b ∧ ys = zs) :
    Calls Try.prog 27 #[.agg #[.int .i64 a, .slice A n c], .agg #[.int .i64 b, .slice B m d]] w fun e w' => e = .returned (.bool r) ∧ Below w.heap.size w w' := by
  have hl1 := ha.1
  have hl2 := hb.1
  obtain ⟨V, hV⟩ : ∃ V : World, V = ((w.alloc (.cells #[.int .i64 a, .slice A n c] 26)).alloc (.cells #[.int .i64 b, .slice B m d] 26)) := ⟨_, rfl⟩
  have hbV : Below w.heap.size w V := by rw [hV]; exact ((Below.refl _ _).alloc (Nat.le_refl _) _).alloc (by simp) _
  have HB := Lib.hid hbV
  have HX1 := Lib.hid (show Box V w.heap.size 26 #[.int .i64 a, .slice A n c] by rw [hV]; exact (Box.made _ _ _).over _)
  have HX2 := Lib.hid (show Box V (w.heap.size + 1) 26 #[.int .i64 b, .slice B m d] by rw [hV]; exact Box.made_at _ _ _ (by simp))
  have HA1 := Lib.hid (ha.below hbV hh1)
  have HA2 := Lib.hid (hb.below hbV hh2)
  have HY := Lib.hid hy
  have HZ := Lib.hid hz
  clear hbV ha hb hy hz
  by_cases h : a = b ∧ n = m
  · obtain ⟨rfl, rfl⟩ := h
    have HR := Lib.hid (show r = true ↔ ys = zs by simpa using hr)
    clear hr
    have c0 := HX1.out.look 0
    have c1 := HX1.out.look 1
    have d0 := HX2.out.look 0
    have d1 := HX2.out.look 1
    go_enter Try.func27, Try.ntmps27
    go_wp2
    rw [← hV]
    clear hV
    go_loopw [5] (fun i wr => ∃ k : Nat, k ≤ n ∧ i = .int .i64 k ∧ Hid (∀ j, j < k → ys[j]? = zs[j]?) ∧ ∃ q, wr = V.drewN q) (fun i _ => n - (intOf i).toNat)
    case atStart => exact ⟨0, Nat.zero_le _, rfl, fun j hj => absurd hj (by omega), 0, rfl⟩
    case round =>
      obtain ⟨k, hk, rfl, HS, q, rfl⟩ := hrel
      by_cases hlt : k < n
      · obtain ⟨b, o, y, E, e1, c1', rfl, hya, ce, hya2⟩ := Rep.rows_at HA1.out hlt
        obtain ⟨b', o', z, E', e2, c2', rfl, hza, ce', hza2⟩ := Rep.rows_at HA2.out hlt
        have hlt' : (k : Int) < n := by omega
        have hle1 : e1 ≤ 1048576 := by have := HY.out y (List.mem_of_getElem? hya); have := hya2.1; omega
        have hle2 : e2 ≤ 1048576 := by have := HZ.out z (List.mem_of_getElem? hza); have := hza2.1; omega
        by_cases hee : e1 = e2
        · subst hee
          have HYA := Lib.hid hya
          have HZA := Lib.hid hza
          have HE1 := Lib.hid hya2
          have HE2 := Lib.hid hza2
          clear hya hza hya2 hza2
          go_wp2
          go_quiet (fail)
          go_wp2
          go_loopw [6] (fun i wr => ∃ j : Nat, j ≤ e1 ∧ i = .int .i64 j ∧ Hid (∀ t, t < j → y[t]? = z[t]?) ∧ ∃ q, wr = V.drewN q) (fun i _ => e1 - (intOf i).toNat)
          case atStart => exact ⟨0, Nat.zero_le _, rfl, fun j hj => absurd hj (by omega), _, World.drewN_drewN _ _ _⟩
          case round =>
            obtain ⟨j, hj, rfl, HT, q', rfl⟩ := hrel
            by_cases hjl : j < e1
            · obtain ⟨bb, oo, t, rfl, hyt, a0, a1, a2, a3⟩ := Rep.timer_at HE1.out hjl
              obtain ⟨bb', oo', t', rfl, hzt, b0, b1, b2, b3⟩ := Rep.timer_at HE2.out hjl
              have hjl' : (j : Int) < e1 := by omega
              by_cases he : t = t'
              · subst he
                have HE := Lib.hid (show y[j]? = z[j]? by rw [hyt, hzt])
                have ht : tmrB t t = true := (tmrB_iff t t).2 rfl
                clear hyt hzt
                go_wp2
                go_quiet (fail)
                go_wp2
                go_roundw
                case rel => exact ⟨j + 1, by omega, by go_num, fun i hi => by
                  rcases Nat.lt_succ_iff_lt_or_eq.1 hi with h | rfl
                  · exact HT.out i h
                  · exact HE.out, _, rfl⟩
                case measure => simp [intOf]; omega
              · have HN := Lib.hid (bool_of HR.out (ne_at HYA.out HZA.out (ne_at hyt hzt he)))
                have ht : tmrB t t' = false := bool_of (tmrB_iff t t') he
                clear hyt hzt he
                go_wp2
                go_quiet (fail)
                go_wp2
                go_ret
                exact ⟨by rw [HN.out]; rfl, below_drewN (below_drewN HB.out _) _⟩
            · have HE := Lib.hid (show ys[k]? = zs[k]? by rw [HYA.out, HZA.out]; exact congrArg some (eq_upto (by have := HE1.out.1; have := HE2.out.1; omega) (fun t ht => HT.out t (by have := HE1.out.1; omega))))
              go_wp2
              go_roundw
              case rel => exact ⟨k + 1, by omega, by go_num, fun j hj => by
                rcases Nat.lt_succ_iff_lt_or_eq.1 hj with h | rfl
                · exact HS.out j h
                · exact HE.out, _, rfl⟩
              case measure => simp [intOf]; omega
        · have HN := Lib.hid (bool_of HR.out (ne_at hya hza (fun e => hee (by rw [← hya2.1, ← hza2.1, e]))))
          have hee' : ((e1 : Int) == e2) = false := by simp; omega
          clear hya hza hya2 hza2
          go_wp2
          go_quiet (fail)
          go_wp2
          go_ret
          exact ⟨by rw [HN.out]; rfl, below_drewN (below_drewN HB.out _) _⟩
      · have HN := Lib.hid (HR.out.2 (eq_upto (by omega) (fun j hj => HS.out j (by omega))))
        go_wp2
        go_ret
        exact ⟨by rw [HN.out]; rfl, below_drewN HB.out _⟩
  · have HN := Lib.hid (bool_of hr (fun e => h ⟨e.1, by rw [← hl1, ← hl2, e.2]⟩))
    have c0 := HX1.out.look 0
    have c1 := HX1.out.look 1
    have d0 := HX2.out.look 0
    have d1 := HX2.out.look 1
    clear hr
    by_cases hab : a = b
    · have hee' : ((n : Int) == m) = false := by
        have : ¬ n = m := fun e => h ⟨hab, e⟩
        simp; omega
      subst hab
      clear h
      go_enter Try.func27, Try.ntmps27
      go_wp2
      rw [← hV]
      go_ret
      exact ⟨by rw [HN.out]; rfl, HB.out⟩
    · have hab' : (a == b) = false := by simpa using hab
      clear h hab
      go_enter Try.func27, Try.ntmps27
      go_wp2
      rw [← hV]
      go_ret
      exact ⟨by rw [HN.out]; rfl, HB.out⟩

end Go.Proofs.Ytiffhjofabaflaa

namespace Go.Proofs.Ytiffhjofabaflaa
open Go.RowKit
set_option linter.unusedVariables false

theorem neq_item (a b : Tmr) (W : World) : (binOp .neq 66 (.agg #[.int .i64 a.typ, .int .i64 a.id, .int .i64 a.adv, .int .i64 a.due]) (.agg #[.int .i64 b.typ, .int .i64 b.id, .int .i64 b.adv, .int .i64 b.due])).run Try.prog W = .ok (.bool (!tmrB a b)) W := by
  by_cases h1 : a.typ = b.typ <;> by_cases h2 : a.id = b.id <;> by_cases h3 : a.adv = b.adv <;> by_cases h4 : a.due = b.due <;> simp [go_sem, tmrB, h1, h2, h3, h4]

attribute [local go_sem high] neq_item

set_option maxHeartbeats 1600000 in
theorem equalI_any (q1 q2 : Bool) (l1 h1 l2 h2 : Nat) (A B : Option Addr) (n m c d : Nat) (ys zs : List Tmr) (r : Bool) (w : World) (ha : Rep.timer.Sl q1 l1 h1 w A n ys) (hb : Rep.timer.Sl q2 l2 h2 w B m zs) (hn : n ≤ 1048576) (hm : m ≤ 1048576) (hr : r = true ↔ ys = zs) :
    Calls Try.prog 134 #[.slice A n c, .slice B m d] w fun e w' => e = .returned (.bool r) ∧ ∃ q, w' = w.drewN q := by
  have hl1 := ha.1
  have hl2 := hb.1
  by_cases hnm : n = m
  · subst hnm
    go_enter Try.func134, Try.ntmps134
    go_wp2
    go_loopw [13] (fun i wr => ∃ k : Nat, k ≤ n ∧ i = .int .i64 k ∧ Hid (∀ j, j < k → ys[j]? = zs[j]?) ∧ ∃ q, wr = w.drewN q) (fun i _ => n - (intOf i).toNat)
    case atStart => exact ⟨0, Nat.zero_le _, rfl, fun j hj => absurd hj (by omega), 0, rfl⟩
    case round =>
      obtain ⟨k, hk, rfl, HS, q, rfl⟩ := hrel
      by_cases hlt : k < n
      · obtain ⟨b, o, a, rfl, hya, a0, a1, a2, a3⟩ := Rep.timer_at ha hlt
        obtain ⟨b', o', a', rfl, hza, b0, b1, b2, b3⟩ := Rep.timer_at hb hlt
        have hlt' : (k : Int) < n := by omega
        by_cases he : a = a'
        · subst he
          have HE := Lib.hid (show ys[k]? = zs[k]? by rw [hya, hza])
          have ht : tmrB a a = true := (tmrB_iff a a).2 rfl
          clear hya hza
          go_wp2
          go_quiet (fail)
          go_wp2
          go_roundw
          case rel => exact ⟨k + 1, by omega, by go_num, fun j hj => by
            rcases Nat.lt_succ_iff_lt_or_eq.1 hj with h | rfl
            · exact HS.out j h
            · exact HE.out, _, rfl⟩
          case measure => simp [intOf]; omega
        · have HR := Lib.hid (bool_of hr (ne_at hya hza he))
          have ht : tmrB a a' = false := bool_of (tmrB_iff a a') he
          clear hya hza he
          go_wp2
          go_quiet (fail)
          go_wp2
          go_ret
          exact ⟨by rw [HR.out]; rfl, _, World.drewN_drewN _ _ _⟩
      · have HR := Lib.hid (hr.2 (eq_upto (by omega) (fun j hj => HS.out j (by omega))))
        go_wp2
        go_ret
        exact ⟨by rw [HR.out]; rfl, _, rfl⟩
  · have HR := Lib.hid (bool_of hr (fun e => hnm (by rw [← hl1, ← hl2, e])))
    have hne : ((n : Int) == m) = false := by simp; omega
    clear hr
    go_enter Try.func134, Try.ntmps134
    go_wp2
    go_ret
    exact ⟨by rw [HR.out]; rfl, 0, rfl⟩

set_option maxHeartbeats 1600000 in
theorem sameQueues_any (cap cap2 : Int) (mk mk2 : Bool) (q1 q2 : Bool) (l1 h1 l2 h2 : Nat) (A B : Option Addr) (n m c d : Nat) (ys zs : List Tmr) (r : Bool) (w : World) (ha : Rep.timer.Sl q1 l1 h1 w A n ys) (hb : Rep.timer.Sl q2 l2 h2 w B m zs) (hh1 : h1 ≤ w.heap.size) (hh2 : h2 ≤ w.heap.size) (hn : n ≤ 1048576) (hm : m ≤ 1048576) (hr : r = true ↔ (cap = cap2 ∧ mk = mk2 ∧ ys = zs)) :
    Calls Try.prog 49 #[.agg #[.int .i64 cap, .bool mk, .slice A n c], .agg #[.int .i64 cap2, .bool mk2, .slice B m d]] w fun e w' => e = .returned (.bool r) ∧ Below w.heap.size w w' := by
  have hV : Below w.heap.size w ((w.alloc (.cells #[.int .i64 cap, .bool mk, .slice A n c] 59)).alloc (.cells #[.int .i64 cap2, .bool mk2, .slice B m d] 59)) := ((Below.refl _ _).alloc (Nat.le_refl _) _).alloc (by simp) _
  have HB := Lib.hid hV
  have HA1 := Lib.hid (ha.below hV hh1)
  have HA2 := Lib.hid (hb.below hV hh2)
  clear hV ha hb
  by_cases h : cap = cap2
  · subst h
    by_cases h2 : mk = mk2
    · subst h2
      have HR := Lib.hid (show r = true ↔ ys = zs by simpa using hr)
      clear hr
      go_enter Try.func49, Try.ntmps49
      go_wp2_with fail
      refine (equalI_any q1 q2 l1 h1 l2 h2 A B n m c d ys zs r _ HA1.out HA2.out hn hm HR.out).mono ?_
      rintro e w2 ⟨rfl, p, rfl⟩
      go_wp2
      go_ret
      exact ⟨rfl, below_drewN HB.out p⟩
    · have HR := Lib.hid (bool_of hr (fun e => h2 e.2.1))
      have h' : (mk == mk2) = false := by simpa using h2
      clear hr h2
      go_enter Try.func49, Try.ntmps49
      go_wp2
      go_ret
      exact ⟨by rw [HR.out]; rfl, HB.out⟩
  · have HR := Lib.hid (bool_of hr (fun e => h e.1))
    have h' : (cap == cap2) = false := by simpa using h
    clear hr h
    go_enter Try.func49, Try.ntmps49
    go_wp2
    go_ret
    exact ⟨by rw [HR.out]; rfl, HB.out⟩

set_option maxHeartbeats 3200000 in
theorem specSameQueues_any (cap cap2 : Int) (mk mk2 : Bool) (q1 q2 : Bool) (l1 h1 l2 h2 : Nat) (A B : Option Addr) (n m c d : Nat) (ys zs : List Tmr) (r : Bool) (w : World) (ha : Rep.timer.Sl q1 l1 h1 w A n ys) (hb : Rep.timer.Sl q2 l2 h2 w B m zs) (hh1 : h1 ≤ w.heap.size) (hh2 : h2 ≤ w.heap.size) (hn : n ≤ 1048576) (hm : m ≤ 1048576) (hr : r = true ↔ (cap = cap2 ∧ mk = mk2 ∧ ys = zs)) :
    Calls Try.prog 55 #[.agg #[.int .i64 cap, .bool mk, .slice A n c], .agg #[.int .i64 cap2, .bool mk2, .slice B m d]] w fun e w' => e = .returned (.bool r) ∧ Below w.heap.size w w' := by
  have hl1 := ha.1
  have hl2 := hb.1
  obtain ⟨V, hV⟩ : ∃ V : World, V = ((w.alloc (.cells #[.int .i64 cap, .bool mk, .slice A n c] 59)).alloc (.cells #[.int .i64 cap2, .bool mk2, .slice B m d] 59)) := ⟨_, rfl⟩
  have hbV : Below w.heap.size w V := by rw [hV]; exact ((Below.refl _ _).alloc (Nat.le_refl _) _).alloc (by simp) _
  have HB := Lib.hid hbV
  have HX1 := Lib.hid (show Box V w.heap.size 59 #[.int .i64 cap, .bool mk, .slice A n c] by rw [hV]; exact (Box.made _ _ _).over _)
  have HX2 := Lib.hid (show Box V (w.heap.size + 1) 59 #[.int .i64 cap2, .bool mk2, .slice B m d] by rw [hV]; exact Box.made_at _ _ _ (by simp))
  have HA1 := Lib.hid (ha.below hbV hh1)
  have HA2 := Lib.hid (hb.below hbV hh2)
  clear hbV ha hb
  by_cases h1 : cap = cap2
  rotate_left
  · skip
    have HN := Lib.hid (bool_of hr (fun e => h1 e.1))
    have h' : (cap != cap2) = true := by simpa using h1
    clear h1
    clear hr
    go_enter Try.func55, Try.ntmps55
    go_wp2
    go_ret
    exact ⟨by rw [HN.out]; rfl, ((Below.refl _ _).alloc (Nat.le_refl _) _).alloc (by simp) _⟩
  by_cases h2 : mk = mk2
  rotate_left
  · skip
    have HN := Lib.hid (bool_of hr (fun e => h2 e.2.1))
    have h' : (mk != mk2) = true := by simpa using h2
    subst h1
    clear hr
    go_enter Try.func55, Try.ntmps55
    go_wp2
    go_ret
    exact ⟨by rw [HN.out]; rfl, ((Below.refl _ _).alloc (Nat.le_refl _) _).alloc (by simp) _⟩
  by_cases h3 : n = m
  rotate_left
  · skip
    have HN := Lib.hid (bool_of hr (fun e => h3 (by rw [← hl1, ← hl2, e.2.2])))
    have h' : ((n : Int) != m) = true := by simp; omega
    subst h1
    subst h2
    clear hr
    go_enter Try.func55, Try.ntmps55
    go_wp2
    go_ret
    exact ⟨by rw [HN.out]; rfl, ((Below.refl _ _).alloc (Nat.le_refl _) _).alloc (by simp) _⟩
  · subst h1
    subst h2
    subst h3
    have HR := Lib.hid (show r = true ↔ ys = zs by simpa using hr)
    clear hr
    have c0 := HX1.out.look 0
    have c1 := HX1.out.look 1
    have c2 := HX1.out.look 2
    have d0 := HX2.out.look 0
    have d1 := HX2.out.look 1
    have d2 := HX2.out.look 2
    go_enter Try.func55, Try.ntmps55
    go_wp2
    rw [← hV]
    clear hV
    go_loopw [5] (fun i wr => ∃ k : Nat, k ≤ n ∧ i = .int .i64 k ∧ Hid (∀ j, j < k → ys[j]? = zs[j]?) ∧ ∃ q, wr = V.drewN q) (fun i _ => n - (intOf i).toNat)
    case atStart => exact ⟨0, Nat.zero_le _, rfl, fun j hj => absurd hj (by omega), 0, rfl⟩
    case round =>
      obtain ⟨j, hj, rfl, HT, q', rfl⟩ := hrel
      by_cases hjl : j < n
      · obtain ⟨bb, oo, t, rfl, hyt, a0, a1, a2, a3⟩ := Rep.timer_at HA1.out hjl
        obtain ⟨bb', oo', t', rfl, hzt, b0, b1, b2, b3⟩ := Rep.timer_at HA2.out hjl
        have hjl' : (j : Int) < n := by omega
        by_cases he : t = t'
        · subst he
          have HE := Lib.hid (show ys[j]? = zs[j]? by rw [hyt, hzt])
          have ht : tmrB t t = true := (tmrB_iff t t).2 rfl
          clear hyt hzt
          go_wp2
          go_quiet (fail)
          go_wp2
          go_roundw
          case rel => exact ⟨j + 1, by omega, by go_num, fun i hi => by
            rcases Nat.lt_succ_iff_lt_or_eq.1 hi with h | rfl
            · exact HT.out i h
            · exact HE.out, _, rfl⟩
          case measure => simp [intOf]; omega
        · have HN := Lib.hid (bool_of HR.out (ne_at hyt hzt he))
          have ht : tmrB t t' = false := bool_of (tmrB_iff t t') he
          clear hyt hzt he
          go_wp2
          go_quiet (fail)
          go_wp2
          go_ret
          exact ⟨by rw [HN.out]; rfl, below_drewN (below_drewN HB.out _) _⟩
      · have HN := Lib.hid (HR.out.2 (eq_upto (by omega) (fun j hj => HT.out j (by omega))))
        go_wp2
        go_ret
        exact ⟨by rw [HN.out]; rfl, below_drewN HB.out _⟩

end Go.Proofs.Ytiffhjofabaflaa

namespace Go.Proofs.Ytiffhjofabaflaa
open Go.RowKit
set_option linter.unusedVariables false

attribute [local go_sem high] neq_item
set_option maxHeartbeats 1600000 in
theorem lwItems_yes (q1 q2 : Bool) (l1 h1 l2 h2 : Nat) (A B : Option Addr) (n c d : Nat) (ys : List Tmr) (w : World) (ha : Rep.timer.Sl q1 l1 h1 w A n ys) (hb : Rep.timer.Sl q2 l2 h2 w B n ys) (hh1 : h1 ≤ w.heap.size) (hh2 : h2 ≤ w.heap.size) (hn : n ≤ 1048576) :
    Calls Try.prog 52 #[.slice A n c, .slice B n d] w fun e w' => e = .returned (.bool true) ∧ Below w.heap.size w w' := by
  go_enter Try.func52, Try.ntmps52
  go_wp2
  go_loopw [5] (fun i wr => ∃ k : Nat, k ≤ n ∧ i = .int .i64 k ∧ Hid (Below w.heap.size w wr)) (fun i _ => n - (intOf i).toNat)
  case atStart => exact ⟨0, Nat.zero_le _, rfl, Below.refl _ _⟩
  case round =>
    obtain ⟨k, hk, rfl, HB⟩ := hrel
    by_cases hlt : k < n
    · obtain ⟨b, o, a, rfl, hya, a0, a1, a2, a3⟩ := Rep.timer_at (ha.below HB.out hh1) hlt
      obtain ⟨b', o', a', rfl, hya', b0, b1, b2, b3⟩ := Rep.timer_at (hb.below HB.out hh2) hlt
      obtain rfl : a' = a := by rw [hya] at hya'; injection hya' with e; exact e.symm
      have hlt' : (k : Int) < n := by omega
      have hself : tmrB a' a' = true := by simp [tmrB]
      clear hya hya'
      go_wp2
      go_quiet (fail)
      go_wp2
      go_roundw
      case rel => exact ⟨k + 1, by omega, by go_num, Lib.hid (below_drewN HB.out _)⟩
      case measure => simp [intOf]; omega
    · go_wp2
      go_ret
      exact ⟨rfl, HB.out⟩

end Go.Proofs.Ytiffhjofabaflaa

namespace Go.Proofs.Ytiffhjofabaflaa
open Go.RowKit

theorem lwBig_no (A : Option Addr) (n c : Nat) (w : World) (hn : n ≤ 1048576) :
    Calls Try.prog 12 #[.slice A n c] w fun e w' => e = .returned (.bool false) ∧ w' = w := by
  have h1 : ¬ (1048576 : Int) < n := by omega
  go_enter Try.func12, Try.ntmps12
  go_wp2
  go_ret
  exact ⟨rfl, rfl⟩

theorem modlt (x m : Int) (h : 0 < m) : 0 ≤ x % m ∧ x % m < m := ⟨Int.emod_nonneg _ (by omega), Int.emod_lt_of_pos _ h⟩

end Go.Proofs.Ytiffhjofabaflaa

