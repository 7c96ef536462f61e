/-
  The program's PopItem. No statement is proved here.
-/
import Derived.Test.YtiffhjofabaflaaBacklog
import Derived.Test.YtiffhjofabaflaaQueueFault2
namespace Go.Proofs.Ytiffhjofabaflaa
open Go.RowKit
set_option linter.unusedVariables false

/-- What PopItem answers: code, Cap, Marks, Items of the queue, Mark, Items. -/
def ppC (cap : Int) (mk : Bool) (ys : List Tmr) : Int := if qf cap ys = 0 then (if mk = true then 0 else if ys = [] then 4 else 0) else qf cap ys
def ppX (cap : Int) (mk : Bool) (ys : List Tmr) : Int := if ppC cap mk ys = 0 then cap else 0
def ppP (ys : List Tmr) : Bool := false
def ppU (cap : Int) (mk : Bool) (ys : List Tmr) : List Tmr := if qf cap ys = 0 then (if mk = true then ys else ys.drop 1) else []
def ppT (cap : Int) (mk : Bool) (ys : List Tmr) : Bool := if qf cap ys = 0 then mk else false
def ppZ (cap : Int) (mk : Bool) (ys : List Tmr) : List Tmr := if qf cap ys = 0 then (if mk = true then [] else ys.take 1) else []
theorem pp_bd (cap : Int) (mk : Bool) (ys : List Tmr) : (ppU cap mk ys).length ≤ 1048576 ∧ (ppZ cap mk ys).length ≤ 1048576 := by
  by_cases h : qf cap ys = 0
  · have h8 := (qf_ok h).2.2.1
    unfold ppU ppZ
    rw [if_pos h, if_pos h]
    constructor
    · split
      · omega
      · rw [List.length_drop]; omega
    · split
      · simp
      · rw [List.length_take]; omega
  · unfold ppU ppZ
    rw [if_neg h, if_neg h]
    simp
/-- What DrainQueue answers. -/
def dqX (cap : Int) (ys : List Tmr) : Int := if qf cap ys = 0 then cap else 0
def dqU (ys : List Tmr) : List Tmr := []
def dqT (cap : Int) (mk : Bool) (ys : List Tmr) : Bool := if qf cap ys = 0 then mk else false
def dqZ (cap : Int) (ys : List Tmr) : List Tmr := if qf cap ys = 0 then ys else []
theorem dq_bd (cap : Int) (ys : List Tmr) : (dqU ys).length ≤ 1048576 ∧ (dqZ cap ys).length ≤ 1048576 := by
  refine ⟨by simp [dqU], ?_⟩
  unfold dqZ
  split
  · rename_i h; have := (qf_ok h).2.2.1; omega
  · simp

set_option maxRecDepth 100000 in
set_option maxHeartbeats 3200000 in
theorem popItem_any (cap : Int) (mk : Bool) (q : Bool) (lo hi : Nat) (A : Option Addr) (n c : Nat) (ys : List Tmr) (w : World) (ha : Rep.timer.Sl q lo hi w A n ys) (hh : hi ≤ w.heap.size) (hn : n ≤ 1048576) (hc : n ≤ c) :
    Calls Try.prog 45 #[.agg #[.int .i64 cap, .bool mk, .slice A n c]] w fun e w' => ∃ O j k E m d, e = .returned (.agg #[.int .i64 (ppC cap mk ys), .int .i64 (ppX cap mk ys), .bool (ppP ys), .slice O j k, .bool (ppT cap mk ys), .slice E m d]) ∧ Kept w.heap.size w'.heap.size (QK w.heap.size w'.heap.size O j (ppU cap mk ys) E m (ppZ cap mk ys)) w' ∧ Below w.heap.size w w' := by
  have hl := ha.1
  by_cases h0 : ¬ qf cap ys = 0
  · have HB := Lib.hid (Below.refl w.heap.size w)
    have HA := Rep.Sl.kept ha hh
    have Zh := Lib.hid hh
    obtain ⟨r, hr⟩ : ∃ z, qf cap ys = z := ⟨_, rfl⟩
    have HR := Lib.hid hr
    have h0r : ¬ r = 0 := by rw [← hr]; exact h0
    have hr0 : (r != 0) = true := by simpa using h0r
    have HV : Hid (ppC cap mk ys = r ∧ ppX cap mk ys = 0 ∧ ppP ys = false ∧ ppU cap mk ys = [] ∧ ppT cap mk ys = false ∧ ppZ cap mk ys = []) := Lib.hid (by refine ⟨?_, ?_, ?_, ?_, ?_, ?_⟩ <;> simp [ppC, ppP, ppT, ppU, ppX, ppZ, hr, h0r])
    clear h0 hr h0r
    clear ha hl hh
    go_enter Try.func45, Try.ntmps45
    go_wp2_with fail
    refine Calls.name ?_
    intro U1 hU1
    have hb : Below w.heap.size w U1 := by rw [hU1]; exact (((Below.refl _ _).alloc (Nat.le_refl _) _).alloc (by simp <;> omega) _)
    have zz : Hid (w.heap.size + 2 = U1.heap.size) := Lib.hid (by rw [hU1]; simp)
    have HX1 : Kept w.heap.size (w.heap.size + 1) (BoxK w.heap.size 59 #[.int .i64 cap, .bool mk, .slice A n c]) U1 := by rw [hU1]; exact Kept.box ((Box.made_at _ _ _ rfl).over _)
    have HX2 : Kept (w.heap.size + 1) (w.heap.size + 1 + 1) (BoxK (w.heap.size + 1) 63 #[.int .i64 0, .int .i64 0, .bool false, .slice none 0 0, .bool false, .slice none 0 0]) U1 := by rw [hU1]; exact Kept.box (Box.made_at _ _ _ (by simp <;> omega))
    replace HA := HA.below hb
    replace HB := Lib.hid (below_step HB.out hb)
    clear hb
    have Z1 := zz; clear zz
    clear hU1
    refine (queueFault_any cap mk q lo hi A n c ys _ HA.sl HA.le hn hc).mono ?_
    rw [HR.out]
    rintro e w2 ⟨rfl, hb⟩
    have Z2 := Lib.hid hb.size
    replace HA := HA.below hb
    replace HX1 := HX1.below hb
    replace HX2 := HX2.below hb
    replace HB := Lib.hid (below_step HB.out hb)
    clear hb
    have c2_0 := HX2.look 0
    have c2_1 := HX2.look 1
    have c2_2 := HX2.look 2
    have c2_3 := HX2.look 3
    have c2_4 := HX2.look 4
    have c2_5 := HX2.look 5
    have f2_0 := HX2.free 0
    have f2_1 := HX2.free 1
    have f2_2 := HX2.free 2
    have f2_3 := HX2.free 3
    have f2_4 := HX2.free 4
    have f2_5 := HX2.free 5
    have l2_0 := HX1.bx.lt
    have l2_1 := HX2.bx.lt
    go_wp2
    clear c2_0 c2_1 c2_2 c2_3 c2_4 c2_5 f2_0 f2_1 f2_2 f2_3 f2_4 f2_5 l2_0 l2_1
    obtain ⟨U3, hU3⟩ : ∃ W : World, W = ((((((w2.setCell ⟨w.heap.size + 1, 0, none⟩ (.int .i64 r)).setCell ⟨w.heap.size + 1, 1, none⟩ (.int .i64 0)).setCell ⟨w.heap.size + 1, 2, none⟩ (.bool false)).setCell ⟨w.heap.size + 1, 3, none⟩ (.slice none 0 0)).setCell ⟨w.heap.size + 1, 4, none⟩ (.bool false)).setCell ⟨w.heap.size + 1, 5, none⟩ (.slice none 0 0)) := ⟨_, rfl⟩
    have ho : Only (w.heap.size + 1) (w.heap.size + 1 + 1) w2 U3 := by rw [hU3]; exact (((((((Only.refl _ _ _).set (p := ⟨w.heap.size + 1, 0, none⟩) (Nat.le_refl _) (Nat.lt_succ_self _) _).set (p := ⟨w.heap.size + 1, 1, none⟩) (Nat.le_refl _) (Nat.lt_succ_self _) _).set (p := ⟨w.heap.size + 1, 2, none⟩) (Nat.le_refl _) (Nat.lt_succ_self _) _).set (p := ⟨w.heap.size + 1, 3, none⟩) (Nat.le_refl _) (Nat.lt_succ_self _) _).set (p := ⟨w.heap.size + 1, 4, none⟩) (Nat.le_refl _) (Nat.lt_succ_self _) _).set (p := ⟨w.heap.size + 1, 5, none⟩) (Nat.le_refl _) (Nat.lt_succ_self _) _)
    replace HX2 : Kept (w.heap.size + 1) (w.heap.size + 1 + 1) (BoxK (w.heap.size + 1) 63 #[.int .i64 r, .int .i64 0, .bool false, .slice none 0 0, .bool false, .slice none 0 0]) U3 := by rw [hU3]; exact Kept.box ((((((HX2.bx.puts 0 (.int .i64 r) (cs' := #[.int .i64 r, .int .i64 0, .bool false, .slice none 0 0, .bool false, .slice none 0 0]) rfl).puts 1 (.int .i64 0) (cs' := #[.int .i64 r, .int .i64 0, .bool false, .slice none 0 0, .bool false, .slice none 0 0]) rfl).puts 2 (.bool false) (cs' := #[.int .i64 r, .int .i64 0, .bool false, .slice none 0 0, .bool false, .slice none 0 0]) rfl).puts 3 (.slice none 0 0) (cs' := #[.int .i64 r, .int .i64 0, .bool false, .slice none 0 0, .bool false, .slice none 0 0]) rfl).puts 4 (.bool false) (cs' := #[.int .i64 r, .int .i64 0, .bool false, .slice none 0 0, .bool false, .slice none 0 0]) rfl).puts 5 (.slice none 0 0) (cs' := #[.int .i64 r, .int .i64 0, .bool false, .slice none 0 0, .bool false, .slice none 0 0]) rfl)
    replace HA := HA.only ho (by have := Zh.out; have := Z1.out; have := Z2.out; omega)
    replace HX1 := HX1.only ho (by have := Zh.out; have := Z1.out; have := Z2.out; omega)
    replace HB := Lib.hid (Below.only HB.out ho (by have := Zh.out; have := Z1.out; have := Z2.out; omega) HB.out.size)
    have Z3 : Hid (U3.heap.size = w2.heap.size) := Lib.hid (by rw [hU3]; simp [World.setCell]); clear ho
    have q_0 := HX2.look 0
    have q_1 := HX2.look 1
    have q_2 := HX2.look 2
    have q_3 := HX2.look 3
    have q_4 := HX2.look 4
    have q_5 := HX2.look 5
    subst hU3
    exact bodyPost_ret (v := .agg #[.int .i64 r, .int .i64 0, .bool false, .slice none 0 0, .bool false, .slice none 0 0]) (by simp [results, Try.results45, go_sem, q_0, q_1, q_2, q_3, q_4, q_5]) rfl ⟨none, 0, 0, none, 0, 0, by rw [HV.out.1, HV.out.2.1, HV.out.2.2.1, HV.out.2.2.2.2.1], by rw [HV.out.2.2.2.1, HV.out.2.2.2.2.2]; exact QK.kept (QK.nil _ _ _ _ _) (Nat.le_refl _), HB.out⟩
  have h0 : qf cap ys = 0 := Classical.byContradiction h0
  cases mk with
  | true =>
    have HB := Lib.hid (Below.refl w.heap.size w)
    have HA := Rep.Sl.kept ha hh
    have Zh := Lib.hid hh
    have HR := Lib.hid h0
    have hq8 := qf_ok h0
    have hn8 : n ≤ 1000 := by have := hq8.2.2.1; omega
    have HV : Hid (ppC cap true ys = 0 ∧ ppX cap true ys = cap ∧ ppP ys = false ∧ ppU cap true ys = ys ∧ ppT cap true ys = true ∧ ppZ cap true ys = []) := Lib.hid (by refine ⟨?_, ?_, ?_, ?_, ?_, ?_⟩ <;> simp [ppC, ppX, ppP, ppU, ppT, ppZ, h0])
    clear h0 hq8
    clear ha hl hh
    go_enter Try.func45, Try.ntmps45
    go_wp2_with fail
    refine Calls.name ?_
    intro U1 hU1
    have hb : Below w.heap.size w U1 := by rw [hU1]; exact (((Below.refl _ _).alloc (Nat.le_refl _) _).alloc (by simp <;> omega) _)
    have zz : Hid (w.heap.size + 2 = U1.heap.size) := Lib.hid (by rw [hU1]; simp)
    have HX1 : Kept w.heap.size (w.heap.size + 1) (BoxK w.heap.size 59 #[.int .i64 cap, .bool true, .slice A n c]) U1 := by rw [hU1]; exact Kept.box ((Box.made_at _ _ _ rfl).over _)
    have HX2 : Kept (w.heap.size + 1) (w.heap.size + 1 + 1) (BoxK (w.heap.size + 1) 63 #[.int .i64 0, .int .i64 0, .bool false, .slice none 0 0, .bool false, .slice none 0 0]) U1 := by rw [hU1]; exact Kept.box (Box.made_at _ _ _ (by simp <;> omega))
    replace HA := HA.below hb
    replace HB := Lib.hid (below_step HB.out hb)
    clear hb
    have Z1 := zz; clear zz
    clear hU1
    refine (queueFault_any cap true q lo hi A n c ys _ HA.sl HA.le hn hc).mono ?_
    rw [HR.out]
    rintro e w2 ⟨rfl, hb⟩
    have Z2 := Lib.hid hb.size
    replace HA := HA.below hb
    replace HX1 := HX1.below hb
    replace HX2 := HX2.below hb
    replace HB := Lib.hid (below_step HB.out hb)
    clear hb
    have c2_0 := HX1.look 0
    have c2_1 := HX1.look 1
    have c2_2 := HX1.look 2
    have l2_0 := HX1.bx.lt
    have l2_1 := HX2.bx.lt
    go_wp2_with fail
    clear c2_0 c2_1 c2_2 l2_0 l2_1
    refine (backlogOf_any cap true q lo hi A n c ys _ HA.sl HA.le hn8).mono ?_
    rintro e w3 ⟨g, E0, d0, rfl, hg, ho, hle, hb⟩
    have Z3 := Lib.hid hb.size
    replace HA := HA.below hb
    replace HX1 := HX1.below hb
    replace HX2 := HX2.below hb
    replace HB := Lib.hid (below_step HB.out hb)
    clear hb
    have HG := hg; have HO := ho; have Zg := Lib.hid hle; clear hg ho hle
    have Zg2 := Lib.hid HG.le
    have l3_0 := HX1.bx.lt
    have l3_1 := HX2.bx.lt
    have l3_2 := HG.bx.lt
    go_wp2_with fail
    clear l3_0 l3_1 l3_2
    refine (takeMark_any cap true g E0 n d0 _ HG.bx).mono ?_
    rintro e w4 ⟨rfl, hx, ho⟩
    have Z4 := Lib.hid ho.size
    replace HA := HA.only ho (by have := Zh.out; have := Z1.out; have := Z2.out; have := Z3.out; have := Zg.out; have := Zg2.out; have := Z4.out; omega)
    replace HX1 := HX1.only ho (by have := Zh.out; have := Z1.out; have := Z2.out; have := Z3.out; have := Zg.out; have := Zg2.out; have := Z4.out; omega)
    replace HX2 := HX2.only ho (by have := Zh.out; have := Z1.out; have := Z2.out; have := Z3.out; have := Zg.out; have := Zg2.out; have := Z4.out; omega)
    replace HO := HO.only ho (by have := Zh.out; have := Z1.out; have := Z2.out; have := Z3.out; have := Zg.out; have := Zg2.out; have := Z4.out; omega)
    replace HB := Lib.hid (Below.only HB.out ho (by have := Zh.out; have := Z1.out; have := Z2.out; have := Z3.out; have := Zg.out; have := Zg2.out; have := Z4.out; omega) HB.out.size)
    clear ho
    replace HG := Kept.box hx; clear hx
    have l4_0 := HX1.bx.lt
    have l4_1 := HX2.bx.lt
    have l4_2 := HG.bx.lt
    go_wp2_with fail
    clear l4_0 l4_1 l4_2
    refine (queueOf_any cap false g E0 n d0 _ HG.bx).mono ?_
    rintro e w5 ⟨rfl, hb⟩
    have Z5 := Lib.hid hb.size
    replace HA := HA.below hb
    replace HX1 := HX1.below hb
    replace HX2 := HX2.below hb
    replace HG := HG.below hb
    replace HO := HO.below hb
    replace HB := Lib.hid (below_step HB.out hb)
    clear hb
    have c5_0 := HX2.look 0
    have c5_1 := HX2.look 1
    have c5_2 := HX2.look 2
    have c5_3 := HX2.look 3
    have c5_4 := HX2.look 4
    have c5_5 := HX2.look 5
    have f5_0 := HX2.free 0
    have f5_1 := HX2.free 1
    have f5_2 := HX2.free 2
    have f5_3 := HX2.free 3
    have f5_4 := HX2.free 4
    have f5_5 := HX2.free 5
    have l5_0 := HX1.bx.lt
    have l5_1 := HX2.bx.lt
    have l5_2 := HG.bx.lt
    go_wp2
    clear c5_0 c5_1 c5_2 c5_3 c5_4 c5_5 f5_0 f5_1 f5_2 f5_3 f5_4 f5_5 l5_0 l5_1 l5_2
    obtain ⟨U6, hU6⟩ : ∃ W : World, W = ((((((w5.setCell ⟨w.heap.size + 1, 0, none⟩ (.int .i64 0)).setCell ⟨w.heap.size + 1, 1, none⟩ (.int .i64 cap)).setCell ⟨w.heap.size + 1, 2, none⟩ (.bool false)).setCell ⟨w.heap.size + 1, 3, none⟩ (.slice E0 n d0)).setCell ⟨w.heap.size + 1, 4, none⟩ (.bool true)).setCell ⟨w.heap.size + 1, 5, none⟩ (.slice none 0 0)) := ⟨_, rfl⟩
    have ho : Only (w.heap.size + 1) (w.heap.size + 1 + 1) w5 U6 := by rw [hU6]; exact (((((((Only.refl _ _ _).set (p := ⟨w.heap.size + 1, 0, none⟩) (Nat.le_refl _) (Nat.lt_succ_self _) _).set (p := ⟨w.heap.size + 1, 1, none⟩) (Nat.le_refl _) (Nat.lt_succ_self _) _).set (p := ⟨w.heap.size + 1, 2, none⟩) (Nat.le_refl _) (Nat.lt_succ_self _) _).set (p := ⟨w.heap.size + 1, 3, none⟩) (Nat.le_refl _) (Nat.lt_succ_self _) _).set (p := ⟨w.heap.size + 1, 4, none⟩) (Nat.le_refl _) (Nat.lt_succ_self _) _).set (p := ⟨w.heap.size + 1, 5, none⟩) (Nat.le_refl _) (Nat.lt_succ_self _) _)
    replace HX2 : Kept (w.heap.size + 1) (w.heap.size + 1 + 1) (BoxK (w.heap.size + 1) 63 #[.int .i64 0, .int .i64 cap, .bool false, .slice E0 n d0, .bool true, .slice none 0 0]) U6 := by rw [hU6]; exact Kept.box ((((((HX2.bx.puts 0 (.int .i64 0) (cs' := #[.int .i64 0, .int .i64 0, .bool false, .slice none 0 0, .bool false, .slice none 0 0]) rfl).puts 1 (.int .i64 cap) (cs' := #[.int .i64 0, .int .i64 cap, .bool false, .slice none 0 0, .bool false, .slice none 0 0]) rfl).puts 2 (.bool false) (cs' := #[.int .i64 0, .int .i64 cap, .bool false, .slice none 0 0, .bool false, .slice none 0 0]) rfl).puts 3 (.slice E0 n d0) (cs' := #[.int .i64 0, .int .i64 cap, .bool false, .slice E0 n d0, .bool false, .slice none 0 0]) rfl).puts 4 (.bool true) (cs' := #[.int .i64 0, .int .i64 cap, .bool false, .slice E0 n d0, .bool true, .slice none 0 0]) rfl).puts 5 (.slice none 0 0) (cs' := #[.int .i64 0, .int .i64 cap, .bool false, .slice E0 n d0, .bool true, .slice none 0 0]) rfl)
    replace HA := HA.only ho (by have := Zh.out; have := Z1.out; have := Z2.out; have := Z3.out; have := Zg.out; have := Zg2.out; have := Z4.out; have := Z5.out; omega)
    replace HX1 := HX1.only ho (by have := Zh.out; have := Z1.out; have := Z2.out; have := Z3.out; have := Zg.out; have := Zg2.out; have := Z4.out; have := Z5.out; omega)
    replace HG := HG.only ho (by have := Zh.out; have := Z1.out; have := Z2.out; have := Z3.out; have := Zg.out; have := Zg2.out; have := Z4.out; have := Z5.out; omega)
    replace HO := HO.only ho (by have := Zh.out; have := Z1.out; have := Z2.out; have := Z3.out; have := Zg.out; have := Zg2.out; have := Z4.out; have := Z5.out; omega)
    replace HB := Lib.hid (Below.only HB.out ho (by have := Zh.out; have := Z1.out; have := Z2.out; have := Z3.out; have := Zg.out; have := Zg2.out; have := Z4.out; have := Z5.out; omega) HB.out.size)
    have Z6 : Hid (U6.heap.size = w5.heap.size) := Lib.hid (by rw [hU6]; simp [World.setCell]); clear ho
    have q_0 := HX2.look 0
    have q_1 := HX2.look 1
    have q_2 := HX2.look 2
    have q_3 := HX2.look 3
    have q_4 := HX2.look 4
    have q_5 := HX2.look 5
    subst hU6
    exact bodyPost_ret (v := .agg #[.int .i64 0, .int .i64 cap, .bool false, .slice E0 n d0, .bool true, .slice none 0 0]) (by simp [results, Try.results45, go_sem, q_0, q_1, q_2, q_3, q_4, q_5]) rfl ⟨E0, n, d0, none, 0, 0, by rw [HV.out.1, HV.out.2.1, HV.out.2.2.1, HV.out.2.2.2.2.1], by rw [HV.out.2.2.2.1, HV.out.2.2.2.2.2]; exact QK.kept (QK.of_own (HO.ownF.mono (by have := Zh.out; have := Z1.out; have := Z2.out; have := Z3.out; have := Zg.out; have := Zg2.out; have := Z4.out; have := Z5.out; have := Z6.out; omega)) (OwnF.nil_ _ _ _ _ _) (fun r _ h => by cases h)) (Nat.le_refl _), HB.out⟩
  | false =>
  by_cases hn0 : n = 0
  · have HB := Lib.hid (Below.refl w.heap.size w)
    have HA := Rep.Sl.kept ha hh
    have Zh := Lib.hid hh
    have hy0 : ys = [] := List.eq_nil_of_length_eq_zero (by omega)
    have h0e : qf cap [] = 0 := by rw [← hy0]; exact h0
    have HR := Lib.hid h0
    have hq8 := qf_ok h0
    have hn8 : n ≤ 1000 := by have := hq8.2.2.1; omega
    have HV : Hid (ppC cap false ys = 4 ∧ ppX cap false ys = 0 ∧ ppP ys = false ∧ ppU cap false ys = [] ∧ ppT cap false ys = false ∧ ppZ cap false ys = []) := Lib.hid (by refine ⟨?_, ?_, ?_, ?_, ?_, ?_⟩ <;> simp [ppC, ppX, ppP, ppU, ppT, ppZ, hy0, h0e])
    have hn1 : ((n : Int) == 0) = true := by rw [hn0]; rfl
    clear h0 hq8 hy0 hn0 h0e
    clear ha hl hh
    go_enter Try.func45, Try.ntmps45
    go_wp2_with fail
    refine Calls.name ?_
    intro U1 hU1
    have hb : Below w.heap.size w U1 := by rw [hU1]; exact (((Below.refl _ _).alloc (Nat.le_refl _) _).alloc (by simp <;> omega) _)
    have zz : Hid (w.heap.size + 2 = U1.heap.size) := Lib.hid (by rw [hU1]; simp)
    have HX1 : Kept w.heap.size (w.heap.size + 1) (BoxK w.heap.size 59 #[.int .i64 cap, .bool false, .slice A n c]) U1 := by rw [hU1]; exact Kept.box ((Box.made_at _ _ _ rfl).over _)
    have HX2 : Kept (w.heap.size + 1) (w.heap.size + 1 + 1) (BoxK (w.heap.size + 1) 63 #[.int .i64 0, .int .i64 0, .bool false, .slice none 0 0, .bool false, .slice none 0 0]) U1 := by rw [hU1]; exact Kept.box (Box.made_at _ _ _ (by simp <;> omega))
    replace HA := HA.below hb
    replace HB := Lib.hid (below_step HB.out hb)
    clear hb
    have Z1 := zz; clear zz
    clear hU1
    refine (queueFault_any cap false q lo hi A n c ys _ HA.sl HA.le hn hc).mono ?_
    rw [HR.out]
    rintro e w2 ⟨rfl, hb⟩
    have Z2 := Lib.hid hb.size
    replace HA := HA.below hb
    replace HX1 := HX1.below hb
    replace HX2 := HX2.below hb
    replace HB := Lib.hid (below_step HB.out hb)
    clear hb
    have c2_0 := HX1.look 0
    have c2_1 := HX1.look 1
    have c2_2 := HX1.look 2
    have l2_0 := HX1.bx.lt
    have l2_1 := HX2.bx.lt
    go_wp2_with fail
    clear c2_0 c2_1 c2_2 l2_0 l2_1
    refine (backlogOf_any cap false q lo hi A n c ys _ HA.sl HA.le hn8).mono ?_
    rintro e w3 ⟨g, E0, d0, rfl, hg, ho, hle, hb⟩
    have Z3 := Lib.hid hb.size
    replace HA := HA.below hb
    replace HX1 := HX1.below hb
    replace HX2 := HX2.below hb
    replace HB := Lib.hid (below_step HB.out hb)
    clear hb
    have HG := hg; have HO := ho; have Zg := Lib.hid hle; clear hg ho hle
    have Zg2 := Lib.hid HG.le
    have l3_0 := HX1.bx.lt
    have l3_1 := HX2.bx.lt
    have l3_2 := HG.bx.lt
    go_wp2_with fail
    clear l3_0 l3_1 l3_2
    refine (takeMark_any cap false g E0 n d0 _ HG.bx).mono ?_
    rintro e w4 ⟨rfl, hx, ho⟩
    have Z4 := Lib.hid ho.size
    replace HA := HA.only ho (by have := Zh.out; have := Z1.out; have := Z2.out; have := Z3.out; have := Zg.out; have := Zg2.out; have := Z4.out; omega)
    replace HX1 := HX1.only ho (by have := Zh.out; have := Z1.out; have := Z2.out; have := Z3.out; have := Zg.out; have := Zg2.out; have := Z4.out; omega)
    replace HX2 := HX2.only ho (by have := Zh.out; have := Z1.out; have := Z2.out; have := Z3.out; have := Zg.out; have := Zg2.out; have := Z4.out; omega)
    replace HO := HO.only ho (by have := Zh.out; have := Z1.out; have := Z2.out; have := Z3.out; have := Zg.out; have := Zg2.out; have := Z4.out; omega)
    replace HB := Lib.hid (Below.only HB.out ho (by have := Zh.out; have := Z1.out; have := Z2.out; have := Z3.out; have := Zg.out; have := Zg2.out; have := Z4.out; omega) HB.out.size)
    clear ho
    replace HG := Kept.box hx; clear hx
    have c4_0 := HG.look 2
    have c4_1 := HX2.look 0
    have c4_2 := HX2.look 1
    have c4_3 := HX2.look 2
    have c4_4 := HX2.look 3
    have c4_5 := HX2.look 4
    have c4_6 := HX2.look 5
    have f4_0 := HX2.free 0
    have f4_1 := HX2.free 1
    have f4_2 := HX2.free 2
    have f4_3 := HX2.free 3
    have f4_4 := HX2.free 4
    have f4_5 := HX2.free 5
    have l4_0 := HX1.bx.lt
    have l4_1 := HX2.bx.lt
    have l4_2 := HG.bx.lt
    have n4_0_0 : ¬ (w.heap.size + 1) = g := (by have := Zh.out; have := Z1.out; have := Z2.out; have := Z3.out; have := Zg.out; have := Zg2.out; have := Z4.out; omega)
    have m4_0_0 : ¬ g = (w.heap.size + 1) := (by have := Zh.out; have := Z1.out; have := Z2.out; have := Z3.out; have := Zg.out; have := Zg2.out; have := Z4.out; omega)
    go_wp2
    clear c4_0 c4_1 c4_2 c4_3 c4_4 c4_5 c4_6 f4_0 f4_1 f4_2 f4_3 f4_4 f4_5 l4_0 l4_1 l4_2 n4_0_0 m4_0_0
    obtain ⟨U5, hU5⟩ : ∃ W : World, W = ((((((w4.setCell ⟨w.heap.size + 1, 0, none⟩ (.int .i64 4)).setCell ⟨w.heap.size + 1, 1, none⟩ (.int .i64 0)).setCell ⟨w.heap.size + 1, 2, none⟩ (.bool false)).setCell ⟨w.heap.size + 1, 3, none⟩ (.slice none 0 0)).setCell ⟨w.heap.size + 1, 4, none⟩ (.bool false)).setCell ⟨w.heap.size + 1, 5, none⟩ (.slice none 0 0)) := ⟨_, rfl⟩
    have ho : Only (w.heap.size + 1) (w.heap.size + 1 + 1) w4 U5 := by rw [hU5]; exact (((((((Only.refl _ _ _).set (p := ⟨w.heap.size + 1, 0, none⟩) (Nat.le_refl _) (Nat.lt_succ_self _) _).set (p := ⟨w.heap.size + 1, 1, none⟩) (Nat.le_refl _) (Nat.lt_succ_self _) _).set (p := ⟨w.heap.size + 1, 2, none⟩) (Nat.le_refl _) (Nat.lt_succ_self _) _).set (p := ⟨w.heap.size + 1, 3, none⟩) (Nat.le_refl _) (Nat.lt_succ_self _) _).set (p := ⟨w.heap.size + 1, 4, none⟩) (Nat.le_refl _) (Nat.lt_succ_self _) _).set (p := ⟨w.heap.size + 1, 5, none⟩) (Nat.le_refl _) (Nat.lt_succ_self _) _)
    replace HX2 : Kept (w.heap.size + 1) (w.heap.size + 1 + 1) (BoxK (w.heap.size + 1) 63 #[.int .i64 4, .int .i64 0, .bool false, .slice none 0 0, .bool false, .slice none 0 0]) U5 := by rw [hU5]; exact Kept.box ((((((HX2.bx.puts 0 (.int .i64 4) (cs' := #[.int .i64 4, .int .i64 0, .bool false, .slice none 0 0, .bool false, .slice none 0 0]) rfl).puts 1 (.int .i64 0) (cs' := #[.int .i64 4, .int .i64 0, .bool false, .slice none 0 0, .bool false, .slice none 0 0]) rfl).puts 2 (.bool false) (cs' := #[.int .i64 4, .int .i64 0, .bool false, .slice none 0 0, .bool false, .slice none 0 0]) rfl).puts 3 (.slice none 0 0) (cs' := #[.int .i64 4, .int .i64 0, .bool false, .slice none 0 0, .bool false, .slice none 0 0]) rfl).puts 4 (.bool false) (cs' := #[.int .i64 4, .int .i64 0, .bool false, .slice none 0 0, .bool false, .slice none 0 0]) rfl).puts 5 (.slice none 0 0) (cs' := #[.int .i64 4, .int .i64 0, .bool false, .slice none 0 0, .bool false, .slice none 0 0]) rfl)
    replace HA := HA.only ho (by have := Zh.out; have := Z1.out; have := Z2.out; have := Z3.out; have := Zg.out; have := Zg2.out; have := Z4.out; omega)
    replace HX1 := HX1.only ho (by have := Zh.out; have := Z1.out; have := Z2.out; have := Z3.out; have := Zg.out; have := Zg2.out; have := Z4.out; omega)
    replace HG := HG.only ho (by have := Zh.out; have := Z1.out; have := Z2.out; have := Z3.out; have := Zg.out; have := Zg2.out; have := Z4.out; omega)
    replace HO := HO.only ho (by have := Zh.out; have := Z1.out; have := Z2.out; have := Z3.out; have := Zg.out; have := Zg2.out; have := Z4.out; omega)
    replace HB := Lib.hid (Below.only HB.out ho (by have := Zh.out; have := Z1.out; have := Z2.out; have := Z3.out; have := Zg.out; have := Zg2.out; have := Z4.out; omega) HB.out.size)
    have Z5 : Hid (U5.heap.size = w4.heap.size) := Lib.hid (by rw [hU5]; simp [World.setCell]); clear ho
    have q_0 := HX2.look 0
    have q_1 := HX2.look 1
    have q_2 := HX2.look 2
    have q_3 := HX2.look 3
    have q_4 := HX2.look 4
    have q_5 := HX2.look 5
    subst hU5
    exact bodyPost_ret (v := .agg #[.int .i64 4, .int .i64 0, .bool false, .slice none 0 0, .bool false, .slice none 0 0]) (by simp [results, Try.results45, go_sem, q_0, q_1, q_2, q_3, q_4, q_5]) rfl ⟨none, 0, 0, none, 0, 0, by rw [HV.out.1, HV.out.2.1, HV.out.2.2.1, HV.out.2.2.2.2.1], by rw [HV.out.2.2.2.1, HV.out.2.2.2.2.2]; exact QK.kept (QK.nil _ _ _ _ _) (Nat.le_refl _), HB.out⟩
  · have HB := Lib.hid (Below.refl w.heap.size w)
    have HA := Rep.Sl.kept ha hh
    have Zh := Lib.hid hh
    have hy : ¬ ys = [] := fun e => hn0 (by rw [← hl, e]; rfl)
    have HR := Lib.hid h0
    have hq8 := qf_ok h0
    have hn8 : n ≤ 1000 := by have := hq8.2.2.1; omega
    have HV : Hid (ppC cap false ys = 0 ∧ ppX cap false ys = cap ∧ ppP ys = false ∧ ppU cap false ys = (ys.drop 1) ∧ ppT cap false ys = false ∧ ppZ cap false ys = (ys.take 1)) := Lib.hid (by refine ⟨?_, ?_, ?_, ?_, ?_, ?_⟩ <;> simp [ppC, ppX, ppP, ppU, ppT, ppZ, h0, hy])
    have hn1 : ((n : Int) == 0) = false := by rw [beq_eq_false_iff_ne]; omega
    have hpos : 1 ≤ n := by omega
    clear h0 hq8 hy hn0
    clear ha hl hh
    go_enter Try.func45, Try.ntmps45
    go_wp2_with fail
    refine Calls.name ?_
    intro U1 hU1
    have hb : Below w.heap.size w U1 := by rw [hU1]; exact (((Below.refl _ _).alloc (Nat.le_refl _) _).alloc (by simp <;> omega) _)
    have zz : Hid (w.heap.size + 2 = U1.heap.size) := Lib.hid (by rw [hU1]; simp)
    have HX1 : Kept w.heap.size (w.heap.size + 1) (BoxK w.heap.size 59 #[.int .i64 cap, .bool false, .slice A n c]) U1 := by rw [hU1]; exact Kept.box ((Box.made_at _ _ _ rfl).over _)
    have HX2 : Kept (w.heap.size + 1) (w.heap.size + 1 + 1) (BoxK (w.heap.size + 1) 63 #[.int .i64 0, .int .i64 0, .bool false, .slice none 0 0, .bool false, .slice none 0 0]) U1 := by rw [hU1]; exact Kept.box (Box.made_at _ _ _ (by simp <;> omega))
    replace HA := HA.below hb
    replace HB := Lib.hid (below_step HB.out hb)
    clear hb
    have Z1 := zz; clear zz
    clear hU1
    refine (queueFault_any cap false q lo hi A n c ys _ HA.sl HA.le hn hc).mono ?_
    rw [HR.out]
    rintro e w2 ⟨rfl, hb⟩
    have Z2 := Lib.hid hb.size
    replace HA := HA.below hb
    replace HX1 := HX1.below hb
    replace HX2 := HX2.below hb
    replace HB := Lib.hid (below_step HB.out hb)
    clear hb
    have c2_0 := HX1.look 0
    have c2_1 := HX1.look 1
    have c2_2 := HX1.look 2
    have l2_0 := HX1.bx.lt
    have l2_1 := HX2.bx.lt
    go_wp2_with fail
    clear c2_0 c2_1 c2_2 l2_0 l2_1
    refine (backlogOf_any cap false q lo hi A n c ys _ HA.sl HA.le hn8).mono ?_
    rintro e w3 ⟨g, E0, d0, rfl, hg, ho, hle, hb⟩
    have Z3 := Lib.hid hb.size
    replace HA := HA.below hb
    replace HX1 := HX1.below hb
    replace HX2 := HX2.below hb
    replace HB := Lib.hid (below_step HB.out hb)
    clear hb
    have HG := hg; have HO := ho; have Zg := Lib.hid hle; clear hg ho hle
    have Zg2 := Lib.hid HG.le
    have l3_0 := HX1.bx.lt
    have l3_1 := HX2.bx.lt
    have l3_2 := HG.bx.lt
    go_wp2_with fail
    clear l3_0 l3_1 l3_2
    refine (takeMark_any cap false g E0 n d0 _ HG.bx).mono ?_
    rintro e w4 ⟨rfl, hx, ho⟩
    have Z4 := Lib.hid ho.size
    replace HA := HA.only ho (by have := Zh.out; have := Z1.out; have := Z2.out; have := Z3.out; have := Zg.out; have := Zg2.out; have := Z4.out; omega)
    replace HX1 := HX1.only ho (by have := Zh.out; have := Z1.out; have := Z2.out; have := Z3.out; have := Zg.out; have := Zg2.out; have := Z4.out; omega)
    replace HX2 := HX2.only ho (by have := Zh.out; have := Z1.out; have := Z2.out; have := Z3.out; have := Zg.out; have := Zg2.out; have := Z4.out; omega)
    replace HO := HO.only ho (by have := Zh.out; have := Z1.out; have := Z2.out; have := Z3.out; have := Zg.out; have := Zg2.out; have := Z4.out; omega)
    replace HB := Lib.hid (Below.only HB.out ho (by have := Zh.out; have := Z1.out; have := Z2.out; have := Z3.out; have := Zg.out; have := Zg2.out; have := Z4.out; omega) HB.out.size)
    clear ho
    replace HG := Kept.box hx; clear hx
    have c4_0 := HG.look 2
    have l4_0 := HX1.bx.lt
    have l4_1 := HX2.bx.lt
    have l4_2 := HG.bx.lt
    go_wp2_with fail
    clear c4_0 l4_0 l4_1 l4_2
    have hlim := HO.lim
    refine (take_any cap false g (w2.heap.size) E0 n d0 (1) ys _ HG.bx HO.ownF (by omega) hn8 (by have := Zh.out; have := Z1.out; have := Z2.out; have := Z3.out; have := Zg.out; have := Zg2.out; have := Z4.out; omega) (by have := HG.le; have := Zh.out; have := Z1.out; have := Z2.out; have := Z3.out; have := Zg.out; have := Zg2.out; have := Z4.out; omega)).mono ?_
    rintro e w5 ⟨E, d, rfl, he, hx, ho2, hbb⟩
    have ho := Below.only_from hbb
    have Z5 := Lib.hid ho.size
    replace HA := HA.only ho (by have := Zh.out; have := Z1.out; have := Z2.out; have := Z3.out; have := Zg.out; have := Zg2.out; have := Z4.out; have := Z5.out; omega)
    replace HX1 := HX1.only ho (by have := Zh.out; have := Z1.out; have := Z2.out; have := Z3.out; have := Zg.out; have := Zg2.out; have := Z4.out; have := Z5.out; omega)
    replace HX2 := HX2.only ho (by have := Zh.out; have := Z1.out; have := Z2.out; have := Z3.out; have := Zg.out; have := Zg2.out; have := Z4.out; have := Z5.out; omega)
    replace HB := Lib.hid (Below.only HB.out ho (by have := Zh.out; have := Z1.out; have := Z2.out; have := Z3.out; have := Zg.out; have := Zg2.out; have := Z4.out; have := Z5.out; omega) HB.out.size)
    clear ho hbb
    have HG := Kept.box hx; have HO := ho2.keptTo hlim (Nat.le_of_lt hx.lt); have HE := he.kept rfl; clear hx ho2 he hlim
    have l5_0 := HX1.bx.lt
    have l5_1 := HX2.bx.lt
    have l5_2 := HG.bx.lt
    go_wp2_with fail
    clear l5_0 l5_1 l5_2
    refine (queueOf_any cap false g E0 (n - 1) d0 _ HG.bx).mono ?_
    rintro e w6 ⟨rfl, hb⟩
    have Z6 := Lib.hid hb.size
    replace HA := HA.below hb
    replace HX1 := HX1.below hb
    replace HX2 := HX2.below hb
    replace HG := HG.below hb
    replace HO := HO.below hb
    replace HE := HE.below hb
    replace HB := Lib.hid (below_step HB.out hb)
    clear hb
    have c6_0 := HX2.look 0
    have c6_1 := HX2.look 1
    have c6_2 := HX2.look 2
    have c6_3 := HX2.look 3
    have c6_4 := HX2.look 4
    have c6_5 := HX2.look 5
    have f6_0 := HX2.free 0
    have f6_1 := HX2.free 1
    have f6_2 := HX2.free 2
    have f6_3 := HX2.free 3
    have f6_4 := HX2.free 4
    have f6_5 := HX2.free 5
    have l6_0 := HX1.bx.lt
    have l6_1 := HX2.bx.lt
    have l6_2 := HG.bx.lt
    go_wp2
    clear c6_0 c6_1 c6_2 c6_3 c6_4 c6_5 f6_0 f6_1 f6_2 f6_3 f6_4 f6_5 l6_0 l6_1 l6_2
    obtain ⟨U7, hU7⟩ : ∃ W : World, W = ((((((w6.setCell ⟨w.heap.size + 1, 0, none⟩ (.int .i64 0)).setCell ⟨w.heap.size + 1, 1, none⟩ (.int .i64 cap)).setCell ⟨w.heap.size + 1, 2, none⟩ (.bool false)).setCell ⟨w.heap.size + 1, 3, none⟩ (.slice E0 (n - 1) d0)).setCell ⟨w.heap.size + 1, 4, none⟩ (.bool false)).setCell ⟨w.heap.size + 1, 5, none⟩ (.slice E 1 d)) := ⟨_, rfl⟩
    have ho : Only (w.heap.size + 1) (w.heap.size + 1 + 1) w6 U7 := by rw [hU7]; exact (((((((Only.refl _ _ _).set (p := ⟨w.heap.size + 1, 0, none⟩) (Nat.le_refl _) (Nat.lt_succ_self _) _).set (p := ⟨w.heap.size + 1, 1, none⟩) (Nat.le_refl _) (Nat.lt_succ_self _) _).set (p := ⟨w.heap.size + 1, 2, none⟩) (Nat.le_refl _) (Nat.lt_succ_self _) _).set (p := ⟨w.heap.size + 1, 3, none⟩) (Nat.le_refl _) (Nat.lt_succ_self _) _).set (p := ⟨w.heap.size + 1, 4, none⟩) (Nat.le_refl _) (Nat.lt_succ_self _) _).set (p := ⟨w.heap.size + 1, 5, none⟩) (Nat.le_refl _) (Nat.lt_succ_self _) _)
    replace HX2 : Kept (w.heap.size + 1) (w.heap.size + 1 + 1) (BoxK (w.heap.size + 1) 63 #[.int .i64 0, .int .i64 cap, .bool false, .slice E0 (n - 1) d0, .bool false, .slice E 1 d]) U7 := by rw [hU7]; exact Kept.box ((((((HX2.bx.puts 0 (.int .i64 0) (cs' := #[.int .i64 0, .int .i64 0, .bool false, .slice none 0 0, .bool false, .slice none 0 0]) rfl).puts 1 (.int .i64 cap) (cs' := #[.int .i64 0, .int .i64 cap, .bool false, .slice none 0 0, .bool false, .slice none 0 0]) rfl).puts 2 (.bool false) (cs' := #[.int .i64 0, .int .i64 cap, .bool false, .slice none 0 0, .bool false, .slice none 0 0]) rfl).puts 3 (.slice E0 (n - 1) d0) (cs' := #[.int .i64 0, .int .i64 cap, .bool false, .slice E0 (n - 1) d0, .bool false, .slice none 0 0]) rfl).puts 4 (.bool false) (cs' := #[.int .i64 0, .int .i64 cap, .bool false, .slice E0 (n - 1) d0, .bool false, .slice none 0 0]) rfl).puts 5 (.slice E 1 d) (cs' := #[.int .i64 0, .int .i64 cap, .bool false, .slice E0 (n - 1) d0, .bool false, .slice E 1 d]) rfl)
    replace HA := HA.only ho (by have := Zh.out; have := Z1.out; have := Z2.out; have := Z3.out; have := Zg.out; have := Zg2.out; have := Z4.out; have := Z5.out; have := Z6.out; omega)
    replace HX1 := HX1.only ho (by have := Zh.out; have := Z1.out; have := Z2.out; have := Z3.out; have := Zg.out; have := Zg2.out; have := Z4.out; have := Z5.out; have := Z6.out; omega)
    replace HG := HG.only ho (by have := Zh.out; have := Z1.out; have := Z2.out; have := Z3.out; have := Zg.out; have := Zg2.out; have := Z4.out; have := Z5.out; have := Z6.out; omega)
    replace HO := HO.only ho (by have := Zh.out; have := Z1.out; have := Z2.out; have := Z3.out; have := Zg.out; have := Zg2.out; have := Z4.out; have := Z5.out; have := Z6.out; omega)
    replace HE := HE.only ho (by have := Zh.out; have := Z1.out; have := Z2.out; have := Z3.out; have := Zg.out; have := Zg2.out; have := Z4.out; have := Z5.out; have := Z6.out; omega)
    replace HB := Lib.hid (Below.only HB.out ho (by have := Zh.out; have := Z1.out; have := Z2.out; have := Z3.out; have := Zg.out; have := Zg2.out; have := Z4.out; have := Z5.out; have := Z6.out; omega) HB.out.size)
    have Z7 : Hid (U7.heap.size = w6.heap.size) := Lib.hid (by rw [hU7]; simp [World.setCell]); clear ho
    have q_0 := HX2.look 0
    have q_1 := HX2.look 1
    have q_2 := HX2.look 2
    have q_3 := HX2.look 3
    have q_4 := HX2.look 4
    have q_5 := HX2.look 5
    subst hU7
    exact bodyPost_ret (v := .agg #[.int .i64 0, .int .i64 cap, .bool false, .slice E0 (n - 1) d0, .bool false, .slice E 1 d]) (by simp [results, Try.results45, go_sem, q_0, q_1, q_2, q_3, q_4, q_5]) rfl ⟨E0, n - 1, d0, E, 1, d, by rw [HV.out.1, HV.out.2.1, HV.out.2.2.1, HV.out.2.2.2.2.1], by rw [HV.out.2.2.2.1, HV.out.2.2.2.2.2]; exact QK.kept (QK.of_own (HO.ownF.mono (by have := Zh.out; have := Z1.out; have := Z2.out; have := Z3.out; have := Zg.out; have := Zg2.out; have := Z4.out; have := Z5.out; have := Z6.out; have := Z7.out; omega)) (HE.ownF.mono (by have := Zh.out; have := Z1.out; have := Z2.out; have := Z3.out; have := Zg.out; have := Zg2.out; have := Z4.out; have := Z5.out; have := Z6.out; have := Z7.out; omega)) (fun r h1 h2 => by have := HO.lim r h1; have := (HE.ownF.block r h2).1; have := Zh.out; have := Z1.out; have := Z2.out; have := Z3.out; have := Zg.out; have := Zg2.out; have := Z4.out; have := Z5.out; have := Z6.out; have := Z7.out; omega)) (Nat.le_refl _), HB.out⟩


end Go.Proofs.Ytiffhjofabaflaa
