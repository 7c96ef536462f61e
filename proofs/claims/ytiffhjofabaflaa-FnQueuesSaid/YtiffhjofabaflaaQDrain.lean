/-
  The program's DrainQueue. No statement is proved here.
-/
import Derived.Test.YtiffhjofabaflaaQPop
namespace Go.Proofs.Ytiffhjofabaflaa
open Go.RowKit
set_option linter.unusedVariables false

theorem Only.grown_ {g : Nat} {w w' : World} (h : Only g (g + 1) w w') : w.grownBy w' (some g) := ⟨h.os, h.tape, h.output, h.size, fun b hb hn => h.block b hb (by
  rcases Nat.lt_trichotomy b g with h1 | h1 | h1
  · exact .inl h1
  · exact absurd (by rw [h1]) hn
  · exact .inr h1)⟩
theorem only_two {B g : Nat} {v u1 u2 : World} (h : Only g (g + 1) v.drew u1) (k : Below B u1 u2) (hB : B ≤ g) (hg : g < v.drew.heap.size) : Only B u2.heap.size v u2 :=
  ⟨k.os.trans h.os, k.tape.trans h.tape, k.output.trans h.output, Nat.le_trans h.size k.size, fun b hb ho => by
    have hs : v.heap.size ≤ u1.heap.size := h.size
    have hs2 := k.size
    have hbB : b < B := by omega
    exact (k.block b hbB).trans (h.block b hb (.inl (by omega)))⟩

set_option maxRecDepth 100000 in
set_option maxHeartbeats 3200000 in
theorem drainQueue_any (cap : Int) (mk : Bool) (q : Bool) (lo hi : Nat) (A : Option Addr) (n c : Nat) (ys : List Tmr) (w : World) (ha : Rep.timer.Sl q lo hi w A n ys) (hh : hi ≤ w.heap.size) (hn : n ≤ 1048576) (hc : n ≤ c) :
    Calls Try.prog 58 #[.agg #[.int .i64 cap, .bool mk, .slice A n c]] w fun e w' => ∃ O j k E m d, e = .returned (.agg #[.int .i64 (qf cap ys), .int .i64 (dqX cap ys), .bool (ppP ys), .slice O j k, .bool (dqT cap mk ys), .slice E m d]) ∧ Kept w.heap.size w'.heap.size (QK w.heap.size w'.heap.size O j (dqU ys) E m (dqZ cap ys)) w' ∧ Below w.heap.size w w' := by
  have hl := ha.1
  by_cases h0 : ¬ qf cap ys = 0
  · have HB := Lib.hid (Below.refl w.heap.size w)
    have HA := Rep.Sl.kept ha hh
    have Zh := Lib.hid hh
    obtain ⟨r, hr⟩ : ∃ z, qf cap ys = z := ⟨_, rfl⟩
    have HR := Lib.hid hr
    have h0r : ¬ r = 0 := by rw [← hr]; exact h0
    have hr0 : (r != 0) = true := by simpa using h0r
    have HV : Hid (qf cap ys = r ∧ dqX cap ys = 0 ∧ ppP ys = false ∧ dqU ys = [] ∧ dqT cap mk ys = false ∧ dqZ cap ys = []) := Lib.hid (by refine ⟨?_, ?_, ?_, ?_, ?_, ?_⟩ <;> simp [dqT, dqU, dqX, dqZ, ppP, hr, h0r])
    clear h0 hr h0r
    clear ha hl hh
    go_enter Try.func58, Try.ntmps58
    go_wp2_with fail
    refine Calls.name ?_
    intro U1 hU1
    have hb : Below w.heap.size w U1 := by rw [hU1]; exact (((Below.refl _ _).alloc (Nat.le_refl _) _).alloc (by simp <;> omega) _)
    have zz : Hid (w.heap.size + 2 = U1.heap.size) := Lib.hid (by rw [hU1]; simp)
    have HX1 : Kept w.heap.size (w.heap.size + 1) (BoxK w.heap.size 59 #[.int .i64 cap, .bool mk, .slice A n c]) U1 := by rw [hU1]; exact Kept.box ((Box.made_at _ _ _ rfl).over _)
    have HX2 : Kept (w.heap.size + 1) (w.heap.size + 1 + 1) (BoxK (w.heap.size + 1) 63 #[.int .i64 0, .int .i64 0, .bool false, .slice none 0 0, .bool false, .slice none 0 0]) U1 := by rw [hU1]; exact Kept.box (Box.made_at _ _ _ (by simp <;> omega))
    replace HA := HA.below hb
    replace HB := Lib.hid (below_step HB.out hb)
    clear hb
    have Z1 := zz; clear zz
    clear hU1
    refine (queueFault_any cap mk q lo hi A n c ys _ HA.sl HA.le hn hc).mono ?_
    rw [HR.out]
    rintro e w2 ⟨rfl, hb⟩
    have Z2 := Lib.hid hb.size
    replace HA := HA.below hb
    replace HX1 := HX1.below hb
    replace HX2 := HX2.below hb
    replace HB := Lib.hid (below_step HB.out hb)
    clear hb
    have c2_0 := HX2.look 0
    have c2_1 := HX2.look 1
    have c2_2 := HX2.look 2
    have c2_3 := HX2.look 3
    have c2_4 := HX2.look 4
    have c2_5 := HX2.look 5
    have f2_0 := HX2.free 0
    have f2_1 := HX2.free 1
    have f2_2 := HX2.free 2
    have f2_3 := HX2.free 3
    have f2_4 := HX2.free 4
    have f2_5 := HX2.free 5
    have l2_0 := HX1.bx.lt
    have l2_1 := HX2.bx.lt
    go_wp2
    clear c2_0 c2_1 c2_2 c2_3 c2_4 c2_5 f2_0 f2_1 f2_2 f2_3 f2_4 f2_5 l2_0 l2_1
    obtain ⟨U3, hU3⟩ : ∃ W : World, W = ((((((w2.setCell ⟨w.heap.size + 1, 0, none⟩ (.int .i64 r)).setCell ⟨w.heap.size + 1, 1, none⟩ (.int .i64 0)).setCell ⟨w.heap.size + 1, 2, none⟩ (.bool false)).setCell ⟨w.heap.size + 1, 3, none⟩ (.slice none 0 0)).setCell ⟨w.heap.size + 1, 4, none⟩ (.bool false)).setCell ⟨w.heap.size + 1, 5, none⟩ (.slice none 0 0)) := ⟨_, rfl⟩
    have ho : Only (w.heap.size + 1) (w.heap.size + 1 + 1) w2 U3 := by rw [hU3]; exact (((((((Only.refl _ _ _).set (p := ⟨w.heap.size + 1, 0, none⟩) (Nat.le_refl _) (Nat.lt_succ_self _) _).set (p := ⟨w.heap.size + 1, 1, none⟩) (Nat.le_refl _) (Nat.lt_succ_self _) _).set (p := ⟨w.heap.size + 1, 2, none⟩) (Nat.le_refl _) (Nat.lt_succ_self _) _).set (p := ⟨w.heap.size + 1, 3, none⟩) (Nat.le_refl _) (Nat.lt_succ_self _) _).set (p := ⟨w.heap.size + 1, 4, none⟩) (Nat.le_refl _) (Nat.lt_succ_self _) _).set (p := ⟨w.heap.size + 1, 5, none⟩) (Nat.le_refl _) (Nat.lt_succ_self _) _)
    replace HX2 : Kept (w.heap.size + 1) (w.heap.size + 1 + 1) (BoxK (w.heap.size + 1) 63 #[.int .i64 r, .int .i64 0, .bool false, .slice none 0 0, .bool false, .slice none 0 0]) U3 := by rw [hU3]; exact Kept.box ((((((HX2.bx.puts 0 (.int .i64 r) (cs' := #[.int .i64 r, .int .i64 0, .bool false, .slice none 0 0, .bool false, .slice none 0 0]) rfl).puts 1 (.int .i64 0) (cs' := #[.int .i64 r, .int .i64 0, .bool false, .slice none 0 0, .bool false, .slice none 0 0]) rfl).puts 2 (.bool false) (cs' := #[.int .i64 r, .int .i64 0, .bool false, .slice none 0 0, .bool false, .slice none 0 0]) rfl).puts 3 (.slice none 0 0) (cs' := #[.int .i64 r, .int .i64 0, .bool false, .slice none 0 0, .bool false, .slice none 0 0]) rfl).puts 4 (.bool false) (cs' := #[.int .i64 r, .int .i64 0, .bool false, .slice none 0 0, .bool false, .slice none 0 0]) rfl).puts 5 (.slice none 0 0) (cs' := #[.int .i64 r, .int .i64 0, .bool false, .slice none 0 0, .bool false, .slice none 0 0]) rfl)
    replace HA := HA.only ho (by have := Zh.out; have := Z1.out; have := Z2.out; omega)
    replace HX1 := HX1.only ho (by have := Zh.out; have := Z1.out; have := Z2.out; omega)
    replace HB := Lib.hid (Below.only HB.out ho (by have := Zh.out; have := Z1.out; have := Z2.out; omega) HB.out.size)
    have Z3 : Hid (U3.heap.size = w2.heap.size) := Lib.hid (by rw [hU3]; simp [World.setCell]); clear ho
    have q_0 := HX2.look 0
    have q_1 := HX2.look 1
    have q_2 := HX2.look 2
    have q_3 := HX2.look 3
    have q_4 := HX2.look 4
    have q_5 := HX2.look 5
    subst hU3
    exact bodyPost_ret (v := .agg #[.int .i64 r, .int .i64 0, .bool false, .slice none 0 0, .bool false, .slice none 0 0]) (by simp [results, Try.results58, go_sem, q_0, q_1, q_2, q_3, q_4, q_5]) rfl ⟨none, 0, 0, none, 0, 0, by rw [HV.out.1, HV.out.2.1, HV.out.2.2.1, HV.out.2.2.2.2.1], by rw [HV.out.2.2.2.1, HV.out.2.2.2.2.2]; exact QK.kept (QK.nil _ _ _ _ _) (Nat.le_refl _), HB.out⟩
  have h0 : qf cap ys = 0 := Classical.byContradiction h0
  · have HB := Lib.hid (Below.refl w.heap.size w)
    have HA := Rep.Sl.kept ha hh
    have Zh := Lib.hid hh
    have HR := Lib.hid h0
    have hq8 := qf_ok h0
    have hn8 : n ≤ 1000 := by have := hq8.2.2.1; omega
    have HV : Hid (qf cap ys = 0 ∧ dqX cap ys = cap ∧ ppP ys = false ∧ dqU ys = [] ∧ dqT cap mk ys = mk ∧ dqZ cap ys = ys) := Lib.hid (by refine ⟨?_, ?_, ?_, ?_, ?_, ?_⟩ <;> simp [dqX, ppP, dqU, dqT, dqZ, h0])
    have HYT : Hid (ys.take n = ys) := Lib.hid (List.take_of_length_le (by omega))
    have HYD : Hid (ys.drop n = []) := Lib.hid (List.drop_of_length_le (by omega))
    clear h0 hq8
    clear ha hl hh
    go_enter Try.func58, Try.ntmps58
    go_wp2_with fail
    refine Calls.name ?_
    intro U1 hU1
    have hb : Below w.heap.size w U1 := by rw [hU1]; exact (((Below.refl _ _).alloc (Nat.le_refl _) _).alloc (by simp <;> omega) _)
    have zz : Hid (w.heap.size + 2 = U1.heap.size) := Lib.hid (by rw [hU1]; simp)
    have HX1 : Kept w.heap.size (w.heap.size + 1) (BoxK w.heap.size 59 #[.int .i64 cap, .bool mk, .slice A n c]) U1 := by rw [hU1]; exact Kept.box ((Box.made_at _ _ _ rfl).over _)
    have HX2 : Kept (w.heap.size + 1) (w.heap.size + 1 + 1) (BoxK (w.heap.size + 1) 63 #[.int .i64 0, .int .i64 0, .bool false, .slice none 0 0, .bool false, .slice none 0 0]) U1 := by rw [hU1]; exact Kept.box (Box.made_at _ _ _ (by simp <;> omega))
    replace HA := HA.below hb
    replace HB := Lib.hid (below_step HB.out hb)
    clear hb
    have Z1 := zz; clear zz
    clear hU1
    refine (queueFault_any cap mk q lo hi A n c ys _ HA.sl HA.le hn hc).mono ?_
    rw [HR.out]
    rintro e w2 ⟨rfl, hb⟩
    have Z2 := Lib.hid hb.size
    replace HA := HA.below hb
    replace HX1 := HX1.below hb
    replace HX2 := HX2.below hb
    replace HB := Lib.hid (below_step HB.out hb)
    clear hb
    have c2_0 := HX1.look 0
    have c2_1 := HX1.look 1
    have c2_2 := HX1.look 2
    have l2_0 := HX1.bx.lt
    have l2_1 := HX2.bx.lt
    go_wp2_with fail
    clear c2_0 c2_1 c2_2 l2_0 l2_1
    refine (backlogOf_any cap mk q lo hi A n c ys _ HA.sl HA.le hn8).mono ?_
    rintro e w3 ⟨g, E0, d0, rfl, hg, ho, hle, hb⟩
    have Z3 := Lib.hid hb.size
    replace HA := HA.below hb
    replace HX1 := HX1.below hb
    replace HX2 := HX2.below hb
    replace HB := Lib.hid (below_step HB.out hb)
    clear hb
    have HG := hg; have HO := ho; have Zg := Lib.hid hle; clear hg ho hle
    have Zg2 := Lib.hid HG.le
    have l3_0 := HX1.bx.lt
    have l3_1 := HX2.bx.lt
    have l3_2 := HG.bx.lt
    go_wp2_with fail
    clear l3_0 l3_1 l3_2
    have HGd : Hid (Box w3.drew g 202 #[.int .i64 cap, .bool mk, .slice E0 n d0]) := Lib.hid HG.bx
    have HOd : Hid (OwnF 66 4 tcell w3.drew w2.heap.size E0 n d0 ys) := Lib.hid HO.ownF
    have hlim := HO.lim
    have HLM := Lib.hid hlim
    clear hlim
    have HVD : Hid (w2.heap.size ≤ w3.drew.heap.size) := Lib.hid (show w2.heap.size ≤ w3.heap.size from (by have := HG.le; have := Zh.out; have := Z1.out; have := Z2.out; have := Z3.out; have := Zg.out; have := Zg2.out; omega))
    have HBG : Hid (w2.heap.size ≤ g) := Lib.hid (by have := Zh.out; have := Z1.out; have := Z2.out; have := Z3.out; have := Zg.out; have := Zg2.out; omega)
    have c2 := HGd.out.look 2
    have hgl := HGd.out.lt
    have HGL := Lib.hid hgl
    go_region_law (first | ((show (if Region.wanted (Oper.mk (some 16) _ _ _ _ _) _ = true then _ else _)); go_simp; have PC := takeMark_any cap mk g E0 n d0 w3.drew HGd.out; with_reducible refine PC.mono ?_; clear PC; rintro e u1 ⟨rfl, hx, ho⟩; have HG1 := Lib.hid hx; have HQ1 := Lib.hid ho; have k2 := HG1.out.look 2; have kl := HG1.out.lt; have HO1 := Lib.hid (HOd.out.aside (Only.grown_ ho) (fun r hr e => by injection e with e; have := HLM.out r hr; omega)); clear hx ho) | ((show (if Region.wanted (Oper.mk (some 23) _ _ _ _ _) _ = true then _ else _)); go_simp; have PC := take_any cap false g (w2.heap.size) E0 n d0 n ys u1 HG1.out HO1.out (Nat.le_refl n) hn8 HBG.out (Nat.le_trans HVD.out HQ1.out.size); with_reducible refine PC.mono ?_; clear PC; rintro e u2 ⟨E, d, rfl, he, hx, ho2, hbb⟩; rw [Nat.sub_self] at hx ho2; have HE2 := Lib.hid he; have HG2 := Lib.hid hx; have HO2 := Lib.hid ho2; have HBB := Lib.hid hbb; clear he hx ho2 hbb))
    all_goals
      have ho : Only (w2.heap.size) u2.heap.size w3 u2 := only_two HQ1.out HBB.out (by have := Zh.out; have := Z1.out; have := Z2.out; have := Z3.out; have := Zg.out; have := Zg2.out; omega) HGL.out
      have Z4 := Lib.hid ho.size
      replace HA := HA.only ho (by have := Zh.out; have := Z1.out; have := Z2.out; have := Z3.out; have := Zg.out; have := Zg2.out; have := Z4.out; omega)
      replace HX1 := HX1.only ho (by have := Zh.out; have := Z1.out; have := Z2.out; have := Z3.out; have := Zg.out; have := Zg2.out; have := Z4.out; omega)
      replace HX2 := HX2.only ho (by have := Zh.out; have := Z1.out; have := Z2.out; have := Z3.out; have := Zg.out; have := Zg2.out; have := Z4.out; omega)
      replace HB := Lib.hid (Below.only HB.out ho (by have := Zh.out; have := Z1.out; have := Z2.out; have := Z3.out; have := Zg.out; have := Zg2.out; have := Z4.out; omega) HB.out.size)
      clear ho c2 hgl k2 kl
      have HE := HE2.out.kept rfl
      replace HG := Kept.box HG2.out
      replace HO := HO2.out.keptTo HLM.out (Nat.le_of_lt HG2.out.lt)
      have Ze : Hid (g < u1.heap.size) := Lib.hid HG1.out.lt
      have l4_0 := HX1.bx.lt
      have l4_1 := HX2.bx.lt
      have l4_2 := HG.bx.lt
      go_wp2_with fail
      clear l4_0 l4_1 l4_2
      refine (queueOf_any cap false g E0 0 d0 _ HG.bx).mono ?_
      rintro e w4 ⟨rfl, hb⟩
      have Z5 := Lib.hid hb.size
      replace HA := HA.below hb
      replace HX1 := HX1.below hb
      replace HX2 := HX2.below hb
      replace HG := HG.below hb
      replace HO := HO.below hb
      replace HE := HE.below hb
      replace HB := Lib.hid (below_step HB.out hb)
      clear hb
      have c5_0 := HX2.look 0
      have c5_1 := HX2.look 1
      have c5_2 := HX2.look 2
      have c5_3 := HX2.look 3
      have c5_4 := HX2.look 4
      have c5_5 := HX2.look 5
      have f5_0 := HX2.free 0
      have f5_1 := HX2.free 1
      have f5_2 := HX2.free 2
      have f5_3 := HX2.free 3
      have f5_4 := HX2.free 4
      have f5_5 := HX2.free 5
      have l5_0 := HX1.bx.lt
      have l5_1 := HX2.bx.lt
      have l5_2 := HG.bx.lt
      go_wp2
      clear c5_0 c5_1 c5_2 c5_3 c5_4 c5_5 f5_0 f5_1 f5_2 f5_3 f5_4 f5_5 l5_0 l5_1 l5_2
      obtain ⟨U5, hU5⟩ : ∃ W : World, W = ((((((w4.setCell ⟨w.heap.size + 1, 0, none⟩ (.int .i64 0)).setCell ⟨w.heap.size + 1, 1, none⟩ (.int .i64 cap)).setCell ⟨w.heap.size + 1, 2, none⟩ (.bool false)).setCell ⟨w.heap.size + 1, 3, none⟩ (.slice E0 0 d0)).setCell ⟨w.heap.size + 1, 4, none⟩ (.bool mk)).setCell ⟨w.heap.size + 1, 5, none⟩ (.slice E n d)) := ⟨_, rfl⟩
      have ho : Only (w.heap.size + 1) (w.heap.size + 1 + 1) w4 U5 := by rw [hU5]; exact (((((((Only.refl _ _ _).set (p := ⟨w.heap.size + 1, 0, none⟩) (Nat.le_refl _) (Nat.lt_succ_self _) _).set (p := ⟨w.heap.size + 1, 1, none⟩) (Nat.le_refl _) (Nat.lt_succ_self _) _).set (p := ⟨w.heap.size + 1, 2, none⟩) (Nat.le_refl _) (Nat.lt_succ_self _) _).set (p := ⟨w.heap.size + 1, 3, none⟩) (Nat.le_refl _) (Nat.lt_succ_self _) _).set (p := ⟨w.heap.size + 1, 4, none⟩) (Nat.le_refl _) (Nat.lt_succ_self _) _).set (p := ⟨w.heap.size + 1, 5, none⟩) (Nat.le_refl _) (Nat.lt_succ_self _) _)
      replace HX2 : Kept (w.heap.size + 1) (w.heap.size + 1 + 1) (BoxK (w.heap.size + 1) 63 #[.int .i64 0, .int .i64 cap, .bool false, .slice E0 0 d0, .bool mk, .slice E n d]) U5 := by rw [hU5]; exact Kept.box ((((((HX2.bx.puts 0 (.int .i64 0) (cs' := #[.int .i64 0, .int .i64 0, .bool false, .slice none 0 0, .bool false, .slice none 0 0]) rfl).puts 1 (.int .i64 cap) (cs' := #[.int .i64 0, .int .i64 cap, .bool false, .slice none 0 0, .bool false, .slice none 0 0]) rfl).puts 2 (.bool false) (cs' := #[.int .i64 0, .int .i64 cap, .bool false, .slice none 0 0, .bool false, .slice none 0 0]) rfl).puts 3 (.slice E0 0 d0) (cs' := #[.int .i64 0, .int .i64 cap, .bool false, .slice E0 0 d0, .bool false, .slice none 0 0]) rfl).puts 4 (.bool mk) (cs' := #[.int .i64 0, .int .i64 cap, .bool false, .slice E0 0 d0, .bool mk, .slice none 0 0]) rfl).puts 5 (.slice E n d) (cs' := #[.int .i64 0, .int .i64 cap, .bool false, .slice E0 0 d0, .bool mk, .slice E n d]) rfl)
      replace HA := HA.only ho (by have := Zh.out; have := Z1.out; have := Z2.out; have := Z3.out; have := Zg.out; have := Zg2.out; have := Z4.out; have := Ze.out; have := Z5.out; omega)
      replace HX1 := HX1.only ho (by have := Zh.out; have := Z1.out; have := Z2.out; have := Z3.out; have := Zg.out; have := Zg2.out; have := Z4.out; have := Ze.out; have := Z5.out; omega)
      replace HG := HG.only ho (by have := Zh.out; have := Z1.out; have := Z2.out; have := Z3.out; have := Zg.out; have := Zg2.out; have := Z4.out; have := Ze.out; have := Z5.out; omega)
      replace HO := HO.only ho (by have := Zh.out; have := Z1.out; have := Z2.out; have := Z3.out; have := Zg.out; have := Zg2.out; have := Z4.out; have := Ze.out; have := Z5.out; omega)
      replace HE := HE.only ho (by have := Zh.out; have := Z1.out; have := Z2.out; have := Z3.out; have := Zg.out; have := Zg2.out; have := Z4.out; have := Ze.out; have := Z5.out; omega)
      replace HB := Lib.hid (Below.only HB.out ho (by have := Zh.out; have := Z1.out; have := Z2.out; have := Z3.out; have := Zg.out; have := Zg2.out; have := Z4.out; have := Ze.out; have := Z5.out; omega) HB.out.size)
      have Z6 : Hid (U5.heap.size = w4.heap.size) := Lib.hid (by rw [hU5]; simp [World.setCell]); clear ho
      have q_0 := HX2.look 0
      have q_1 := HX2.look 1
      have q_2 := HX2.look 2
      have q_3 := HX2.look 3
      have q_4 := HX2.look 4
      have q_5 := HX2.look 5
      subst hU5
      exact bodyPost_ret (v := .agg #[.int .i64 0, .int .i64 cap, .bool false, .slice E0 0 d0, .bool mk, .slice E n d]) (by simp [results, Try.results58, go_sem, q_0, q_1, q_2, q_3, q_4, q_5]) rfl ⟨E0, 0, d0, E, n, d, by rw [HV.out.1, HV.out.2.1, HV.out.2.2.1, HV.out.2.2.2.2.1], by rw [HV.out.2.2.2.1, HV.out.2.2.2.2.2]; have h1 := HO.ownF; rw [HYD.out] at h1; have h2 := HE.ownF; rw [HYT.out] at h2; exact QK.kept (QK.of_own (h1.mono (by have := Zh.out; have := Z1.out; have := Z2.out; have := Z3.out; have := Zg.out; have := Zg2.out; have := Z4.out; have := Ze.out; have := Z5.out; have := Z6.out; omega)) (h2.mono (by have := Zh.out; have := Z1.out; have := Z2.out; have := Z3.out; have := Zg.out; have := Zg2.out; have := Z4.out; have := Ze.out; have := Z5.out; have := Z6.out; omega)) (fun r h3 h4 => by have := HO.lim r h3; have := (h2.block r h4).1; have := Zh.out; have := Z1.out; have := Z2.out; have := Z3.out; have := Zg.out; have := Zg2.out; have := Z4.out; have := Ze.out; have := Z5.out; have := Z6.out; omega)) (Nat.le_refl _), HB.out⟩


end Go.Proofs.Ytiffhjofabaflaa
