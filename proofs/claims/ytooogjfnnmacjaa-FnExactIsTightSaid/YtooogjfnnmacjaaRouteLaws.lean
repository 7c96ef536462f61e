/-
  szRoute, szRouteS, toRoute, toRouteS, eqRoute, eqRouteS. No statement is proved here.
-/
import Derived.Test.YtooogjfnnmacjaaRoute
import Derived.Test.YtooogjfnnmacjaaEntTo
import Derived.Test.YtooogjfnnmacjaaEntEq
namespace Go.Proofs.Ytooogjfnnmacjaa
open Go.RowKit
set_option linter.unusedVariables false

set_option maxRecDepth 100000 in
set_option maxHeartbeats 1600000 in
theorem szRoute_any (x : Rt) (A : Option Addr) (n c : Nat) (left : Int) (w : World) (hn : n ≤ maxLen) (h0 : 0 ≤ left) (h1 : left ≤ 1048576) :
    Calls Try.prog 143 #[.agg (rtCells x A n c), .int .i64 left] w fun e w' => e = .returned (.int .i64 (if left - n < 0 then -1 else left - n)) ∧ Below w.heap.size w w' := by
  by_cases h : left - n < 0
  · have HB := Lib.hid (Below.refl w.heap.size w)
    have HR : Hid ((if left - (n : Int) < 0 then -1 else left - n) = -1) := Lib.hid (if_pos h)
    go_enter Try.func143, Try.ntmps143
    go_wp2_with fail
    refine Calls.name ?_
    intro U1 hU1
    have hb : Below w.heap.size w U1 := by rw [hU1]; exact ((Below.refl _ _).alloc (Nat.le_refl _) _)
    have zz : Hid (w.heap.size + 1 = U1.heap.size) := Lib.hid (by rw [hU1]; simp)
    have HX1 : Kept w.heap.size (w.heap.size + 1) (BoxK w.heap.size 198 #[.bool x.dst.net, .int .i64 x.dst.id, .int .i64 x.cost, .slice A n c]) U1 := by rw [hU1]; exact Kept.box (Box.made_at _ _ _ rfl)
    replace HB := Lib.hid (below_step HB.out hb)
    clear hb
    have Z1 := zz; clear zz
    clear hU1
    refine (szNodeS_any A n c left _ h0 h1 hn).mono ?_
    rw [HR.out]
    rintro e w2 ⟨rfl, rfl⟩
    have l2_0 := HX1.bx.lt
    go_wp2
    clear l2_0
    go_ret
    exact ⟨rfl, HB.out⟩
  · have HB := Lib.hid (Below.refl w.heap.size w)
    have HR : Hid ((if left - (n : Int) < 0 then -1 else left - n) = left - n) := Lib.hid (if_neg h)
    go_enter Try.func143, Try.ntmps143
    go_wp2_with fail
    refine Calls.name ?_
    intro U1 hU1
    have hb : Below w.heap.size w U1 := by rw [hU1]; exact ((Below.refl _ _).alloc (Nat.le_refl _) _)
    have zz : Hid (w.heap.size + 1 = U1.heap.size) := Lib.hid (by rw [hU1]; simp)
    have HX1 : Kept w.heap.size (w.heap.size + 1) (BoxK w.heap.size 198 #[.bool x.dst.net, .int .i64 x.dst.id, .int .i64 x.cost, .slice A n c]) U1 := by rw [hU1]; exact Kept.box (Box.made_at _ _ _ rfl)
    replace HB := Lib.hid (below_step HB.out hb)
    clear hb
    have Z1 := zz; clear zz
    clear hU1
    refine (szNodeS_any A n c left _ h0 h1 hn).mono ?_
    rw [HR.out]
    rintro e w2 ⟨rfl, rfl⟩
    have l2_0 := HX1.bx.lt
    go_wp2
    clear l2_0
    go_ret
    exact ⟨rfl, HB.out⟩

set_option maxHeartbeats 1600000 in
theorem szRouteS_any (q : Bool) (lo hi : Nat) (A : Option Addr) (n c : Nat) (ys : List Rt) (left : Int) (w : World) (ha : Rep.route.Sl q lo hi w A n ys) (hh : hi ≤ w.heap.size) (hn : n ≤ maxLen) (hm : ∀ y ∈ ys, y.hops.length ≤ maxLen) (h0 : 0 ≤ left) (h1 : left ≤ 1048576) :
    Calls Try.prog 69 #[.slice A n c, .int .i64 left] w fun e w' => e = .returned (.int .i64 (szSS left (rtRows ys))) ∧ Below w.heap.size w w' := by
  have hlen : (rtRows ys).length = n := by rw [rtRows_len]; exact ha.1
  by_cases hs : left - n < 0
  · have HR : Hid (szSS left (rtRows ys) = -1) := Lib.hid (by unfold szSS; rw [hlen, if_pos hs])
    unfold maxLen at hn
    go_enter Try.func69, Try.ntmps69
    go_wp2
    go_ret
    exact ⟨by rw [HR.out]; rfl, Below.refl _ _⟩
  · have HR : Hid (szSS left (rtRows ys) = szRows (left - n) (rtRows ys)) := Lib.hid (by unfold szSS; rw [hlen, if_neg hs])
    have HM := Lib.hid hm
    have hn' : n ≤ 1048576 := by omega
    have hs' : 0 ≤ left - n := by omega
    have HLEN := Lib.hid hlen
    have HA := Rep.Sl.kept ha hh
    clear hm hn ha hlen
    go_enter Try.func69, Try.ntmps69
    go_wp2
    go_loopw [5, 1] (fun i q wr => ∃ k : Nat, k ≤ n ∧ i = .int .i64 k ∧ Hid (Below w.heap.size w wr) ∧ ∃ cur : Int, q = .int .i64 cur ∧ 0 ≤ cur ∧ cur ≤ left ∧ Hid (szRows (left - n) (rtRows ys) = szRows cur ((rtRows ys).drop k))) (fun i _ _ => n - (intOf i).toNat)
    case atStart => exact ⟨0, Nat.zero_le _, rfl, Below.refl _ _, _, rfl, hs', by omega, rfl⟩
    case round =>
      obtain ⟨k, hk, rfl, HB, cur, rfl, hc0, hc1, HC⟩ := hrel
      by_cases hlt : k < n
      · obtain ⟨b, o, y, E, m, c1, rfl, hya, hyl, a0, a1, a2, a3⟩ := Rep.route_at (HA.below HB.out).sl hlt
        have hlt' : (k : Int) < n := by omega
        have hym := HM.out y (List.mem_of_getElem? hya)
        have hml : y.hops.length = m := hyl.1
        have hd := szRows_drop cur (rtRows ys) k _ (rtRows_at hya)
        rw [rtRow_len, hml] at hd
        rw [hml] at hym
        clear hya hyl hml
        by_cases hz : cur - (m : Int) < 0
        · rw [if_pos hz] at hd
          have HD := Lib.hid hd
          clear hd
          go_wp2_with fail
          refine (szRoute_any y E m c1 cur _ hym hc0 (by omega)).mono ?_
          rw [if_pos hz]
          rintro e w2 ⟨rfl, hb⟩
          have HB2 := Lib.hid (below_step HB.out hb)
          clear hb
          go_wp2
          go_ret
          exact ⟨by rw [HR.out, HC.out, HD.out]; rfl, HB2.out⟩
        · rw [if_neg hz] at hd
          have HD := Lib.hid hd
          clear hd
          have hz' : 0 ≤ cur - (m : Int) := by omega
          obtain ⟨r, hr⟩ : ∃ r, cur - (m : Int) = r := ⟨_, rfl⟩
          rw [hr] at hz'
          have hrl : r ≤ left := by omega
          have HRR := Lib.hid hr
          clear hr
          go_wp2_with fail
          refine (szRoute_any y E m c1 cur _ hym hc0 (by omega)).mono ?_
          rw [HRR.out, if_neg (show ¬ (r < 0) by omega)]
          rintro e w2 ⟨rfl, hb⟩
          have HB2 := Lib.hid (below_step HB.out hb)
          clear hb
          go_wp2
          go_roundw
          case rel => exact ⟨k + 1, by omega, by go_num, HB2, _, rfl, hz', hrl, Lib.hid (by rw [HC.out, HD.out, HRR.out])⟩
          case measure => simp [intOf]; omega
      · have HE : Hid (szRows cur ((rtRows ys).drop k) = cur) := Lib.hid (by rw [List.drop_eq_nil_of_le (by have := HLEN.out; omega)]; rfl)
        go_wp2
        go_ret
        exact ⟨by rw [HR.out, HC.out, HE.out]; rfl, HB.out⟩

set_option maxRecDepth 100000 in
set_option maxHeartbeats 1600000 in
theorem toRoute_any (q : Bool) (lo hi : Nat) (x : Rt) (A : Option Addr) (n c : Nat) (w : World) (ha : Rep.node.Sl q lo hi w A n x.hops) (hh : hi ≤ w.heap.size) (hn : n ≤ 1048576) :
    Calls Try.prog 147 #[.agg (rtCells x A n c)] w fun e w' => ∃ g, e = .returned (.agg (rtCells x (some ⟨g, 0, none⟩) n n)) ∧ Rep.node.Sl true g (g + 1) w' (some ⟨g, 0, none⟩) n x.hops ∧ w.heap.size ≤ g ∧ g < w'.heap.size ∧ Below w.heap.size w w' := by
  have HB := Lib.hid (Below.refl w.heap.size w)
  have HA := Rep.Sl.kept ha hh
  clear ha
  go_enter Try.func147, Try.ntmps147
  go_wp2_with fail
  refine Calls.name ?_
  intro U1 hU1
  have hb : Below w.heap.size w U1 := by rw [hU1]; exact ((((Below.refl _ _).alloc (Nat.le_refl _) _).alloc (by simp <;> omega) _).alloc (by simp <;> omega) _)
  have zz : Hid (w.heap.size + 3 = U1.heap.size) := Lib.hid (by rw [hU1]; simp)
  have HX1 : Kept w.heap.size (w.heap.size + 1) (BoxK w.heap.size 198 #[.bool x.dst.net, .int .i64 x.dst.id, .int .i64 x.cost, .slice A n c]) U1 := by rw [hU1]; exact Kept.box (((Box.made_at _ _ _ rfl).over _).over _)
  have HX2 : Kept (w.heap.size + 1) (w.heap.size + 1 + 1) (BoxK (w.heap.size + 1) 201 #[.bool false, .int .i64 0, .int .i64 0, .slice none 0 0]) U1 := by rw [hU1]; exact Kept.box ((Box.made_at _ _ _ (by simp <;> omega)).over _)
  have HX3 : Kept (w.heap.size + 1 + 1) (w.heap.size + 1 + 1 + 1) (BoxK (w.heap.size + 1 + 1) 201 #[.bool false, .int .i64 0, .int .i64 0, .slice none 0 0]) U1 := by rw [hU1]; exact Kept.box (Box.made_at _ _ _ (by simp <;> omega))
  replace HA := HA.below hb
  replace HB := Lib.hid (below_step HB.out hb)
  clear hb
  have Z1 := zz; clear zz
  clear hU1
  refine (toNode_any x.dst.net x.dst.id _).mono ?_
  rintro e w2 ⟨rfl, hb⟩
  have Z2 := Lib.hid hb.size
  replace HA := HA.below hb
  replace HX1 := HX1.below hb
  replace HX2 := HX2.below hb
  replace HX3 := HX3.below hb
  replace HB := Lib.hid (below_step HB.out hb)
  clear hb
  have c2_0 := HX1.look 2
  have c2_1 := HX1.look 3
  have c2_2 := HX3.look 0
  have c2_3 := HX3.look 1
  have c2_4 := HX3.look 2
  have f2_0 := HX3.free 0
  have f2_1 := HX3.free 1
  have f2_2 := HX3.free 2
  have l2_0 := HX1.bx.lt
  have l2_1 := HX2.bx.lt
  have l2_2 := HX3.bx.lt
  have n2_0_0 : ¬ (w.heap.size + 1 + 1) = w.heap.size := (by have := Z1.out; have := Z2.out; omega)
  have m2_0_0 : ¬ w.heap.size = (w.heap.size + 1 + 1) := (by have := Z1.out; have := Z2.out; omega)
  go_wp2_with fail
  clear c2_0 c2_1 c2_2 c2_3 c2_4 f2_0 f2_1 f2_2 l2_0 l2_1 l2_2 n2_0_0 m2_0_0
  refine Calls.name ?_
  intro U3 hU3
  have ho : Only (w.heap.size + 1 + 1) (w.heap.size + 1 + 1 + 1) w2 U3 := by rw [hU3]; exact ((((Only.refl _ _ _).set (p := ⟨w.heap.size + 1 + 1, 0, none⟩) (Nat.le_refl _) (Nat.lt_succ_self _) _).set (p := ⟨w.heap.size + 1 + 1, 1, none⟩) (Nat.le_refl _) (Nat.lt_succ_self _) _).set (p := ⟨w.heap.size + 1 + 1, 2, none⟩) (Nat.le_refl _) (Nat.lt_succ_self _) _)
  replace HX3 : Kept (w.heap.size + 1 + 1) (w.heap.size + 1 + 1 + 1) (BoxK (w.heap.size + 1 + 1) 201 #[.bool x.dst.net, .int .i64 x.dst.id, .int .i64 x.cost, .slice none 0 0]) U3 := by rw [hU3]; exact Kept.box (((HX3.bx.puts 0 (.bool x.dst.net) (cs' := #[.bool x.dst.net, .int .i64 0, .int .i64 0, .slice none 0 0]) rfl).puts 1 (.int .i64 x.dst.id) (cs' := #[.bool x.dst.net, .int .i64 x.dst.id, .int .i64 0, .slice none 0 0]) rfl).puts 2 (.int .i64 x.cost) (cs' := #[.bool x.dst.net, .int .i64 x.dst.id, .int .i64 x.cost, .slice none 0 0]) rfl)
  replace HA := HA.only ho (by have := Z1.out; have := Z2.out; omega)
  replace HX1 := HX1.only ho (by have := Z1.out; have := Z2.out; omega)
  replace HX2 := HX2.only ho (by have := Z1.out; have := Z2.out; omega)
  replace HB := Lib.hid (Below.only HB.out ho (by have := Z1.out; have := Z2.out; omega) HB.out.size)
  have Z3 : Hid (U3.heap.size = w2.heap.size) := Lib.hid (by rw [hU3]; simp [World.setCell]); clear ho
  clear hU3
  refine (toNodeS_any q lo hi A n c x.hops _ HA.sl HA.le hn).mono ?_
  rintro e w4 ⟨rfl, hs, hlt, hb⟩
  have Z4 := Lib.hid hb.size
  replace HA := HA.below hb
  replace HX1 := HX1.below hb
  replace HX2 := HX2.below hb
  replace HX3 := HX3.below hb
  replace HB := Lib.hid (below_step HB.out hb)
  clear hb
  have HS := Rep.Sl.kept hs hlt; clear hs
  have HLT := Lib.hid hlt; clear hlt
  have c3_0 := HX2.look 0
  have c3_1 := HX2.look 1
  have c3_2 := HX2.look 2
  have c3_3 := HX2.look 3
  have c3_4 := HX3.look 0
  have c3_5 := HX3.look 1
  have c3_6 := HX3.look 2
  have c3_7 := HX3.look 3
  have f3_0 := HX2.free 0
  have f3_1 := HX2.free 1
  have f3_2 := HX2.free 2
  have f3_3 := HX2.free 3
  have f3_4 := HX3.free 3
  have l3_0 := HX1.bx.lt
  have l3_1 := HX2.bx.lt
  have l3_2 := HX3.bx.lt
  have n3_0_1 : ¬ (w.heap.size + 1) = (w.heap.size + 1 + 1) := (by have := Z1.out; have := Z2.out; have := Z3.out; have := Z4.out; omega)
  have m3_0_1 : ¬ (w.heap.size + 1 + 1) = (w.heap.size + 1) := (by have := Z1.out; have := Z2.out; have := Z3.out; have := Z4.out; omega)
  go_wp2
  clear c3_0 c3_1 c3_2 c3_3 c3_4 c3_5 c3_6 c3_7 f3_0 f3_1 f3_2 f3_3 f3_4 l3_0 l3_1 l3_2 n3_0_1 m3_0_1
  obtain ⟨U5, hU5⟩ : ∃ W : World, W = (w4.setCell ⟨w.heap.size + 1 + 1, 3, none⟩ (.slice (some ⟨U3.heap.size, 0, none⟩) n n)) := ⟨_, rfl⟩
  have ho : Only (w.heap.size + 1 + 1) (w.heap.size + 1 + 1 + 1) w4 U5 := by rw [hU5]; exact ((Only.refl _ _ _).set (p := ⟨w.heap.size + 1 + 1, 3, none⟩) (Nat.le_refl _) (Nat.lt_succ_self _) _)
  replace HX3 : Kept (w.heap.size + 1 + 1) (w.heap.size + 1 + 1 + 1) (BoxK (w.heap.size + 1 + 1) 201 #[.bool x.dst.net, .int .i64 x.dst.id, .int .i64 x.cost, .slice (some ⟨U3.heap.size, 0, none⟩) n n]) U5 := by rw [hU5]; exact Kept.box (HX3.bx.puts 3 (.slice (some ⟨U3.heap.size, 0, none⟩) n n) (cs' := #[.bool x.dst.net, .int .i64 x.dst.id, .int .i64 x.cost, .slice (some ⟨U3.heap.size, 0, none⟩) n n]) rfl)
  replace HA := HA.only ho (by have := Z1.out; have := Z2.out; have := Z3.out; have := Z4.out; omega)
  replace HX1 := HX1.only ho (by have := Z1.out; have := Z2.out; have := Z3.out; have := Z4.out; omega)
  replace HX2 := HX2.only ho (by have := Z1.out; have := Z2.out; have := Z3.out; have := Z4.out; omega)
  replace HS := HS.only ho (by have := Z1.out; have := Z2.out; have := Z3.out; have := Z4.out; omega)
  replace HB := Lib.hid (Below.only HB.out ho (by have := Z1.out; have := Z2.out; have := Z3.out; have := Z4.out; omega) HB.out.size)
  have Z5 : Hid (U5.heap.size = w4.heap.size) := Lib.hid (by rw [hU5]; simp [World.setCell]); clear ho
  obtain ⟨U6, hU6⟩ : ∃ W : World, W = ((((U5.setCell ⟨w.heap.size + 1, 0, none⟩ (.bool x.dst.net)).setCell ⟨w.heap.size + 1, 1, none⟩ (.int .i64 x.dst.id)).setCell ⟨w.heap.size + 1, 2, none⟩ (.int .i64 x.cost)).setCell ⟨w.heap.size + 1, 3, none⟩ (.slice (some ⟨U3.heap.size, 0, none⟩) n n)) := ⟨_, rfl⟩
  have ho : Only (w.heap.size + 1) (w.heap.size + 1 + 1) U5 U6 := by rw [hU6]; exact (((((Only.refl _ _ _).set (p := ⟨w.heap.size + 1, 0, none⟩) (Nat.le_refl _) (Nat.lt_succ_self _) _).set (p := ⟨w.heap.size + 1, 1, none⟩) (Nat.le_refl _) (Nat.lt_succ_self _) _).set (p := ⟨w.heap.size + 1, 2, none⟩) (Nat.le_refl _) (Nat.lt_succ_self _) _).set (p := ⟨w.heap.size + 1, 3, none⟩) (Nat.le_refl _) (Nat.lt_succ_self _) _)
  replace HX2 : Kept (w.heap.size + 1) (w.heap.size + 1 + 1) (BoxK (w.heap.size + 1) 201 #[.bool x.dst.net, .int .i64 x.dst.id, .int .i64 x.cost, .slice (some ⟨U3.heap.size, 0, none⟩) n n]) U6 := by rw [hU6]; exact Kept.box ((((HX2.bx.puts 0 (.bool x.dst.net) (cs' := #[.bool x.dst.net, .int .i64 0, .int .i64 0, .slice none 0 0]) rfl).puts 1 (.int .i64 x.dst.id) (cs' := #[.bool x.dst.net, .int .i64 x.dst.id, .int .i64 0, .slice none 0 0]) rfl).puts 2 (.int .i64 x.cost) (cs' := #[.bool x.dst.net, .int .i64 x.dst.id, .int .i64 x.cost, .slice none 0 0]) rfl).puts 3 (.slice (some ⟨U3.heap.size, 0, none⟩) n n) (cs' := #[.bool x.dst.net, .int .i64 x.dst.id, .int .i64 x.cost, .slice (some ⟨U3.heap.size, 0, none⟩) n n]) rfl)
  replace HA := HA.only ho (by have := Z1.out; have := Z2.out; have := Z3.out; have := Z4.out; have := Z5.out; omega)
  replace HX1 := HX1.only ho (by have := Z1.out; have := Z2.out; have := Z3.out; have := Z4.out; have := Z5.out; omega)
  replace HX3 := HX3.only ho (by have := Z1.out; have := Z2.out; have := Z3.out; have := Z4.out; have := Z5.out; omega)
  replace HS := HS.only ho (by have := Z1.out; have := Z2.out; have := Z3.out; have := Z4.out; have := Z5.out; omega)
  replace HB := Lib.hid (Below.only HB.out ho (by have := Z1.out; have := Z2.out; have := Z3.out; have := Z4.out; have := Z5.out; omega) HB.out.size)
  have Z6 : Hid (U6.heap.size = U5.heap.size) := Lib.hid (by rw [hU6]; simp [World.setCell]); clear ho
  have q_0 := HX2.look 0
  have q_1 := HX2.look 1
  have q_2 := HX2.look 2
  have q_3 := HX2.look 3
  subst hU6 hU5
  exact bodyPost_ret (v := .agg (rtCells x (some ⟨U3.heap.size, 0, none⟩) n n)) (by simp [results, Try.results147, go_sem, q_0, q_1, q_2, q_3]) rfl ⟨_, rfl, HS.sl, (by have := Z1.out; have := Z2.out; have := Z3.out; have := Z4.out; have := Z5.out; have := Z6.out; omega), HS.le, HB.out⟩

set_option maxRecDepth 100000 in
set_option maxHeartbeats 3200000 in
theorem toRouteS_any (q : Bool) (lo hi : Nat) (A : Option Addr) (n c : Nat) (ys : List Rt) (w : World) (ha : Rep.route.Sl q lo hi w A n ys) (hh : hi ≤ w.heap.size) (hn : n ≤ 1048576) (hm : ∀ y ∈ ys, y.hops.length ≤ 1048576) :
    Calls Try.prog 72 #[.slice A n c] w fun e w' => e = .returned (.slice (some ⟨w.heap.size, 0, none⟩) n n) ∧
      (∃ bs, FRep.route.Sl w' (some ⟨w.heap.size, 0, none⟩) n ys bs ∧ bs.Nodup ∧ ∀ b ∈ bs, w.heap.size ≤ b ∧ b < w'.heap.size) ∧ Below w.heap.size w w' := by
  obtain ⟨i0, hi0, hz0, hz1, hz2⟩ := info_parts routeInfo
  go_enter Try.func72, Try.ntmps72
  go_wp2_with (at_make; refine wpList_make_full _ rfl _ _ 103 rfl w.heap.size 201 i0 _ 4 Try.underlying103 hi0 hz0 hz1 .i64 .i64 _ _ n rfl rfl rfl rfl (by rw [hz2]; omega) (by unfold maxLen; omega) (Nat.le_refl _) ?_; intro w1 hown1 hg1)
  have hb1 := below_of_grown hg1
  clear hg1 hi0 hz0 hz1 hz2
  obtain ⟨B, HB⟩ : ∃ B, Hid (B = w.heap.size) := ⟨_, Lib.hid rfl⟩
  rw [← HB.out] at hown1 hb1 ⊢
  have HM := Lib.hid hm
  clear hm
  go_loopw [4] (fun i wr => ∃ k : Nat, k ≤ n ∧ i = .int .i64 k ∧ ∃ xs : List Value, wr.ownsRow B 201 4 (.slice (some ⟨B, 0, none⟩) n n) n xs ∧ Below B w wr ∧
      Hid (∃ fs : List (List Nat), fs.length = k ∧ fs.flatten.Nodup ∧ (∀ x ∈ fs.flatten, B < x ∧ x < wr.heap.size) ∧ ∀ (j : Nat) (x : Rt) (f : List Nat), ys[j]? = some x → fs[j]? = some f → ∃ cs, FRep.route.rel wr cs x f ∧ ∀ i u, cs[i]? = some u → xs[j * 4 + i]? = some u))
    (fun i _ => n - (intOf i).toNat)
  case atStart => exact ⟨0, Nat.zero_le _, rfl, _, hown1, hb1, [], rfl, List.nodup_nil, fun x hx => absurd hx List.not_mem_nil, fun j x f _ hf => absurd hf (by simp)⟩
  case round =>
    obtain ⟨k, hk, rfl, xs, hown, hbw, HS⟩ := hrel
    by_cases hlt : k < n
    · obtain ⟨b, o, y, E, m, c1, rfl, hya, hyl, a0, a1, a2, a3⟩ := Rep.route_at (ha.below (by rw [← HB.out]; exact hbw) hh) hlt
      have hlt' : (k : Int) < n := by omega
      have HYA := Lib.hid hya
      have hym := HM.out y (List.mem_of_getElem? hya)
      have hml : y.hops.length = m := hyl.1
      rw [hml] at hym
      have hhr : hi ≤ wr.heap.size := Nat.le_trans hh (by have := hbw.size; omega)
      have HY := Lib.hid hyl
      have HHR := Lib.hid hhr
      have hBlt : B < wr.heap.size := (World.ownsRow.lt hown B rfl).2
      clear hya hyl hml hhr
      go_wp2_with fail
      refine (toRoute_any q lo hi y E m c1 _ HY.out HHR.out hym).mono ?_
      rintro e w2 ⟨gx, rfl, ht, hgx1, hgx2, hb2⟩
      clear a0 a1 a2 a3
      have hown2 : w2.ownsRow B 201 4 (.slice (some ⟨B, 0, none⟩) n n) n xs := World.ownsRow.kept hown (grownBy_of_below hb2 none) (by simp [Value.ownBlock])
      have hbw2 : Below B w w2 := hbw.trans (hb2.mono (Nat.le_of_lt hBlt))
      have hl : xs.length = n * 4 := by simpa using hown2.1
      obtain ⟨v0, d0⟩ := own_some hown2 (j := k * 4) (by omega)
      have f0 := World.ownsRow.frozenAt hown2 (k * 4)
      obtain ⟨v1, d1⟩ := own_some hown2 (j := k * 4 + 1) (by omega)
      have f1 := World.ownsRow.frozenAt hown2 (k * 4 + 1)
      obtain ⟨v2, d2⟩ := own_some hown2 (j := k * 4 + 2) (by omega)
      have f2 := World.ownsRow.frozenAt hown2 (k * 4 + 2)
      obtain ⟨v3, d3⟩ := own_some hown2 (j := k * 4 + 3) (by omega)
      have f3 := World.ownsRow.frozenAt hown2 (k * 4 + 3)
      have HO := Lib.hid (puts_own (rtCells y (some ⟨gx, 0, none⟩) m m).toList (k * 4) hown2)
      have HL := Lib.hid hl
      have HBW := Lib.hid hbw2
      have HN := Lib.hid (Rep.FSl.of_flat (r := Rep.node) (fun h => h) ht)
      have HG1 := Lib.hid hgx1
      have HG2 := Lib.hid hgx2
      have HB2 := Lib.hid hb2
      clear hl hbw2 hown hown2 hbw hb2 ht hgx1 hgx2
      go_wp2
      go_roundw
      case rel =>
        obtain ⟨U, hU⟩ : ∃ U : World, U = ((((w2.setCell ⟨B, k * 4, none⟩ (.bool y.dst.net)).setCell ⟨B, k * 4 + 1, none⟩ (.int .i64 y.dst.id)).setCell ⟨B, k * 4 + 2, none⟩ (.int .i64 y.cost)).setCell ⟨B, k * 4 + 3, none⟩ (.slice (some ⟨gx, 0, none⟩) m m)) := ⟨_, rfl⟩
        have hP : U = puts w2 B (k * 4) (rtCells y (some ⟨gx, 0, none⟩) m m).toList := hU.trans rfl
        have hsz : U.heap.size = w2.heap.size := by rw [hP]; exact puts_size _ _ _
        have ho : Only B (B + 1) w2 U := by rw [hP]; exact puts_only _ _ _
        clear hP
        obtain ⟨fs, hfl, hfd, hfr, hfs⟩ := HS.out
        obtain ⟨f, hf, hfd2, hfb⟩ := HN.out
        have hg1 := HG1.out
        have hg2 := HG2.out
        have hl := HL.out
        have hb2 := HB2.out
        have hszb := hb2.size
        refine ⟨k + 1, by omega, by go_num, _, HO.out, ?_, ?_⟩
        · rw [← hU]; exact HBW.out.trans (ho.below (Nat.le_refl _) (by have := HBW.out.size; have := hBlt; omega))
        refine ⟨fs ++ [f], by simp [hfl], ?_, ?_, ?_⟩
        · rw [flat_snoc, List.nodup_append]
          refine ⟨hfd, hfd2, fun x hx y hy e => ?_⟩
          have h1 := hfr x hx
          have h2 := hfb y hy
          omega
        · intro x hx
          rw [← hU, hsz]
          rw [flat_snoc, List.mem_append] at hx
          rcases hx with hx | hx
          · have := hfr x hx; omega
          · have := hfb x hx; omega
        · intro j x g' hx hg'
          rw [← hU]
          by_cases e : j = k
          · subst e
            have hax : x = y := by have := HYA.out; rw [hx] at this; injection this
            subst hax
            have hgf : f = g' := by rw [List.getElem?_append_right (by omega)] at hg'; simp [hfl] at hg'; exact hg'
            subst hgf
            have hkp : ∀ z ∈ f, U.heap[z]? = w2.heap[z]? := fun z hz => by have := hfb z hz; exact ho.block z (by omega) (.inr (by omega))
            refine ⟨(rtCells x (some ⟨gx, 0, none⟩) m m).toList, ⟨_, _, _, rfl, hf.keep fun z hz => hkp z hz⟩, fun i u hi => ?_⟩
            have hi4 : i < 4 := (List.getElem?_eq_some_iff.1 hi).1
            rw [setL_get _ _ _ _ (by simp; omega), if_pos (by simp; omega), show j * 4 + i - j * 4 = i by omega]
            exact hi
          · have hjk : j < k := by
              have := (List.getElem?_eq_some_iff.1 hg').1
              simp [hfl] at this; omega
            rw [List.getElem?_append_left (by omega)] at hg'
            obtain ⟨cs, e1, e2⟩ := hfs j x g' hx hg'
            refine ⟨cs, FRep.route.keep e1 fun z hz => ?_, fun i u hi => ?_⟩
            · have h1 := hfr z (mem_flat_of_get hg' hz)
              exact (ho.block z (by omega) (.inr (by omega))).trans (hb2.block z (by omega))
            · have hi4 : i < 4 := by have h1 := FRep.route.len e1; have h2 := (List.getElem?_eq_some_iff.1 hi).1; rw [h1] at h2; exact h2
              rw [setL_get _ _ _ _ (by simp; omega), if_neg (by simp; omega)]
              exact e2 i u hi
      case measure => simp [intOf]; omega
    · have HO := Lib.hid hown
      have hlen := ha.1
      clear hown
      go_wp2
      go_ret
      obtain rfl := HB.out
      have hlt2 : w.heap.size < wr.heap.size := (World.ownsRow.lt HO.out w.heap.size rfl).2
      obtain ⟨fs, hfl, hfd, hfr, hfs⟩ := HS.out
      have hkn : k = n := by omega
      subst hkn
      refine ⟨rfl, ?_, hbw⟩
      rcases Nat.eq_zero_or_pos k with h0 | h0
      · subst h0
        exact ⟨[], ⟨hlen, .inl ⟨rfl, rfl⟩⟩, List.nodup_nil, fun x hx => by cases hx⟩
      · refine ⟨w.heap.size :: fs.flatten, ⟨hlen, .inr ⟨h0, w.heap.size, fs, rfl, rfl, hfl, fun i => World.ownsRow.frozenAt HO.out i, fun i y f hy hf => ?_⟩⟩, List.nodup_cons.2 ⟨fun hx => ?_, hfd⟩, fun x hx => ?_⟩
        · obtain ⟨cs, e1, e2⟩ := hfs i y f hy hf
          refine ⟨cs, e1, fun j u hj => ?_⟩
          have hin : i < k := by have := (List.getElem?_eq_some_iff.1 hf).1; omega
          have hj4 : j < 4 := by have h1 := FRep.route.len e1; have h2 := (List.getElem?_eq_some_iff.1 hj).1; rw [h1] at h2; exact h2
          show wr.cell? ⟨w.heap.size, i * 4 + j, none⟩ = some u
          rw [World.ownsRow.cellAt HO.out (i * 4 + j) (by omega), e2 j u hj]
        · have := hfr _ hx; omega
        · rcases List.mem_cons.1 hx with rfl | hx
          · omega
          · have := hfr _ hx; omega

set_option maxRecDepth 100000 in
set_option maxHeartbeats 1600000 in
theorem eqRoute_yes (q1 q2 : Bool) (l1 h1 l2 h2 : Nat) (x : Rt) (A B : Option Addr) (n c d : Nat) (w : World) (ha : Rep.node.Sl q1 l1 h1 w A n x.hops) (hb : Rep.node.Sl q2 l2 h2 w B n x.hops) (hh1 : h1 ≤ w.heap.size) (hh2 : h2 ≤ w.heap.size) (hn : n ≤ 1048576) :
    Calls Try.prog 152 #[.agg (rtCells x A n c), .agg (rtCells x B n d)] w fun e w' => e = .returned (.bool true) ∧ Below w.heap.size w w' := by
  have HB := Lib.hid (Below.refl w.heap.size w)
  have HA := Rep.Sl.kept ha hh1
  have HC := Rep.Sl.kept hb hh2
  clear ha hb
  go_enter Try.func152, Try.ntmps152
  go_wp2_with fail
  refine Calls.name ?_
  intro U1 hU1
  have hb : Below w.heap.size w U1 := by rw [hU1]; exact (((Below.refl _ _).alloc (Nat.le_refl _) _).alloc (by simp <;> omega) _)
  have zz : Hid (w.heap.size + 2 = U1.heap.size) := Lib.hid (by rw [hU1]; simp)
  have HX1 : Kept w.heap.size (w.heap.size + 1) (BoxK w.heap.size 201 #[.bool x.dst.net, .int .i64 x.dst.id, .int .i64 x.cost, .slice A n c]) U1 := by rw [hU1]; exact Kept.box ((Box.made_at _ _ _ rfl).over _)
  have HX2 : Kept (w.heap.size + 1) (w.heap.size + 1 + 1) (BoxK (w.heap.size + 1) 201 #[.bool x.dst.net, .int .i64 x.dst.id, .int .i64 x.cost, .slice B n d]) U1 := by rw [hU1]; exact Kept.box (Box.made_at _ _ _ (by simp <;> omega))
  replace HA := HA.below hb
  replace HC := HC.below hb
  replace HB := Lib.hid (below_step HB.out hb)
  clear hb
  have Z1 := zz; clear zz
  clear hU1
  refine (eqNode_yes x.dst.net x.dst.id _).mono ?_
  rintro e w2 ⟨rfl, hb⟩
  have Z2 := Lib.hid hb.size
  replace HA := HA.below hb
  replace HC := HC.below hb
  replace HX1 := HX1.below hb
  replace HX2 := HX2.below hb
  replace HB := Lib.hid (below_step HB.out hb)
  clear hb
  have c2_0 := HX1.look 2
  have c2_1 := HX1.look 3
  have c2_2 := HX2.look 2
  have c2_3 := HX2.look 3
  have l2_0 := HX1.bx.lt
  have l2_1 := HX2.bx.lt
  go_wp2_with fail
  clear c2_0 c2_1 c2_2 c2_3 l2_0 l2_1
  refine (eqNodeS_yes q1 q2 l1 h1 l2 h2 A B n c d x.hops _ HA.sl HC.sl HA.le HC.le hn).mono ?_
  rintro e w3 ⟨rfl, hb⟩
  have Z3 := Lib.hid hb.size
  replace HA := HA.below hb
  replace HC := HC.below hb
  replace HX1 := HX1.below hb
  replace HX2 := HX2.below hb
  replace HB := Lib.hid (below_step HB.out hb)
  clear hb
  have l3_0 := HX1.bx.lt
  have l3_1 := HX2.bx.lt
  go_wp2
  clear l3_0 l3_1
  go_ret
  exact ⟨rfl, HB.out⟩

set_option maxRecDepth 100000 in
set_option maxHeartbeats 3200000 in
theorem eqRouteS_yes (q1 q2 : Bool) (l1 h1 l2 h2 : Nat) (A B : Option Addr) (n c d : Nat) (ys : List Rt) (w : World) (ha : Rep.route.Sl q1 l1 h1 w A n ys) (hb : Rep.route.Sl q2 l2 h2 w B n ys) (hh1 : h1 ≤ w.heap.size) (hh2 : h2 ≤ w.heap.size) (hn : n ≤ 1048576) (hm : ∀ y ∈ ys, y.hops.length ≤ 1048576) :
    Calls Try.prog 76 #[.slice A n c, .slice B n d] w fun e w' => e = .returned (.bool true) ∧ Below w.heap.size w w' := by
  have HM := Lib.hid hm
  clear hm
  go_enter Try.func76, Try.ntmps76
  go_wp2
  go_loopw [5] (fun i wr => ∃ k : Nat, k ≤ n ∧ i = .int .i64 k ∧ Hid (Below w.heap.size w wr)) (fun i _ => n - (intOf i).toNat)
  case atStart => exact ⟨0, Nat.zero_le _, rfl, Below.refl _ _⟩
  case round =>
    obtain ⟨k, hk, rfl, HB⟩ := hrel
    by_cases hlt : k < n
    · obtain ⟨b, o, y, E, m, c1, rfl, hya, hyl, a0, a1, a2, a3⟩ := Rep.route_at (ha.below HB.out hh1) hlt
      obtain ⟨b2, o2, y2, E2, m2, c2, rfl, hya2, hyl2, e0, e1, e2, e3⟩ := Rep.route_at (hb.below HB.out hh2) hlt
      obtain rfl : y2 = y := by rw [hya] at hya2; injection hya2 with e; exact e.symm
      obtain rfl : m2 = m := by rw [← hyl.1, ← hyl2.1]
      have hlt' : (k : Int) < n := by omega
      have hym := HM.out y2 (List.mem_of_getElem? hya)
      rw [show y2.hops.length = m2 from hyl.1] at hym
      have HY1 := Rep.Sl.kept hyl (Nat.le_trans hh1 HB.out.size)
      have HY2 := Rep.Sl.kept hyl2 (Nat.le_trans hh2 HB.out.size)
      clear hya hya2 hyl hyl2
      have SB : Hid (∀ W, Hid (Below wr.heap.size wr W) → (fun W => W.cell? ⟨b, o + k * 4, none⟩ = some (.bool y2.dst.net) ∧ W.cell? ⟨b, o + k * 4 + 1, none⟩ = some (.int .i64 y2.dst.id) ∧ W.cell? ⟨b, o + k * 4 + 2, none⟩ = some (.int .i64 y2.cost) ∧ W.cell? ⟨b, o + k * 4 + 3, none⟩ = some (.slice E m2 c1) ∧ W.cell? ⟨b2, o2 + k * 4, none⟩ = some (.bool y2.dst.net) ∧ W.cell? ⟨b2, o2 + k * 4 + 1, none⟩ = some (.int .i64 y2.dst.id) ∧ W.cell? ⟨b2, o2 + k * 4 + 2, none⟩ = some (.int .i64 y2.cost) ∧ W.cell? ⟨b2, o2 + k * 4 + 3, none⟩ = some (.slice E2 m2 c2)) W) := fun W h => ⟨(h.out.cell (World.block_lt_of_cell? wr _ a0)).trans a0, (h.out.cell (World.block_lt_of_cell? wr _ a1)).trans a1, (h.out.cell (World.block_lt_of_cell? wr _ a2)).trans a2, (h.out.cell (World.block_lt_of_cell? wr _ a3)).trans a3, (h.out.cell (World.block_lt_of_cell? wr _ e0)).trans e0, (h.out.cell (World.block_lt_of_cell? wr _ e1)).trans e1, (h.out.cell (World.block_lt_of_cell? wr _ e2)).trans e2, (h.out.cell (World.block_lt_of_cell? wr _ e3)).trans e3⟩
      have V0 : Hid (Below wr.heap.size wr wr.drew) := (Below.refl _ _).drew
      clear a0 a1 a2 a3 e0 e1 e2 e3
      go_wp2
      go_region_held3 (fun W => W.cell? ⟨b, o + k * 4, none⟩ = some (.bool y2.dst.net) ∧ W.cell? ⟨b, o + k * 4 + 1, none⟩ = some (.int .i64 y2.dst.id) ∧ W.cell? ⟨b, o + k * 4 + 2, none⟩ = some (.int .i64 y2.cost) ∧ W.cell? ⟨b, o + k * 4 + 3, none⟩ = some (.slice E m2 c1) ∧ W.cell? ⟨b2, o2 + k * 4, none⟩ = some (.bool y2.dst.net) ∧ W.cell? ⟨b2, o2 + k * 4 + 1, none⟩ = some (.int .i64 y2.dst.id) ∧ W.cell? ⟨b2, o2 + k * 4 + 2, none⟩ = some (.int .i64 y2.cost) ∧ W.cell? ⟨b2, o2 + k * 4 + 3, none⟩ = some (.slice E2 m2 c2)) (exact SB.out _ (by assumption))
        (first | (go_at_call 152; refine (eqRoute_yes q1 q2 l1 h1 l2 h2 y2 E E2 m2 c1 c2 _ (HY1.below V0.out).sl (HY2.below V0.out).sl (HY1.below V0.out).le (HY2.below V0.out).le hym).mono ?_; rintro e u ⟨rfl, hbu⟩; have U0 := Lib.hid (below_step V0.out hbu); clear hbu))
      have HU := Lib.hid (below_step HB.out U0.out)
      clear SB V0 U0 HB
      go_wp2
      go_roundw
      case rel => exact ⟨k + 1, by omega, by go_num, HU⟩
      case measure => simp [intOf]; omega
    · go_wp2
      go_ret
      exact ⟨rfl, HB.out⟩


end Go.Proofs.Ytooogjfnnmacjaa
