/-
  The walk of the law FnQueues. No statement is proved here.
-/
import Derived.Test.YtiffhjofabaflaaMQA
import Derived.Test.YtiffhjofabaflaaMQB
import Derived.Test.YtiffhjofabaflaaQDrain
import Derived.Test.YtiffhjofabaflaaSpecQueueFault
namespace Go.Proofs.Ytiffhjofabaflaa
open Go.RowKit
set_option linter.unusedVariables false

theorem pa_ok {cap : Int} {mk : Bool} {ys xs : List Tmr} (h : paC cap mk ys xs = 0) : qf cap ys = 0 ∧ paX cap mk ys xs = cap ∧ paP cap mk ys xs = (pushL cap xs mk ys).2.1 ∧ paU cap mk ys xs = (pushL cap xs mk ys).2.2 ∧ (pushL cap xs mk ys).1 = 0 := by
  have h' := h
  unfold paC at h'
  split at h'
  · rename_i h1
    split at h'
    · cases h'
    · rename_i h2
      refine ⟨h1, by unfold paX; rw [if_pos h], by unfold paP; rw [if_pos h1, if_neg h2], by unfold paU; rw [if_pos h1, if_neg h2], h'⟩
  · rename_i h1; exact absurd h' h1
attribute [local go_sem high] neq_keyT

theorem neq_sameI (a b c d : Int) (W : World) : (binOp .neq 66 (.agg #[.int .i64 a, .int .i64 b, .int .i64 c, .int .i64 d]) (.agg #[.int .i64 a, .int .i64 b, .int .i64 c, .int .i64 d])).run Try.prog W = .ok (.bool false) W := by simp [go_sem]
attribute [local go_sem high] neq_sameI
theorem rfl3 (a : Int) (b : Bool) (l : List Tmr) : true = true ↔ (a = a ∧ b = b ∧ l = l) := by simp
theorem drawPushAllS_any (A0 : Option Addr) (n0 c0 : Nat) (cs : List Int) (w : World) (ha : BIn w A0 n0 cs) (hb : Bytes cs) (hn : n0 ≤ 1048576) :
    Calls Try.prog 40 #[.slice A0 n0 c0] w fun e w' => ∃ (cap : Int) (mk : Bool) (E : Option Addr) (m d : Nat) (ys : List Tmr) (I : Option Addr) (n c : Nat) (its : List Tmr), e = .returned (.tuple #[.agg #[.int .i64 cap, .bool mk, .slice E m d], .slice I n c]) ∧ Kept w.heap.size w'.heap.size (OwnFK 66 4 tcell (w.heap.size) (w'.heap.size) E m d ys) w' ∧ Kept w.heap.size w'.heap.size (OwnFK 66 4 tcell (w.heap.size) (w'.heap.size) I n c its) w' ∧ m ≤ 16 ∧ n ≤ 200 ∧ Below w.heap.size w w' :=
  drawPushAll_any A0 n0 c0 cs w ha hb hn

theorem fieldQ0 (W : World) (r x : Int) (p t : Bool) (O E : Option Addr) (j k m d : Nat) : (Instr.field 63 (.agg #[.int .i64 r, .int .i64 x, .bool p, .slice O j k, .bool t, .slice E m d]) 0).run Try.prog W = .ok (.int .i64 r) W := by kernel_rfl
theorem fieldQ2 (W : World) (r x : Int) (p t : Bool) (O E : Option Addr) (j k m d : Nat) : (Instr.field 63 (.agg #[.int .i64 r, .int .i64 x, .bool p, .slice O j k, .bool t, .slice E m d]) 2).run Try.prog W = .ok (.bool t) W := by kernel_rfl
theorem fieldQ3 (W : World) (r x : Int) (p t : Bool) (O E : Option Addr) (j k m d : Nat) : (Instr.field 63 (.agg #[.int .i64 r, .int .i64 x, .bool p, .slice O j k, .bool t, .slice E m d]) 3).run Try.prog W = .ok (.slice E m d) W := by kernel_rfl
theorem fieldQ1 (W : World) (r x : Int) (p t : Bool) (O E : Option Addr) (j k m d : Nat) : (Instr.field 63 (.agg #[.int .i64 r, .int .i64 x, .bool p, .slice O j k, .bool t, .slice E m d]) 1).run Try.prog W = .ok (.agg #[.int .i64 x, .bool p, .slice O j k]) W := by kernel_rfl
attribute [local go_sem high] fieldQ0 fieldQ1 fieldQ2 fieldQ3
theorem lwItems_two (q1 q2 : Bool) (l1 h1 l2 h2 : Nat) (A B : Option Addr) (n c m d : Nat) (ys zs : List Tmr) (e : ys = zs) (w : World) (ha : Rep.timer.Sl q1 l1 h1 w A n ys) (hb : Rep.timer.Sl q2 l2 h2 w B m zs) (hh1 : h1 ≤ w.heap.size) (hh2 : h2 ≤ w.heap.size) (hn : n ≤ 1048576) :
    Calls Try.prog 52 #[.slice A n c, .slice B m d] w fun e w' => e = .returned (.bool true) ∧ Below w.heap.size w w' := by
  subst e
  have h1' := ha.1
  have h2' := hb.1
  obtain rfl : m = n := by omega
  exact lwItems_yes q1 q2 l1 h1 l2 h2 A B _ c d ys w ha hb hh1 hh2 hn
theorem Kept.grown_ne {F : World → Prop} {g : Nat} {w w' : World} {row : Option Nat} (h : Kept g (g + 1) F w) (hg : w.grownBy w' row) (hr : row ≠ some g) : Kept g (g + 1) F w' :=
  ⟨Nat.le_trans h.1 hg.size, fun w2 k => h.2 w2 fun b h1 h2 => (k b h1 h2).trans (hg.block b (by have := h.1; omega) (fun e => hr (by rw [← e, show b = g by omega])))⟩
theorem timer_inF {q : Bool} {lo hi : Nat} {w : World} {A : Option Addr} {n : Nat} {ys : List Tmr} (h : Rep.timer.Sl q lo hi w A n ys) : InF 4 tcell w A n ys := Rep.Sl.inF (r := Rep.timer) tcell_len (fun _ _ _ _ _ _ h => h) h
theorem qf_dropQ {cap : Int} {ys : List Tmr} {z : Tmr} (h : qf cap (z :: ys) = 0) : qf cap ys = 0 := by
  obtain ⟨h1, h2, h8, h3, h4, h5⟩ := qf_ok h
  have h2' : (ys.length : Int) ≤ cap := by simp at h2; omega
  have h3' : allIn 1 100000 (revs ys) = true := by simp [allIn, revs] at h3 ⊢; exact h3.2
  have h4' : ups (revs ys) := ups_pw.2 ((List.pairwise_cons.1 (ups_pw.1 h4)).2)
  have h5' : twinB ys = false := by simp [twinB] at h5; exact h5.2
  unfold qf
  rw [if_neg (fun hn => hn h1), if_neg (by omega), if_neg (by simp [h3']), if_neg (fun hn => hn h4'), if_neg (by simp [h5'])]

set_option maxRecDepth 100000 in
set_option maxHeartbeats 12800000 in
theorem law_Queues (A0 : Option Addr) (n0 c0 : Nat) (cs : List Int) (w : World) (ha : BIn w A0 n0 cs) (hb : Bytes cs) (hm : n0 ≤ maxLen) :
    Calls Try.prog 5 #[.slice A0 n0 c0] w fun e w' => e = .returned (.bool true) ∧ Below w.heap.size w w' := by
  unfold maxLen at hm
  by_cases hbig : 1048576 < n0
  · have h1 : (1048576 : Int) < n0 := by omega
    go_enter Try.func5, Try.ntmps5
    go_wp2
    go_ret
    exact ⟨rfl, Below.refl _ _⟩
  have hn : n0 ≤ 1048576 := by omega
  clear hm hbig
  have HB := Lib.hid (Below.refl w.heap.size w)
  have HD := ha.hold
  have HBY := Lib.hid hb
  clear ha hb
  go_enter Try.func5, Try.ntmps5
  go_wp2_with fail
  refine (lwBig_no A0 n0 c0 _ hn).mono ?_
  rintro e w1 ⟨rfl, rfl⟩
  go_wp2_with fail
  refine (drawPushAllS_any A0 n0 c0 cs _ HD.out HBY.out hn).mono ?_
  rintro e w2 ⟨cap, mk, E, m, d, ys, I, n1, c1, xs, rfl, hos, hxs, hm16, hn1, hb⟩
  have Z1 := Lib.hid hb.size
  replace HD := HD.below hb
  replace HB := Lib.hid (below_step HB.out hb)
  clear hb
  have hmd := hos.ownF.room
  have HA := Rep.Sl.kept (own_items hos.ownF) (Nat.le_refl _); clear hos
  have HX := Rep.Sl.kept (own_items hxs.ownF) (Nat.le_refl _); clear hxs
  obtain ⟨dra, hr⟩ : ∃ z, paC cap mk ys xs = z := ⟨_, rfl⟩
  have HRdra := Lib.hid hr; clear hr
  obtain ⟨dxa, hr⟩ : ∃ z, paX cap mk ys xs = z := ⟨_, rfl⟩
  have HRdxa := Lib.hid hr; clear hr
  obtain ⟨dpa, hr⟩ : ∃ z, paP cap mk ys xs = z := ⟨_, rfl⟩
  have HRdpa := Lib.hid hr; clear hr
  obtain ⟨dua, hr⟩ : ∃ z, paU cap mk ys xs = z := ⟨_, rfl⟩
  have HRdua := Lib.hid hr; clear hr
  obtain ⟨dta, hr⟩ : ∃ z, paT ys = z := ⟨_, rfl⟩
  have HRdta := Lib.hid hr; clear hr
  obtain ⟨dza, hr⟩ : ∃ z, paZ ys = z := ⟨_, rfl⟩
  have HRdza := Lib.hid hr; clear hr
  go_wp2_with fail
  refine Calls.name ?_
  intro U3 hU3
  have hb : Below w2.heap.size w2 U3 := by rw [hU3]; exact ((Below.refl _ _).alloc (Nat.le_refl _) _)
  have zz : Hid (w2.heap.size + 1 = U3.heap.size) := Lib.hid (by rw [hU3]; simp)
  have HX1 : Kept w2.heap.size (w2.heap.size + 1) (BoxK w2.heap.size 59 #[.int .i64 cap, .bool mk, .slice E m d]) U3 := by rw [hU3]; exact Kept.box (Box.made_at _ _ _ rfl)
  replace HD := HD.below hb
  replace HA := HA.below hb
  replace HX := HX.below hb
  replace HB := Lib.hid (below_step HB.out hb)
  clear hb
  have Z2 := zz; clear zz
  have Y1 := Lib.hid (And.intro Z1.out Z2.out); clear Z1 Z2
  clear hU3
  refine (pushAllR_any cap mk _ _ _ E m d ys _ _ _ I n1 c1 xs _ HA.sl HA.le (by omega) HX.sl HX.le (by omega) hmd).mono ?_
  rw [HRdra.out, HRdxa.out, HRdpa.out, HRdua.out, HRdta.out, HRdza.out]
  rintro e w4 ⟨Oa, ja, ka, Ea, ma, da, rfl, hk, hb, hja⟩
  have Z3 := Lib.hid hb.size
  have Y2 := Lib.hid (And.intro Y1.out Z3.out); clear Y1 Z3
  replace HD := HD.below hb
  replace HA := HA.below hb
  replace HX := HX.below hb
  replace HX1 := HX1.below hb
  replace HB := Lib.hid (below_step HB.out hb)
  clear hb
  have HOA := hk; clear hk
  have l4_0 := HX1.bx.lt
  go_wp2_with fail
  clear l4_0
  refine Calls.name ?_
  intro U5 hU5
  have hb : Below w4.heap.size w4 U5 := by rw [hU5]; exact ((Below.refl _ _).alloc (Nat.le_refl _) _)
  have zz : Hid (w4.heap.size + 1 = U5.heap.size) := Lib.hid (by rw [hU5]; simp)
  have HX2 : Kept w4.heap.size (w4.heap.size + 1) (BoxK w4.heap.size 63 #[.int .i64 dra, .int .i64 dxa, .bool dpa, .slice Oa ja ka, .bool dta, .slice Ea ma da]) U5 := by rw [hU5]; exact Kept.box (Box.made_at _ _ _ rfl)
  replace HD := HD.below hb
  replace HA := HA.below hb
  replace HX := HX.below hb
  replace HX1 := HX1.below hb
  replace HOA := HOA.below hb
  replace HB := Lib.hid (below_step HB.out hb)
  clear hb
  have Z4 := zz; clear zz
  have Y3 := Lib.hid (And.intro Y2.out Z4.out); clear Y2 Z4
  clear hU5
  refine (drawPushItem_any A0 n0 c0 cs _ HD.out HBY.out hn).mono ?_
  rintro e w6 ⟨cap2, mk2, F, m2, d2, ys2, xa, xb, xc, xd, rfl, hos, hm162, hb⟩
  have Z5 := Lib.hid hb.size
  have Y4 := Lib.hid (And.intro Y3.out Z5.out); clear Y3 Z5
  replace HD := HD.below hb
  replace HA := HA.below hb
  replace HX := HX.below hb
  replace HX1 := HX1.below hb
  replace HOA := HOA.below hb
  replace HX2 := HX2.below hb
  replace HB := Lib.hid (below_step HB.out hb)
  clear hb
  have hmd2 := hos.ownF.room
  have HA2 := Rep.Sl.kept (own_items hos.ownF) (Nat.le_refl _); clear hos
  obtain ⟨drb, hr⟩ : ∃ z, paC cap2 mk2 ys2 [⟨xa, xb, xc, xd⟩] = z := ⟨_, rfl⟩
  have HRdrb := Lib.hid hr; clear hr
  obtain ⟨dxb, hr⟩ : ∃ z, paX cap2 mk2 ys2 [⟨xa, xb, xc, xd⟩] = z := ⟨_, rfl⟩
  have HRdxb := Lib.hid hr; clear hr
  obtain ⟨dpb, hr⟩ : ∃ z, paP cap2 mk2 ys2 [⟨xa, xb, xc, xd⟩] = z := ⟨_, rfl⟩
  have HRdpb := Lib.hid hr; clear hr
  obtain ⟨dub, hr⟩ : ∃ z, paU cap2 mk2 ys2 [⟨xa, xb, xc, xd⟩] = z := ⟨_, rfl⟩
  have HRdub := Lib.hid hr; clear hr
  obtain ⟨dtb, hr⟩ : ∃ z, paT ys2 = z := ⟨_, rfl⟩
  have HRdtb := Lib.hid hr; clear hr
  obtain ⟨dzb, hr⟩ : ∃ z, paZ ys2 = z := ⟨_, rfl⟩
  have HRdzb := Lib.hid hr; clear hr
  have l5_0 := HX1.bx.lt
  have l5_1 := HX2.bx.lt
  go_wp2_with fail
  clear l5_0 l5_1
  refine Calls.name ?_
  intro U7 hU7
  have hb : Below w6.heap.size w6 U7 := by rw [hU7]; exact (((Below.refl _ _).alloc (Nat.le_refl _) _).alloc (by simp <;> omega) _)
  have zz : Hid (w6.heap.size + 2 = U7.heap.size) := Lib.hid (by rw [hU7]; simp)
  have HX3 : Kept w6.heap.size (w6.heap.size + 1) (BoxK w6.heap.size 59 #[.int .i64 cap2, .bool mk2, .slice F m2 d2]) U7 := by rw [hU7]; exact Kept.box ((Box.made_at _ _ _ rfl).over _)
  have HX4 : Kept (w6.heap.size + 1) (w6.heap.size + 1 + 1) (BoxK (w6.heap.size + 1) 66 #[.int .i64 xa, .int .i64 xb, .int .i64 xc, .int .i64 xd]) U7 := by rw [hU7]; exact Kept.box (Box.made_at _ _ _ (by simp <;> omega))
  replace HD := HD.below hb
  replace HA := HA.below hb
  replace HX := HX.below hb
  replace HX1 := HX1.below hb
  replace HOA := HOA.below hb
  replace HX2 := HX2.below hb
  replace HA2 := HA2.below hb
  replace HB := Lib.hid (below_step HB.out hb)
  clear hb
  have Z6 := zz; clear zz
  have Y5 := Lib.hid (And.intro Y4.out Z6.out); clear Y4 Z6
  clear hU7
  refine (pushItemR_any cap2 mk2 _ _ _ F m2 d2 ys2 ⟨xa, xb, xc, xd⟩ _ HA2.sl HA2.le (by omega) hmd2).mono ?_
  rw [HRdrb.out, HRdxb.out, HRdpb.out, HRdub.out, HRdtb.out, HRdzb.out]
  rintro e w8 ⟨Ob, jb, kb, Eb, mb, db, rfl, hk, hb, hjb⟩
  have Z7 := Lib.hid hb.size
  have Y6 := Lib.hid (And.intro Y5.out Z7.out); clear Y5 Z7
  replace HD := HD.below hb
  replace HA := HA.below hb
  replace HX := HX.below hb
  replace HX1 := HX1.below hb
  replace HOA := HOA.below hb
  replace HX2 := HX2.below hb
  replace HA2 := HA2.below hb
  replace HX3 := HX3.below hb
  replace HX4 := HX4.below hb
  replace HB := Lib.hid (below_step HB.out hb)
  clear hb
  have HOB := hk; clear hk
  have l6_0 := HX1.bx.lt
  have l6_1 := HX2.bx.lt
  have l6_2 := HX3.bx.lt
  have l6_3 := HX4.bx.lt
  go_wp2_with fail
  clear l6_0 l6_1 l6_2 l6_3
  refine Calls.name ?_
  intro U9 hU9
  have hb : Below w8.heap.size w8 U9 := by rw [hU9]; exact ((Below.refl _ _).alloc (Nat.le_refl _) _)
  have zz : Hid (w8.heap.size + 1 = U9.heap.size) := Lib.hid (by rw [hU9]; simp)
  have HX5 : Kept w8.heap.size (w8.heap.size + 1) (BoxK w8.heap.size 63 #[.int .i64 drb, .int .i64 dxb, .bool dpb, .slice Ob jb kb, .bool dtb, .slice Eb mb db]) U9 := by rw [hU9]; exact Kept.box (Box.made_at _ _ _ rfl)
  replace HD := HD.below hb
  replace HA := HA.below hb
  replace HX := HX.below hb
  replace HX1 := HX1.below hb
  replace HOA := HOA.below hb
  replace HX2 := HX2.below hb
  replace HA2 := HA2.below hb
  replace HX3 := HX3.below hb
  replace HX4 := HX4.below hb
  replace HOB := HOB.below hb
  replace HB := Lib.hid (below_step HB.out hb)
  clear hb
  have Z8 := zz; clear zz
  have Y7 := Lib.hid (And.intro Y6.out Z8.out); clear Y6 Z8
  clear hU9
  refine (drawPop_any A0 n0 c0 cs _ HD.out HBY.out hn).mono ?_
  rintro e w10 ⟨cap3, mk3, G, m3, d3, ys3, rfl, hos, hm163, hb⟩
  have Z9 := Lib.hid hb.size
  have Y8 := Lib.hid (And.intro Y7.out Z9.out); clear Y7 Z9
  replace HD := HD.below hb
  replace HA := HA.below hb
  replace HX := HX.below hb
  replace HX1 := HX1.below hb
  replace HOA := HOA.below hb
  replace HX2 := HX2.below hb
  replace HA2 := HA2.below hb
  replace HX3 := HX3.below hb
  replace HX4 := HX4.below hb
  replace HOB := HOB.below hb
  replace HX5 := HX5.below hb
  replace HB := Lib.hid (below_step HB.out hb)
  clear hb
  have hmd3 := hos.ownF.room
  have HA3 := Rep.Sl.kept (own_items hos.ownF) (Nat.le_refl _); clear hos
  obtain ⟨drc, hr⟩ : ∃ z, ppC cap3 mk3 ys3 = z := ⟨_, rfl⟩
  have HRdrc := Lib.hid hr; clear hr
  obtain ⟨dxc, hr⟩ : ∃ z, ppX cap3 mk3 ys3 = z := ⟨_, rfl⟩
  have HRdxc := Lib.hid hr; clear hr
  obtain ⟨dpc, hr⟩ : ∃ z, ppP ys3 = z := ⟨_, rfl⟩
  have HRdpc := Lib.hid hr; clear hr
  obtain ⟨duc, hr⟩ : ∃ z, ppU cap3 mk3 ys3 = z := ⟨_, rfl⟩
  have HRduc := Lib.hid hr; clear hr
  obtain ⟨dtc, hr⟩ : ∃ z, ppT cap3 mk3 ys3 = z := ⟨_, rfl⟩
  have HRdtc := Lib.hid hr; clear hr
  obtain ⟨dzc, hr⟩ : ∃ z, ppZ cap3 mk3 ys3 = z := ⟨_, rfl⟩
  have HRdzc := Lib.hid hr; clear hr
  have l7_0 := HX1.bx.lt
  have l7_1 := HX2.bx.lt
  have l7_2 := HX3.bx.lt
  have l7_3 := HX4.bx.lt
  have l7_4 := HX5.bx.lt
  go_wp2_with fail
  clear l7_0 l7_1 l7_2 l7_3 l7_4
  refine Calls.name ?_
  intro U11 hU11
  have hb : Below w10.heap.size w10 U11 := by rw [hU11]; exact ((Below.refl _ _).alloc (Nat.le_refl _) _)
  have zz : Hid (w10.heap.size + 1 = U11.heap.size) := Lib.hid (by rw [hU11]; simp)
  have HX6 : Kept w10.heap.size (w10.heap.size + 1) (BoxK w10.heap.size 59 #[.int .i64 cap3, .bool mk3, .slice G m3 d3]) U11 := by rw [hU11]; exact Kept.box (Box.made_at _ _ _ rfl)
  replace HD := HD.below hb
  replace HA := HA.below hb
  replace HX := HX.below hb
  replace HX1 := HX1.below hb
  replace HOA := HOA.below hb
  replace HX2 := HX2.below hb
  replace HA2 := HA2.below hb
  replace HX3 := HX3.below hb
  replace HX4 := HX4.below hb
  replace HOB := HOB.below hb
  replace HX5 := HX5.below hb
  replace HA3 := HA3.below hb
  replace HB := Lib.hid (below_step HB.out hb)
  clear hb
  have Z10 := zz; clear zz
  have Y9 := Lib.hid (And.intro Y8.out Z10.out); clear Y8 Z10
  clear hU11
  refine (popItem_any cap3 mk3 _ _ _ G m3 d3 ys3 _ HA3.sl HA3.le (by omega) hmd3).mono ?_
  rw [HRdrc.out, HRdxc.out, HRdpc.out, HRduc.out, HRdtc.out, HRdzc.out]
  rintro e w12 ⟨Oc, jc, kc, Ec, mc, dc, rfl, hk, hb⟩
  have Z11 := Lib.hid hb.size
  have Y10 := Lib.hid (And.intro Y9.out Z11.out); clear Y9 Z11
  replace HD := HD.below hb
  replace HA := HA.below hb
  replace HX := HX.below hb
  replace HX1 := HX1.below hb
  replace HOA := HOA.below hb
  replace HX2 := HX2.below hb
  replace HA2 := HA2.below hb
  replace HX3 := HX3.below hb
  replace HX4 := HX4.below hb
  replace HOB := HOB.below hb
  replace HX5 := HX5.below hb
  replace HA3 := HA3.below hb
  replace HX6 := HX6.below hb
  replace HB := Lib.hid (below_step HB.out hb)
  clear hb
  have HOC := hk; clear hk
  have l8_0 := HX1.bx.lt
  have l8_1 := HX2.bx.lt
  have l8_2 := HX3.bx.lt
  have l8_3 := HX4.bx.lt
  have l8_4 := HX5.bx.lt
  have l8_5 := HX6.bx.lt
  go_wp2_with fail
  clear l8_0 l8_1 l8_2 l8_3 l8_4 l8_5
  refine Calls.name ?_
  intro U13 hU13
  have hb : Below w12.heap.size w12 U13 := by rw [hU13]; exact ((Below.refl _ _).alloc (Nat.le_refl _) _)
  have zz : Hid (w12.heap.size + 1 = U13.heap.size) := Lib.hid (by rw [hU13]; simp)
  have HX7 : Kept w12.heap.size (w12.heap.size + 1) (BoxK w12.heap.size 63 #[.int .i64 drc, .int .i64 dxc, .bool dpc, .slice Oc jc kc, .bool dtc, .slice Ec mc dc]) U13 := by rw [hU13]; exact Kept.box (Box.made_at _ _ _ rfl)
  replace HD := HD.below hb
  replace HA := HA.below hb
  replace HX := HX.below hb
  replace HX1 := HX1.below hb
  replace HOA := HOA.below hb
  replace HX2 := HX2.below hb
  replace HA2 := HA2.below hb
  replace HX3 := HX3.below hb
  replace HX4 := HX4.below hb
  replace HOB := HOB.below hb
  replace HX5 := HX5.below hb
  replace HA3 := HA3.below hb
  replace HX6 := HX6.below hb
  replace HOC := HOC.below hb
  replace HB := Lib.hid (below_step HB.out hb)
  clear hb
  have Z12 := zz; clear zz
  have Y11 := Lib.hid (And.intro Y10.out Z12.out); clear Y10 Z12
  clear hU13
  refine (drawNewQueue_any A0 n0 c0 cs _ HD.out HBY.out hn).mono ?_
  rintro e w14 ⟨va, rfl, hb⟩
  have Z13 := Lib.hid hb.size
  have Y12 := Lib.hid (And.intro Y11.out Z13.out); clear Y11 Z13
  replace HD := HD.below hb
  replace HA := HA.below hb
  replace HX := HX.below hb
  replace HX1 := HX1.below hb
  replace HOA := HOA.below hb
  replace HX2 := HX2.below hb
  replace HA2 := HA2.below hb
  replace HX3 := HX3.below hb
  replace HX4 := HX4.below hb
  replace HOB := HOB.below hb
  replace HX5 := HX5.below hb
  replace HA3 := HA3.below hb
  replace HX6 := HX6.below hb
  replace HOC := HOC.below hb
  replace HX7 := HX7.below hb
  replace HB := Lib.hid (below_step HB.out hb)
  clear hb
  have l9_0 := HX1.bx.lt
  have l9_1 := HX2.bx.lt
  have l9_2 := HX3.bx.lt
  have l9_3 := HX4.bx.lt
  have l9_4 := HX5.bx.lt
  have l9_5 := HX6.bx.lt
  have l9_6 := HX7.bx.lt
  go_wp2_with fail
  clear l9_0 l9_1 l9_2 l9_3 l9_4 l9_5 l9_6
  refine (drawSameQ_any A0 n0 c0 cs _ HD.out HBY.out hn).mono ?_
  rintro e w15 ⟨cap4, mk4, H, m4, d4, ys4, cap5, mk5, H2, m5, d5, ys5, rfl, hos, ho2, hm164, hm165, hb⟩
  have Z14 := Lib.hid hb.size
  have Y13 := Lib.hid (And.intro Y12.out Z14.out); clear Y12 Z14
  replace HD := HD.below hb
  replace HA := HA.below hb
  replace HX := HX.below hb
  replace HX1 := HX1.below hb
  replace HOA := HOA.below hb
  replace HX2 := HX2.below hb
  replace HA2 := HA2.below hb
  replace HX3 := HX3.below hb
  replace HX4 := HX4.below hb
  replace HOB := HOB.below hb
  replace HX5 := HX5.below hb
  replace HA3 := HA3.below hb
  replace HX6 := HX6.below hb
  replace HOC := HOC.below hb
  replace HX7 := HX7.below hb
  replace HB := Lib.hid (below_step HB.out hb)
  clear hb
  have HA4 := Rep.Sl.kept (own_items hos.ownF) (Nat.le_refl _); clear hos
  have HA5 := Rep.Sl.kept (own_items ho2.ownF) (Nat.le_refl _); clear ho2
  have l10_0 := HX1.bx.lt
  have l10_1 := HX2.bx.lt
  have l10_2 := HX3.bx.lt
  have l10_3 := HX4.bx.lt
  have l10_4 := HX5.bx.lt
  have l10_5 := HX6.bx.lt
  have l10_6 := HX7.bx.lt
  go_wp2_with fail
  clear l10_0 l10_1 l10_2 l10_3 l10_4 l10_5 l10_6
  refine Code.wp_name ?_
  intro U16 hU16
  have hb : Below w15.heap.size w15 U16 := by rw [hU16]; exact (((Below.refl _ _).alloc (Nat.le_refl _) _).alloc (by simp <;> omega) _)
  have zz : Hid (w15.heap.size + 2 = U16.heap.size) := Lib.hid (by rw [hU16]; simp)
  have HX8 : Kept w15.heap.size (w15.heap.size + 1) (BoxK w15.heap.size 59 #[.int .i64 cap4, .bool mk4, .slice H m4 d4]) U16 := by rw [hU16]; exact Kept.box ((Box.made_at _ _ _ rfl).over _)
  have HX9 : Kept (w15.heap.size + 1) (w15.heap.size + 1 + 1) (BoxK (w15.heap.size + 1) 59 #[.int .i64 cap5, .bool mk5, .slice H2 m5 d5]) U16 := by rw [hU16]; exact Kept.box (Box.made_at _ _ _ (by simp <;> omega))
  replace HD := HD.below hb
  replace HA := HA.below hb
  replace HX := HX.below hb
  replace HX1 := HX1.below hb
  replace HOA := HOA.below hb
  replace HX2 := HX2.below hb
  replace HA2 := HA2.below hb
  replace HX3 := HX3.below hb
  replace HX4 := HX4.below hb
  replace HOB := HOB.below hb
  replace HX5 := HX5.below hb
  replace HA3 := HA3.below hb
  replace HX6 := HX6.below hb
  replace HOC := HOC.below hb
  replace HX7 := HX7.below hb
  replace HA4 := HA4.below hb
  replace HA5 := HA5.below hb
  replace HB := Lib.hid (below_step HB.out hb)
  clear hb
  have Z15 := zz; clear zz
  have Y14 := Lib.hid (And.intro Y13.out Z15.out); clear Y13 Z15
  clear hU16
  obtain ⟨vc, hr⟩ : ∃ z, nqC va = z := ⟨_, rfl⟩
  have HRvc := Lib.hid hr; clear hr
  obtain ⟨vw, hr⟩ : ∃ z, nqV va = z := ⟨_, rfl⟩
  have HRvw := Lib.hid hr; clear hr
  obtain ⟨fr, hr⟩ : ∃ z, qf cap ys = z := ⟨_, rfl⟩
  have HRfr := Lib.hid hr; clear hr
  obtain ⟨r4, hr4⟩ : ∃ r : Bool, r = true ↔ (cap4 = cap5 ∧ mk4 = mk5 ∧ ys4 = ys5) := by by_cases h : (cap4 = cap5 ∧ mk4 = mk5 ∧ ys4 = ys5); exact ⟨true, by simp [h]⟩; exact ⟨false, by simp [h]⟩
  have HR4 := Lib.hid hr4; clear hr4
  have hmc : mc ≤ 1048576 := by have := HOC.q_items.1; have := (pp_bd cap3 mk3 ys3).2; rw [HRdzc.out] at this; omega
  have hja8 : ja ≤ 1048576 := by have := HOA.q_list.1; have := (pa_bd cap mk ys xs).1; rw [HRdua.out] at this; omega
  have hq0 : (dra != dra) = false := by simp
  have hq1 : (drb != drb) = false := by simp
  have hq2 : (drc != drc) = false := by simp
  have hq3 : (vc != vc) = false := by simp
  have hq4 : (fr != fr) = false := by simp
  have hq5 : (dtc != dtc) = false := by simp
  have hq6 : (r4 != r4) = false := by simp
  simp only [List.append_eq, List.cons_append, List.nil_append]
  go_cut [124] (fun t wx => t = .bool false ∧ Hid (Below U16.heap.size U16 wx))
  case first =>
    as_aux_lemma =>
      have HCB := Lib.hid (Below.refl U16.heap.size U16)
      have SB : Hid (∀ W, Hid (Below U16.heap.size U16 W) → (fun W => W.cell? ⟨w2.heap.size, 0, none⟩ = some (.int .i64 cap) ∧ W.cell? ⟨w2.heap.size, 1, none⟩ = some (.bool mk) ∧ W.cell? ⟨w2.heap.size, 2, none⟩ = some (.slice E m d) ∧ W.cell? ⟨w4.heap.size, 0, none⟩ = some (.int .i64 dra) ∧ W.cell? ⟨w4.heap.size, 1, none⟩ = some (.int .i64 dxa) ∧ W.cell? ⟨w4.heap.size, 2, none⟩ = some (.bool dpa) ∧ W.cell? ⟨w4.heap.size, 3, none⟩ = some (.slice Oa ja ka) ∧ W.cell? ⟨w4.heap.size, 4, none⟩ = some (.bool dta) ∧ W.cell? ⟨w4.heap.size, 5, none⟩ = some (.slice Ea ma da) ∧ W.cell? ⟨w6.heap.size, 0, none⟩ = some (.int .i64 cap2) ∧ W.cell? ⟨w6.heap.size, 1, none⟩ = some (.bool mk2) ∧ W.cell? ⟨w6.heap.size, 2, none⟩ = some (.slice F m2 d2) ∧ W.cell? ⟨w6.heap.size + 1, 0, none⟩ = some (.int .i64 xa) ∧ W.cell? ⟨w6.heap.size + 1, 1, none⟩ = some (.int .i64 xb) ∧ W.cell? ⟨w6.heap.size + 1, 2, none⟩ = some (.int .i64 xc) ∧ W.cell? ⟨w6.heap.size + 1, 3, none⟩ = some (.int .i64 xd) ∧ W.cell? ⟨w8.heap.size, 0, none⟩ = some (.int .i64 drb) ∧ W.cell? ⟨w8.heap.size, 1, none⟩ = some (.int .i64 dxb) ∧ W.cell? ⟨w8.heap.size, 2, none⟩ = some (.bool dpb) ∧ W.cell? ⟨w8.heap.size, 3, none⟩ = some (.slice Ob jb kb) ∧ W.cell? ⟨w8.heap.size, 4, none⟩ = some (.bool dtb) ∧ W.cell? ⟨w8.heap.size, 5, none⟩ = some (.slice Eb mb db) ∧ W.cell? ⟨w10.heap.size, 0, none⟩ = some (.int .i64 cap3) ∧ W.cell? ⟨w10.heap.size, 1, none⟩ = some (.bool mk3) ∧ W.cell? ⟨w10.heap.size, 2, none⟩ = some (.slice G m3 d3) ∧ W.cell? ⟨w12.heap.size, 0, none⟩ = some (.int .i64 drc) ∧ W.cell? ⟨w12.heap.size, 1, none⟩ = some (.int .i64 dxc) ∧ W.cell? ⟨w12.heap.size, 2, none⟩ = some (.bool dpc) ∧ W.cell? ⟨w12.heap.size, 3, none⟩ = some (.slice Oc jc kc) ∧ W.cell? ⟨w12.heap.size, 4, none⟩ = some (.bool dtc) ∧ W.cell? ⟨w12.heap.size, 5, none⟩ = some (.slice Ec mc dc) ∧ W.cell? ⟨w15.heap.size, 0, none⟩ = some (.int .i64 cap4) ∧ W.cell? ⟨w15.heap.size, 1, none⟩ = some (.bool mk4) ∧ W.cell? ⟨w15.heap.size, 2, none⟩ = some (.slice H m4 d4) ∧ W.cell? ⟨w15.heap.size + 1, 0, none⟩ = some (.int .i64 cap5) ∧ W.cell? ⟨w15.heap.size + 1, 1, none⟩ = some (.bool mk5) ∧ W.cell? ⟨w15.heap.size + 1, 2, none⟩ = some (.slice H2 m5 d5)) W) := fun W h => ⟨(HX1.below h.out).look 0, (HX1.below h.out).look 1, (HX1.below h.out).look 2, (HX2.below h.out).look 0, (HX2.below h.out).look 1, (HX2.below h.out).look 2, (HX2.below h.out).look 3, (HX2.below h.out).look 4, (HX2.below h.out).look 5, (HX3.below h.out).look 0, (HX3.below h.out).look 1, (HX3.below h.out).look 2, (HX4.below h.out).look 0, (HX4.below h.out).look 1, (HX4.below h.out).look 2, (HX4.below h.out).look 3, (HX5.below h.out).look 0, (HX5.below h.out).look 1, (HX5.below h.out).look 2, (HX5.below h.out).look 3, (HX5.below h.out).look 4, (HX5.below h.out).look 5, (HX6.below h.out).look 0, (HX6.below h.out).look 1, (HX6.below h.out).look 2, (HX7.below h.out).look 0, (HX7.below h.out).look 1, (HX7.below h.out).look 2, (HX7.below h.out).look 3, (HX7.below h.out).look 4, (HX7.below h.out).look 5, (HX8.below h.out).look 0, (HX8.below h.out).look 1, (HX8.below h.out).look 2, (HX9.below h.out).look 0, (HX9.below h.out).look 1, (HX9.below h.out).look 2⟩
      have V0 : Hid (Below U16.heap.size U16 U16.drew) := (Below.refl _ _).drew
      go_region_held3 (fun W => W.cell? ⟨w2.heap.size, 0, none⟩ = some (.int .i64 cap) ∧ W.cell? ⟨w2.heap.size, 1, none⟩ = some (.bool mk) ∧ W.cell? ⟨w2.heap.size, 2, none⟩ = some (.slice E m d) ∧ W.cell? ⟨w4.heap.size, 0, none⟩ = some (.int .i64 dra) ∧ W.cell? ⟨w4.heap.size, 1, none⟩ = some (.int .i64 dxa) ∧ W.cell? ⟨w4.heap.size, 2, none⟩ = some (.bool dpa) ∧ W.cell? ⟨w4.heap.size, 3, none⟩ = some (.slice Oa ja ka) ∧ W.cell? ⟨w4.heap.size, 4, none⟩ = some (.bool dta) ∧ W.cell? ⟨w4.heap.size, 5, none⟩ = some (.slice Ea ma da) ∧ W.cell? ⟨w6.heap.size, 0, none⟩ = some (.int .i64 cap2) ∧ W.cell? ⟨w6.heap.size, 1, none⟩ = some (.bool mk2) ∧ W.cell? ⟨w6.heap.size, 2, none⟩ = some (.slice F m2 d2) ∧ W.cell? ⟨w6.heap.size + 1, 0, none⟩ = some (.int .i64 xa) ∧ W.cell? ⟨w6.heap.size + 1, 1, none⟩ = some (.int .i64 xb) ∧ W.cell? ⟨w6.heap.size + 1, 2, none⟩ = some (.int .i64 xc) ∧ W.cell? ⟨w6.heap.size + 1, 3, none⟩ = some (.int .i64 xd) ∧ W.cell? ⟨w8.heap.size, 0, none⟩ = some (.int .i64 drb) ∧ W.cell? ⟨w8.heap.size, 1, none⟩ = some (.int .i64 dxb) ∧ W.cell? ⟨w8.heap.size, 2, none⟩ = some (.bool dpb) ∧ W.cell? ⟨w8.heap.size, 3, none⟩ = some (.slice Ob jb kb) ∧ W.cell? ⟨w8.heap.size, 4, none⟩ = some (.bool dtb) ∧ W.cell? ⟨w8.heap.size, 5, none⟩ = some (.slice Eb mb db) ∧ W.cell? ⟨w10.heap.size, 0, none⟩ = some (.int .i64 cap3) ∧ W.cell? ⟨w10.heap.size, 1, none⟩ = some (.bool mk3) ∧ W.cell? ⟨w10.heap.size, 2, none⟩ = some (.slice G m3 d3) ∧ W.cell? ⟨w12.heap.size, 0, none⟩ = some (.int .i64 drc) ∧ W.cell? ⟨w12.heap.size, 1, none⟩ = some (.int .i64 dxc) ∧ W.cell? ⟨w12.heap.size, 2, none⟩ = some (.bool dpc) ∧ W.cell? ⟨w12.heap.size, 3, none⟩ = some (.slice Oc jc kc) ∧ W.cell? ⟨w12.heap.size, 4, none⟩ = some (.bool dtc) ∧ W.cell? ⟨w12.heap.size, 5, none⟩ = some (.slice Ec mc dc) ∧ W.cell? ⟨w15.heap.size, 0, none⟩ = some (.int .i64 cap4) ∧ W.cell? ⟨w15.heap.size, 1, none⟩ = some (.bool mk4) ∧ W.cell? ⟨w15.heap.size, 2, none⟩ = some (.slice H m4 d4) ∧ W.cell? ⟨w15.heap.size + 1, 0, none⟩ = some (.int .i64 cap5) ∧ W.cell? ⟨w15.heap.size + 1, 1, none⟩ = some (.bool mk5) ∧ W.cell? ⟨w15.heap.size + 1, 2, none⟩ = some (.slice H2 m5 d5)) (exact SB.out _ (by assumption))
        (first | (go_at_call 48; ((with_reducible refine (specPushAll_any cap mk _ _ _ E m d ys _ _ _ I n1 c1 xs _ (HA.below V0.out).sl (HA.below V0.out).le (by omega) (HX.below V0.out).sl (HX.below V0.out).le (by omega)).mono ?_); rw [HRdra.out, HRdxa.out, HRdpa.out, HRdua.out, HRdta.out, HRdza.out]; rintro e u1_0 ⟨Ot1, jt1, kt1, Et1, mt1, dt1, rfl, hk, hb⟩; have V1 := Lib.hid (below_step V0.out hb); clear hb; clear hk)) | (go_at_call 48; ((with_reducible refine (specPushAll_any cap mk _ _ _ E m d ys _ _ _ I n1 c1 xs _ (HA.below V1.out).sl (HA.below V1.out).le (by omega) (HX.below V1.out).sl (HX.below V1.out).le (by omega)).mono ?_); rw [HRdra.out, HRdxa.out, HRdpa.out, HRdua.out, HRdta.out, HRdza.out]; rintro e u1_1 ⟨Ot2, jt2, kt2, Et2, mt2, dt2, rfl, hk, hb⟩; have V2 := Lib.hid (below_step V1.out hb); clear hb; have HS2 := hk; clear hk; have hjt2 : jt2 ≤ 1048576 := (by have := HS2.q_list.1; have := HOA.q_list.1; omega))) | (go_at_call 49; ((with_reducible refine (sameQueues_any dxa dxa dpa dpa _ _ _ _ _ _ Oa Ot2 ja jt2 ka kt2 dua dua true _ (HOA.below V2.out).q_list HS2.q_list (HOA.below V2.out).le HS2.le hja8 hjt2 (rfl3 dxa dpa dua)).mono ?_); rintro e u1_2 ⟨rfl, hb⟩; have V3 := Lib.hid (below_step V2.out hb); clear hb)) | (go_at_call 50; ((with_reducible refine (specPushItem_any cap2 mk2 _ _ _ F m2 d2 ys2 ⟨xa, xb, xc, xd⟩ _ (HA2.below V3.out).sl (HA2.below V3.out).le (by omega)).mono ?_); rw [HRdrb.out, HRdxb.out, HRdpb.out, HRdub.out, HRdtb.out, HRdzb.out]; rintro e u1_3 ⟨Ot4, jt4, kt4, Et4, mt4, dt4, rfl, hk, hb⟩; have V4 := Lib.hid (below_step V3.out hb); clear hb; clear hk)) | (go_at_call 51; ((with_reducible refine (specPopItem_any cap3 mk3 _ _ _ G m3 d3 ys3 _ (HA3.below V4.out).sl (HA3.below V4.out).le (by omega)).mono ?_); rw [HRdrc.out, HRdxc.out, HRdpc.out, HRduc.out, HRdtc.out, HRdzc.out]; rintro e u1_4 ⟨Ot5, jt5, kt5, Et5, mt5, dt5, rfl, hk, hb⟩; have V5 := Lib.hid (below_step V4.out hb); clear hb; clear hk)) | (go_at_call 51; ((with_reducible refine (specPopItem_any cap3 mk3 _ _ _ G m3 d3 ys3 _ (HA3.below V5.out).sl (HA3.below V5.out).le (by omega)).mono ?_); rw [HRdrc.out, HRdxc.out, HRdpc.out, HRduc.out, HRdtc.out, HRdzc.out]; rintro e u1_5 ⟨Ot6, jt6, kt6, Et6, mt6, dt6, rfl, hk, hb⟩; have V6 := Lib.hid (below_step V5.out hb); clear hb; clear hk)) | (go_at_call 51; ((with_reducible refine (specPopItem_any cap3 mk3 _ _ _ G m3 d3 ys3 _ (HA3.below V6.out).sl (HA3.below V6.out).le (by omega)).mono ?_); rw [HRdrc.out, HRdxc.out, HRdpc.out, HRduc.out, HRdtc.out, HRdzc.out]; rintro e u1_6 ⟨Ot7, jt7, kt7, Et7, mt7, dt7, rfl, hk, hb⟩; have V7 := Lib.hid (below_step V6.out hb); clear hb; have HS7 := hk; clear hk)) | (go_at_call 52; ((with_reducible refine (lwItems_two _ _ _ _ _ _ Ec Et7 mc dc mt7 dt7 dzc dzc rfl _ (HOC.below V7.out).q_items HS7.q_items (HOC.below V7.out).le HS7.le hmc).mono ?_); rintro e u1_7 ⟨rfl, hb⟩; have V8 := Lib.hid (below_step V7.out hb); clear hb)) | (go_at_call 53; ((with_reducible refine (newQueue_any va _).mono ?_); rw [HRvc.out, HRvw.out]; rintro e u1_8 ⟨Ot8, jt8, kt8, Et8, mt8, dt8, rfl, hk, hb⟩; have V9 := Lib.hid (below_step V8.out hb); clear hb; clear hk)) | (go_at_call 54; ((with_reducible refine (specNewQueue_any va _).mono ?_); rw [HRvc.out, HRvw.out]; rintro e u1_9 ⟨Ot9, jt9, kt9, Et9, mt9, dt9, rfl, hk, hb⟩; have V10 := Lib.hid (below_step V9.out hb); clear hb; clear hk)) | (go_at_call 49; ((with_reducible refine (sameQueues_any cap4 cap5 mk4 mk5 _ _ _ _ _ _ H H2 m4 m5 d4 d5 ys4 ys5 r4 _ (HA4.below V10.out).sl (HA5.below V10.out).sl (HA4.below V10.out).le (HA5.below V10.out).le (by omega) (by omega) HR4.out).mono ?_); rintro e u1_10 ⟨rfl, hb⟩; have V11 := Lib.hid (below_step V10.out hb); clear hb)) | (go_at_call 55; ((with_reducible refine (specSameQueues_any cap4 cap5 mk4 mk5 _ _ _ _ _ _ H H2 m4 m5 d4 d5 ys4 ys5 r4 _ (HA4.below V11.out).sl (HA5.below V11.out).sl (HA4.below V11.out).le (HA5.below V11.out).le (by omega) (by omega) HR4.out).mono ?_); rintro e u1_11 ⟨rfl, hb⟩; have V12 := Lib.hid (below_step V11.out hb); clear hb)) | (go_at_call 56; ((with_reducible refine (queueFault_any cap mk _ _ _ E m d ys _ (HA.below V12.out).sl (HA.below V12.out).le (by omega) hmd).mono ?_); rw [HRfr.out]; rintro e u1_12 ⟨rfl, hb⟩; have V13 := Lib.hid (below_step V12.out hb); clear hb)) | (go_at_call 57; ((with_reducible refine (specQueueFault_any cap mk _ _ _ E m d ys _ (HA.below V13.out).sl (HA.below V13.out).le (by omega)).mono ?_); rw [HRfr.out]; rintro e u1_13 ⟨rfl, hb⟩; have V14 := Lib.hid (below_step V13.out hb); clear hb)))
      have hb := V14.out
      clear SB V0 V1 V2 V3 V4 V5 V6 V7 V8 V9 V10 V11 V12 V13 V14
      have Z16 := Lib.hid hb.size
      have Y15 := Lib.hid (And.intro Y14.out Z16.out); clear Y14 Z16
      replace HD := HD.below hb
      replace HA := HA.below hb
      replace HX := HX.below hb
      replace HX1 := HX1.below hb
      replace HOA := HOA.below hb
      replace HX2 := HX2.below hb
      replace HA2 := HA2.below hb
      replace HX3 := HX3.below hb
      replace HX4 := HX4.below hb
      replace HOB := HOB.below hb
      replace HX5 := HX5.below hb
      replace HA3 := HA3.below hb
      replace HX6 := HX6.below hb
      replace HOC := HOC.below hb
      replace HX7 := HX7.below hb
      replace HA4 := HA4.below hb
      replace HA5 := HA5.below hb
      replace HX8 := HX8.below hb
      replace HX9 := HX9.below hb
      replace HCB := Lib.hid (below_step HCB.out hb)
      clear hb
      go_wp2_with fail
      go_meet
      exact ⟨rfl, HCB⟩
  obtain ⟨rfl, HC⟩ := hcut
  obtain ⟨wx11, rfl⟩ : ∃ W : World, W = wc := ⟨_, rfl⟩
  have hb := HC.out
  clear HC
  have Z16 := Lib.hid hb.size
  have Y15 := Lib.hid (And.intro Y14.out Z16.out); clear Y14 Z16
  replace HD := HD.below hb
  replace HA := HA.below hb
  replace HX := HX.below hb
  replace HX1 := HX1.below hb
  replace HOA := HOA.below hb
  replace HX2 := HX2.below hb
  replace HA2 := HA2.below hb
  replace HX3 := HX3.below hb
  replace HX4 := HX4.below hb
  replace HOB := HOB.below hb
  replace HX5 := HX5.below hb
  replace HA3 := HA3.below hb
  replace HX6 := HX6.below hb
  replace HOC := HOC.below hb
  replace HX7 := HX7.below hb
  replace HA4 := HA4.below hb
  replace HA5 := HA5.below hb
  replace HX8 := HX8.below hb
  replace HX9 := HX9.below hb
  replace HB := Lib.hid (below_step HB.out hb)
  clear hb
  have l11_0 := HX1.bx.lt
  have l11_1 := HX2.bx.lt
  have l11_2 := HX3.bx.lt
  have l11_3 := HX4.bx.lt
  have l11_4 := HX5.bx.lt
  have l11_5 := HX6.bx.lt
  have l11_6 := HX7.bx.lt
  have l11_7 := HX8.bx.lt
  have l11_8 := HX9.bx.lt
  go_wp2_with fail
  clear l11_0 l11_1 l11_2 l11_3 l11_4 l11_5 l11_6 l11_7 l11_8
  go_cut [164] (fun t wx => t = .bool false ∧ Hid (Below wx11.heap.size wx11 wx))
  case first =>
    as_aux_lemma =>
      by_cases hd : drb = 0
      · have hit := item_in (x := (⟨xa, xb, xc, xd⟩ : Tmr)) (HRdrb.out.trans hd)
        rw [HRdxb.out, HRdub.out, HRdpb.out] at hit
        obtain ⟨hq0, ⟨us, hus⟩, hmk⟩ := hit
        have HQ0 := Lib.hid hq0; clear hq0
        have hjb8 : jb ≤ 1048576 := by have := HOB.q_list.1; have := (pa_bd cap2 mk2 ys2 [(⟨xa, xb, xc, xd⟩ : Tmr)]).1; rw [HRdub.out] at this; omega
        have hol := HOB.q_list.1
        obtain ⟨p, hp⟩ : ∃ p, jb = p + 1 := ⟨jb - 1, by rw [hus] at hol; simp at hol; omega⟩
        obtain ⟨bo, oo, al, hOb, hal, b0, b1, b2, b3⟩ := Rep.timer_at HOB.q_list (k := p) (by omega)
        have hel : al = ⟨xa, xb, xc, xd⟩ := by
          rw [hus] at hal hol
          simp at hol
          rw [List.getElem?_append_right (by omega), show p - us.length = 0 by omega] at hal
          simp at hal; exact hal.symm
        subst hel
        subst hOb
        simp only [] at b0 b1 b2 b3
        have hd1 : (drb == 0) = true := by simpa using hd
        have hz : ((jb : Int) == 0) = false := by rw [beq_eq_false_iff_ne]; omega
        have hw : IntKind.i64.wrap ((jb : Int) - 1) = (p : Int) := by rw [IntWalk.i64_in _ (by omega)]; omega
        have hp1 : (p : Int) < (jb : Int) := by omega
        have hp0 : (0 : Int) ≤ (p : Int) := by omega
        have hqb : jb ≤ 1048576 := hjb8
        have hqk : jb ≤ kb := hjb
        have V0 : Hid (Below wx11.heap.size wx11 wx11.drew) := (Below.refl _ _).drew
        clear hus hal hol hd hp
        cases mk2 with
        | true =>
          have hdp : dpb = true := hmk rfl
          subst hdp
          clear hmk
          have SB : Hid (∀ W, Hid (Below wx11.heap.size wx11 W) → (fun W => W.cell? ⟨w8.heap.size, 0, none⟩ = some (.int .i64 drb) ∧ W.cell? ⟨w8.heap.size, 1, none⟩ = some (.int .i64 dxb) ∧ W.cell? ⟨w8.heap.size, 2, none⟩ = some (.bool true) ∧ W.cell? ⟨w8.heap.size, 3, none⟩ = some (.slice (some ⟨bo, oo, none⟩) jb kb) ∧ W.cell? ⟨w8.heap.size, 4, none⟩ = some (.bool dtb) ∧ W.cell? ⟨w8.heap.size, 5, none⟩ = some (.slice Eb mb db) ∧ W.cell? ⟨w6.heap.size + 1, 0, none⟩ = some (.int .i64 xa) ∧ W.cell? ⟨w6.heap.size + 1, 1, none⟩ = some (.int .i64 xb) ∧ W.cell? ⟨w6.heap.size + 1, 2, none⟩ = some (.int .i64 xc) ∧ W.cell? ⟨w6.heap.size + 1, 3, none⟩ = some (.int .i64 xd) ∧ W.cell? ⟨w6.heap.size, 0, none⟩ = some (.int .i64 cap2) ∧ W.cell? ⟨w6.heap.size, 1, none⟩ = some (.bool true) ∧ W.cell? ⟨w6.heap.size, 2, none⟩ = some (.slice F m2 d2) ∧ W.cell? ⟨bo, oo + p * 4, none⟩ = some (.int .i64 xa) ∧ W.cell? ⟨bo, oo + p * 4 + 1, none⟩ = some (.int .i64 xb) ∧ W.cell? ⟨bo, oo + p * 4 + 2, none⟩ = some (.int .i64 xc) ∧ W.cell? ⟨bo, oo + p * 4 + 3, none⟩ = some (.int .i64 xd)) W) := fun W h => ⟨(HX5.below h.out).look 0, (HX5.below h.out).look 1, (HX5.below h.out).look 2, (HX5.below h.out).look 3, (HX5.below h.out).look 4, (HX5.below h.out).look 5, (HX4.below h.out).look 0, (HX4.below h.out).look 1, (HX4.below h.out).look 2, (HX4.below h.out).look 3, (HX3.below h.out).look 0, (HX3.below h.out).look 1, (HX3.below h.out).look 2, (h.out.cell (World.block_lt_of_cell? wx11 _ b0)).trans b0, (h.out.cell (World.block_lt_of_cell? wx11 _ b1)).trans b1, (h.out.cell (World.block_lt_of_cell? wx11 _ b2)).trans b2, (h.out.cell (World.block_lt_of_cell? wx11 _ b3)).trans b3⟩
          clear b0 b1 b2 b3
          go_region_held3 (fun W => W.cell? ⟨w8.heap.size, 0, none⟩ = some (.int .i64 drb) ∧ W.cell? ⟨w8.heap.size, 1, none⟩ = some (.int .i64 dxb) ∧ W.cell? ⟨w8.heap.size, 2, none⟩ = some (.bool true) ∧ W.cell? ⟨w8.heap.size, 3, none⟩ = some (.slice (some ⟨bo, oo, none⟩) jb kb) ∧ W.cell? ⟨w8.heap.size, 4, none⟩ = some (.bool dtb) ∧ W.cell? ⟨w8.heap.size, 5, none⟩ = some (.slice Eb mb db) ∧ W.cell? ⟨w6.heap.size + 1, 0, none⟩ = some (.int .i64 xa) ∧ W.cell? ⟨w6.heap.size + 1, 1, none⟩ = some (.int .i64 xb) ∧ W.cell? ⟨w6.heap.size + 1, 2, none⟩ = some (.int .i64 xc) ∧ W.cell? ⟨w6.heap.size + 1, 3, none⟩ = some (.int .i64 xd) ∧ W.cell? ⟨w6.heap.size, 0, none⟩ = some (.int .i64 cap2) ∧ W.cell? ⟨w6.heap.size, 1, none⟩ = some (.bool true) ∧ W.cell? ⟨w6.heap.size, 2, none⟩ = some (.slice F m2 d2) ∧ W.cell? ⟨bo, oo + p * 4, none⟩ = some (.int .i64 xa) ∧ W.cell? ⟨bo, oo + p * 4 + 1, none⟩ = some (.int .i64 xb) ∧ W.cell? ⟨bo, oo + p * 4 + 2, none⟩ = some (.int .i64 xc) ∧ W.cell? ⟨bo, oo + p * 4 + 3, none⟩ = some (.int .i64 xd)) (first | (with_reducible exact SB.out _ V0) | (with_reducible exact SB.out _ V1))
                (first | (go_at_call 56; ((with_reducible refine (queueFault_any dxb true _ _ _ _ jb kb dub _ (HOB.below V0.out).q_list (HOB.below V0.out).le hqb hqk).mono ?_); rw [HQ0.out]; rintro e uq ⟨rfl, hb⟩; have V1 := Lib.hid (below_step V0.out hb); clear hb)))
          all_goals (go_wp2_with fail; go_meet; exact ⟨rfl, V1⟩)
        | false =>
          clear hmk V0
          have HBB0 := Lib.hid b0
          have HBB1 := Lib.hid b1
          have HBB2 := Lib.hid b2
          have HBB3 := Lib.hid b3
          clear b0 b1 b2 b3
          have SB : Hid (∀ W, Hid (Below wx11.heap.size wx11 W) → (fun W => W.cell? ⟨w8.heap.size, 0, none⟩ = some (.int .i64 drb) ∧ W.cell? ⟨w8.heap.size, 1, none⟩ = some (.int .i64 dxb) ∧ W.cell? ⟨w8.heap.size, 2, none⟩ = some (.bool dpb) ∧ W.cell? ⟨w8.heap.size, 3, none⟩ = some (.slice (some ⟨bo, oo, none⟩) jb kb) ∧ W.cell? ⟨w8.heap.size, 4, none⟩ = some (.bool dtb) ∧ W.cell? ⟨w8.heap.size, 5, none⟩ = some (.slice Eb mb db) ∧ W.cell? ⟨w6.heap.size + 1, 0, none⟩ = some (.int .i64 xa) ∧ W.cell? ⟨w6.heap.size + 1, 1, none⟩ = some (.int .i64 xb) ∧ W.cell? ⟨w6.heap.size + 1, 2, none⟩ = some (.int .i64 xc) ∧ W.cell? ⟨w6.heap.size + 1, 3, none⟩ = some (.int .i64 xd) ∧ W.cell? ⟨w6.heap.size, 0, none⟩ = some (.int .i64 cap2) ∧ W.cell? ⟨w6.heap.size, 1, none⟩ = some (.bool false) ∧ W.cell? ⟨w6.heap.size, 2, none⟩ = some (.slice F m2 d2) ∧ W.cell? ⟨bo, oo + p * 4, none⟩ = some (.int .i64 xa) ∧ W.cell? ⟨bo, oo + p * 4 + 1, none⟩ = some (.int .i64 xb) ∧ W.cell? ⟨bo, oo + p * 4 + 2, none⟩ = some (.int .i64 xc) ∧ W.cell? ⟨bo, oo + p * 4 + 3, none⟩ = some (.int .i64 xd)) W) := fun W h => ⟨(HX5.below h.out).look 0, (HX5.below h.out).look 1, (HX5.below h.out).look 2, (HX5.below h.out).look 3, (HX5.below h.out).look 4, (HX5.below h.out).look 5, (HX4.below h.out).look 0, (HX4.below h.out).look 1, (HX4.below h.out).look 2, (HX4.below h.out).look 3, (HX3.below h.out).look 0, (HX3.below h.out).look 1, (HX3.below h.out).look 2, ((h.out.cell (World.block_lt_of_cell? wx11 _ HBB0.out)).trans HBB0.out), ((h.out.cell (World.block_lt_of_cell? wx11 _ HBB1.out)).trans HBB1.out), ((h.out.cell (World.block_lt_of_cell? wx11 _ HBB2.out)).trans HBB2.out), ((h.out.cell (World.block_lt_of_cell? wx11 _ HBB3.out)).trans HBB3.out)⟩
          have V0 : Hid (Below wx11.heap.size wx11 wx11.drew) := (Below.refl _ _).drew
          refine wp_region_held_drew (S := (fun W => W.cell? ⟨w8.heap.size, 0, none⟩ = some (.int .i64 drb) ∧ W.cell? ⟨w8.heap.size, 1, none⟩ = some (.int .i64 dxb) ∧ W.cell? ⟨w8.heap.size, 2, none⟩ = some (.bool dpb) ∧ W.cell? ⟨w8.heap.size, 3, none⟩ = some (.slice (some ⟨bo, oo, none⟩) jb kb) ∧ W.cell? ⟨w8.heap.size, 4, none⟩ = some (.bool dtb) ∧ W.cell? ⟨w8.heap.size, 5, none⟩ = some (.slice Eb mb db) ∧ W.cell? ⟨w6.heap.size + 1, 0, none⟩ = some (.int .i64 xa) ∧ W.cell? ⟨w6.heap.size + 1, 1, none⟩ = some (.int .i64 xb) ∧ W.cell? ⟨w6.heap.size + 1, 2, none⟩ = some (.int .i64 xc) ∧ W.cell? ⟨w6.heap.size + 1, 3, none⟩ = some (.int .i64 xd) ∧ W.cell? ⟨w6.heap.size, 0, none⟩ = some (.int .i64 cap2) ∧ W.cell? ⟨w6.heap.size, 1, none⟩ = some (.bool false) ∧ W.cell? ⟨w6.heap.size, 2, none⟩ = some (.slice F m2 d2) ∧ W.cell? ⟨bo, oo + p * 4, none⟩ = some (.int .i64 xa) ∧ W.cell? ⟨bo, oo + p * 4 + 1, none⟩ = some (.int .i64 xb) ∧ W.cell? ⟨bo, oo + p * 4 + 2, none⟩ = some (.int .i64 xc) ∧ W.cell? ⟨bo, oo + p * 4 + 3, none⟩ = some (.int .i64 xd))) (by kernel_rfl) ?_ (fun hHeld => ?_)
          · (try dsimp only); exact SB.out _ (by assumption)
          refine wpAnyH_take (i := 0) (v := ?v1_0) rfl (by kernel_rfl) (by kernel_rfl) (by kernel_rfl) (fun _ _ _ h => h) (Or.inl ⟨by rfl, ?hy1_0⟩) (by assumption) ?rest1_0
          case hy1_0 => (intro W hSw; (try dsimp only at hSw); (go_simp <;> with_reducible rfl))
          (try simp only [List.getElem_toArray, List.getElem_cons_zero, Act.put, List.setIfInBounds_toArray, List.set_cons_zero, List.set_cons_succ])
          refine wpAnyH_take (i := 1) (v := ?v1_1) rfl (by kernel_rfl) (by kernel_rfl) (by kernel_rfl) (fun _ _ _ h => h) (Or.inl ⟨by rfl, ?hy1_1⟩) (by assumption) ?rest1_1
          case hy1_1 => (intro W hSw; (try dsimp only at hSw); (go_simp <;> with_reducible rfl))
          (try simp only [List.getElem_toArray, List.getElem_cons_succ, List.getElem_cons_zero, Act.put, List.setIfInBounds_toArray, List.set_cons_zero, List.set_cons_succ])
          refine wpAnyH_take (i := 2) (v := ?v1_2) rfl (by kernel_rfl) (by kernel_rfl) (by kernel_rfl) (fun _ _ _ h => h) (Or.inl ⟨by rfl, ?hy1_2⟩) (by assumption) ?rest1_2
          case hy1_2 => (intro W hSw; (try dsimp only at hSw); (go_simp <;> with_reducible rfl))
          (try simp only [List.getElem_toArray, List.getElem_cons_succ, List.getElem_cons_zero, Act.put, List.setIfInBounds_toArray, List.set_cons_zero, List.set_cons_succ])
          refine wpAnyH_take (i := 3) (v := ?v1_3) rfl (by kernel_rfl) (by kernel_rfl) (by kernel_rfl) (fun _ _ _ h => h) (Or.inl ⟨by rfl, ?hy1_3⟩) (by assumption) ?rest1_3
          case hy1_3 => (intro W hSw; (try dsimp only at hSw); (go_simp <;> with_reducible rfl))
          (try simp only [List.getElem_toArray, List.getElem_cons_succ, List.getElem_cons_zero, Act.put, List.setIfInBounds_toArray, List.set_cons_zero, List.set_cons_succ])
          refine wpAnyH_take (i := 4) (v := ?v1_4) rfl (by kernel_rfl) (by kernel_rfl) (by kernel_rfl) (fun _ _ _ h => h) (Or.inl ⟨by rfl, ?hy1_4⟩) (by assumption) ?rest1_4
          case hy1_4 => (intro W hSw; (try dsimp only at hSw); (go_simp <;> with_reducible rfl))
          (try simp only [List.getElem_toArray, List.getElem_cons_succ, List.getElem_cons_zero, Act.put, List.setIfInBounds_toArray, List.set_cons_zero, List.set_cons_succ])
          refine wpAnyH_take (i := 5) (v := ?v1_5) rfl (by kernel_rfl) (by kernel_rfl) (by kernel_rfl) (fun _ _ _ h => h) (Or.inl ⟨by rfl, ?hy1_5⟩) (by assumption) ?rest1_5
          case hy1_5 => (intro W hSw; (try dsimp only at hSw); (go_simp <;> with_reducible rfl))
          (try simp only [List.getElem_toArray, List.getElem_cons_succ, List.getElem_cons_zero, Act.put, List.setIfInBounds_toArray, List.set_cons_zero, List.set_cons_succ])
          refine wpAnyH_ready (rs := [6]) (by kernel_rfl) (by simp) ?_
          refine AllReadyH.cons rfl (fun K hK => ?_) AllReadyH.nil
          go_simp
          with_reducible refine (queueFault_any dxb dpb _ _ _ _ jb kb dub _ (HOB.below V0.out).q_list (HOB.below V0.out).le hqb hqk).mono ?_
          rw [HQ0.out]
          rintro e u1_0 ⟨rfl, hb⟩
          have V1 := Lib.hid (below_step V0.out hb)
          clear hb
          (try go_wp2_with fail)
          refine hK.out _ _ ?_ (fun hHeld => ?_)
          · (try dsimp only); exact SB.out _ V1
          clear hK K
          (try simp only [List.getElem_toArray, List.getElem_cons_succ, List.getElem_cons_zero, Act.put, List.setIfInBounds_toArray, List.set_cons_zero, List.set_cons_succ])
          refine wpAnyH_take (i := 7) (v := ?v1_7) rfl (by kernel_rfl) (by kernel_rfl) (by kernel_rfl) (fun _ _ _ h => h) (Or.inl ⟨by rfl, ?hy1_7⟩) (by assumption) ?rest1_7
          case hy1_7 => (intro W hSw; (try dsimp only at hSw); (go_simp <;> with_reducible rfl))
          (try simp only [List.getElem_toArray, List.getElem_cons_succ, List.getElem_cons_zero, Act.put, List.setIfInBounds_toArray, List.set_cons_zero, List.set_cons_succ])
          refine wpAnyH_take (i := 8) (v := ?v1_8) rfl (by kernel_rfl) (by kernel_rfl) (by kernel_rfl) (fun _ _ _ h => h) (Or.inl ⟨by rfl, ?hy1_8⟩) (by assumption) ?rest1_8
          case hy1_8 => (intro W hSw; (try dsimp only at hSw); (go_simp <;> with_reducible rfl))
          (try simp only [List.getElem_toArray, List.getElem_cons_succ, List.getElem_cons_zero, Act.put, List.setIfInBounds_toArray, List.set_cons_zero, List.set_cons_succ])
          refine wpAnyH_take (i := 9) (v := ?v1_9) rfl (by kernel_rfl) (by kernel_rfl) (by kernel_rfl) (fun _ _ _ h => h) (Or.inl ⟨by rfl, ?hy1_9⟩) (by assumption) ?rest1_9
          case hy1_9 => (intro W hSw; (try dsimp only at hSw); (go_simp <;> with_reducible rfl))
          (try simp only [List.getElem_toArray, List.getElem_cons_succ, List.getElem_cons_zero, Act.put, List.setIfInBounds_toArray, List.set_cons_zero, List.set_cons_succ])
          refine wpAnyH_take (i := 10) (v := ?v1_10) rfl (by kernel_rfl) (by kernel_rfl) (by kernel_rfl) (fun _ _ _ h => h) (Or.inl ⟨by rfl, ?hy1_10⟩) (by assumption) ?rest1_10
          case hy1_10 => (intro W hSw; (try dsimp only at hSw); (go_simp <;> with_reducible rfl))
          (try simp only [List.getElem_toArray, List.getElem_cons_succ, List.getElem_cons_zero, Act.put, List.setIfInBounds_toArray, List.set_cons_zero, List.set_cons_succ])
          refine wpAnyH_take (i := 11) (v := ?v1_11) rfl (by kernel_rfl) (by kernel_rfl) (by kernel_rfl) (fun _ _ _ h => h) (Or.inl ⟨by rfl, ?hy1_11⟩) (by assumption) ?rest1_11
          case hy1_11 => (intro W hSw; (try dsimp only at hSw); (go_simp <;> with_reducible rfl))
          (try simp only [List.getElem_toArray, List.getElem_cons_succ, List.getElem_cons_zero, Act.put, List.setIfInBounds_toArray, List.set_cons_zero, List.set_cons_succ])
          refine wpAnyH_take (i := 12) (v := ?v1_12) rfl (by kernel_rfl) (by kernel_rfl) (by kernel_rfl) (fun _ _ _ h => h) (Or.inl ⟨by rfl, ?hy1_12⟩) (by assumption) ?rest1_12
          case hy1_12 => (intro W hSw; (try dsimp only at hSw); (go_simp <;> with_reducible rfl))
          (try simp only [List.getElem_toArray, List.getElem_cons_succ, List.getElem_cons_zero, Act.put, List.setIfInBounds_toArray, List.set_cons_zero, List.set_cons_succ])
          refine wpAnyH_take (i := 13) (v := ?v1_13) rfl (by kernel_rfl) (by kernel_rfl) (by kernel_rfl) (fun _ _ _ h => h) (Or.inl ⟨by rfl, ?hy1_13⟩) (by assumption) ?rest1_13
          case hy1_13 => (intro W hSw; (try dsimp only at hSw); (go_simp <;> with_reducible rfl))
          (try simp only [List.getElem_toArray, List.getElem_cons_succ, List.getElem_cons_zero, Act.put, List.setIfInBounds_toArray, List.set_cons_zero, List.set_cons_succ])
          refine wpAnyH_take (i := 14) (v := ?v1_14) rfl (by kernel_rfl) (by kernel_rfl) (by kernel_rfl) (fun _ _ _ h => h) (Or.inl ⟨by rfl, ?hy1_14⟩) (by assumption) ?rest1_14
          case hy1_14 => (intro W hSw; (try dsimp only at hSw); (go_simp <;> with_reducible rfl))
          (try simp only [List.getElem_toArray, List.getElem_cons_succ, List.getElem_cons_zero, Act.put, List.setIfInBounds_toArray, List.set_cons_zero, List.set_cons_succ])
          refine wpAnyH_take (i := 15) (v := ?v1_15) rfl (by kernel_rfl) (by kernel_rfl) (by kernel_rfl) (fun _ _ _ h => h) (Or.inl ⟨by rfl, ?hy1_15⟩) (by assumption) ?rest1_15
          case hy1_15 => (intro W hSw; (try dsimp only at hSw); (go_simp <;> with_reducible rfl))
          (try simp only [List.getElem_toArray, List.getElem_cons_succ, List.getElem_cons_zero, Act.put, List.setIfInBounds_toArray, List.set_cons_zero, List.set_cons_succ])
          refine wpAnyH_take (i := 16) (v := ?v1_16) rfl (by kernel_rfl) (by kernel_rfl) (by kernel_rfl) (fun _ _ _ h => h) (Or.inl ⟨by rfl, ?hy1_16⟩) (by assumption) ?rest1_16
          case hy1_16 => (intro W hSw; (try dsimp only at hSw); (go_simp <;> with_reducible rfl))
          (try simp only [List.getElem_toArray, List.getElem_cons_succ, List.getElem_cons_zero, Act.put, List.setIfInBounds_toArray, List.set_cons_zero, List.set_cons_succ])
          refine wpAnyH_take (i := 17) (v := ?v1_17) rfl (by kernel_rfl) (by kernel_rfl) (by kernel_rfl) (fun _ _ _ h => h) (Or.inl ⟨by rfl, ?hy1_17⟩) (by assumption) ?rest1_17
          case hy1_17 => (intro W hSw; (try dsimp only at hSw); (go_simp <;> with_reducible rfl))
          (try simp only [List.getElem_toArray, List.getElem_cons_succ, List.getElem_cons_zero, Act.put, List.setIfInBounds_toArray, List.set_cons_zero, List.set_cons_succ])
          refine wpAnyH_take (i := 18) (v := ?v1_18) rfl (by kernel_rfl) (by kernel_rfl) (by kernel_rfl) (fun _ _ _ h => h) (Or.inl ⟨by rfl, ?hy1_18⟩) (by assumption) ?rest1_18
          case hy1_18 => (intro W hSw; (try dsimp only at hSw); (go_simp <;> with_reducible rfl))
          (try simp only [List.getElem_toArray, List.getElem_cons_succ, List.getElem_cons_zero, Act.put, List.setIfInBounds_toArray, List.set_cons_zero, List.set_cons_succ])
          refine wpAnyH_take (i := 19) (v := ?v1_19) rfl (by kernel_rfl) (by kernel_rfl) (by kernel_rfl) (fun _ _ _ h => h) (Or.inl ⟨by rfl, ?hy1_19⟩) (by assumption) ?rest1_19
          case hy1_19 => (intro W hSw; (try dsimp only at hSw); (go_simp <;> with_reducible rfl))
          (try simp only [List.getElem_toArray, List.getElem_cons_succ, List.getElem_cons_zero, Act.put, List.setIfInBounds_toArray, List.set_cons_zero, List.set_cons_succ])
          refine wpAnyH_take (i := 20) (v := ?v1_20) rfl (by kernel_rfl) (by kernel_rfl) (by kernel_rfl) (fun _ _ _ h => h) (Or.inl ⟨by rfl, ?hy1_20⟩) (by assumption) ?rest1_20
          case hy1_20 => (intro W hSw; (try dsimp only at hSw); (go_simp <;> with_reducible rfl))
          (try simp only [List.getElem_toArray, List.getElem_cons_succ, List.getElem_cons_zero, Act.put, List.setIfInBounds_toArray, List.set_cons_zero, List.set_cons_succ])
          refine wpAnyH_take (i := 21) (v := ?v1_21) rfl (by kernel_rfl) (by kernel_rfl) (by kernel_rfl) (fun _ _ _ h => h) (Or.inl ⟨by rfl, ?hy1_21⟩) (by assumption) ?rest1_21
          case hy1_21 => (intro W hSw; (try dsimp only at hSw); (go_simp <;> with_reducible rfl))
          (try simp only [List.getElem_toArray, List.getElem_cons_succ, List.getElem_cons_zero, Act.put, List.setIfInBounds_toArray, List.set_cons_zero, List.set_cons_succ])
          refine wpAnyH_take (i := 22) (v := ?v1_22) rfl (by kernel_rfl) (by kernel_rfl) (by kernel_rfl) (fun _ _ _ h => h) (Or.inl ⟨by rfl, ?hy1_22⟩) (by assumption) ?rest1_22
          case hy1_22 => (intro W hSw; (try dsimp only at hSw); (go_simp <;> with_reducible rfl))
          (try simp only [List.getElem_toArray, List.getElem_cons_succ, List.getElem_cons_zero, Act.put, List.setIfInBounds_toArray, List.set_cons_zero, List.set_cons_succ])
          refine wpAnyH_take (i := 23) (v := ?v1_23) rfl (by kernel_rfl) (by kernel_rfl) (by kernel_rfl) (fun _ _ _ h => h) (Or.inl ⟨by rfl, ?hy1_23⟩) (by assumption) ?rest1_23
          case hy1_23 => (intro W hSw; (try dsimp only at hSw); (go_simp <;> with_reducible rfl))
          (try simp only [List.getElem_toArray, List.getElem_cons_succ, List.getElem_cons_zero, Act.put, List.setIfInBounds_toArray, List.set_cons_zero, List.set_cons_succ])
          refine wpAnyH_take (i := 24) (v := ?v1_24) rfl (by kernel_rfl) (by kernel_rfl) (by kernel_rfl) (fun _ _ _ h => h) (Or.inl ⟨by rfl, ?hy1_24⟩) (by assumption) ?rest1_24
          case hy1_24 => (intro W hSw; (try dsimp only at hSw); (go_simp <;> with_reducible rfl))
          (try simp only [List.getElem_toArray, List.getElem_cons_succ, List.getElem_cons_zero, Act.put, List.setIfInBounds_toArray, List.set_cons_zero, List.set_cons_succ])
          refine wpAnyH_take (i := 25) (v := ?v1_25) rfl (by kernel_rfl) (by kernel_rfl) (by kernel_rfl) (fun _ _ _ h => h) (Or.inl ⟨by rfl, ?hy1_25⟩) (by assumption) ?rest1_25
          case hy1_25 => (intro W hSw; (try dsimp only at hSw); (go_simp <;> with_reducible rfl))
          (try simp only [List.getElem_toArray, List.getElem_cons_succ, List.getElem_cons_zero, Act.put, List.setIfInBounds_toArray, List.set_cons_zero, List.set_cons_succ])
          refine wpAnyH_take (i := 26) (v := ?v1_26) rfl (by kernel_rfl) (by kernel_rfl) (by kernel_rfl) (fun _ _ _ h => h) (Or.inl ⟨by rfl, ?hy1_26⟩) (by assumption) ?rest1_26
          case hy1_26 => (intro W hSw; (try dsimp only at hSw); (go_simp <;> with_reducible rfl))
          (try simp only [List.getElem_toArray, List.getElem_cons_succ, List.getElem_cons_zero, Act.put, List.setIfInBounds_toArray, List.set_cons_zero, List.set_cons_succ])
          refine wpAnyH_take (i := 27) (v := ?v1_27) rfl (by kernel_rfl) (by kernel_rfl) (by kernel_rfl) (fun _ _ _ h => h) (Or.inl ⟨by rfl, ?hy1_27⟩) (by assumption) ?rest1_27
          case hy1_27 => (intro W hSw; (try dsimp only at hSw); (go_simp <;> with_reducible rfl))
          (try simp only [List.getElem_toArray, List.getElem_cons_succ, List.getElem_cons_zero, Act.put, List.setIfInBounds_toArray, List.set_cons_zero, List.set_cons_succ])
          refine wpAnyH_take (i := 28) (v := ?v1_28) rfl (by kernel_rfl) (by kernel_rfl) (by kernel_rfl) (fun _ _ _ h => h) (Or.inl ⟨by rfl, ?hy1_28⟩) (by assumption) ?rest1_28
          case hy1_28 => (intro W hSw; (try dsimp only at hSw); (go_simp <;> with_reducible rfl))
          (try simp only [List.getElem_toArray, List.getElem_cons_succ, List.getElem_cons_zero, Act.put, List.setIfInBounds_toArray, List.set_cons_zero, List.set_cons_succ])
          refine wpAnyH_take (i := 29) (v := ?v1_29) rfl (by kernel_rfl) (by kernel_rfl) (by kernel_rfl) (fun _ _ _ h => h) (Or.inl ⟨by rfl, ?hy1_29⟩) (by assumption) ?rest1_29
          case hy1_29 => (intro W hSw; (try dsimp only at hSw); (go_simp <;> with_reducible rfl))
          (try simp only [List.getElem_toArray, List.getElem_cons_succ, List.getElem_cons_zero, Act.put, List.setIfInBounds_toArray, List.set_cons_zero, List.set_cons_succ])
          refine wpAnyH_take (i := 30) (v := ?v1_30) rfl (by kernel_rfl) (by kernel_rfl) (by kernel_rfl) (fun _ _ _ h => h) (Or.inl ⟨by rfl, ?hy1_30⟩) (by assumption) ?rest1_30
          case hy1_30 => (intro W hSw; (try dsimp only at hSw); (go_simp <;> with_reducible rfl))
          (try simp only [List.getElem_toArray, List.getElem_cons_succ, List.getElem_cons_zero, Act.put, List.setIfInBounds_toArray, List.set_cons_zero, List.set_cons_succ])
          refine wpAnyH_take (i := 31) (v := ?v1_31) rfl (by kernel_rfl) (by kernel_rfl) (by kernel_rfl) (fun _ _ _ h => h) (Or.inl ⟨by rfl, ?hy1_31⟩) (by assumption) ?rest1_31
          case hy1_31 => (intro W hSw; (try dsimp only at hSw); (go_simp <;> with_reducible rfl))
          (try simp only [List.getElem_toArray, List.getElem_cons_succ, List.getElem_cons_zero, Act.put, List.setIfInBounds_toArray, List.set_cons_zero, List.set_cons_succ])
          refine wpAnyH_take (i := 32) (v := ?v1_32) rfl (by kernel_rfl) (by kernel_rfl) (by kernel_rfl) (fun _ _ _ h => h) (Or.inl ⟨by rfl, ?hy1_32⟩) (by assumption) ?rest1_32
          case hy1_32 => (intro W hSw; (try dsimp only at hSw); (go_simp <;> with_reducible rfl))
          (try simp only [List.getElem_toArray, List.getElem_cons_succ, List.getElem_cons_zero, Act.put, List.setIfInBounds_toArray, List.set_cons_zero, List.set_cons_succ])
          refine wpAnyH_take (i := 33) (v := undef) rfl (by kernel_rfl) (by kernel_rfl) (by kernel_rfl) (fun _ _ _ h => h) (Or.inr ⟨by rfl, rfl⟩) (by assumption) ?_
          (try simp only [List.getElem_toArray, List.getElem_cons_succ, List.getElem_cons_zero, Act.put, List.setIfInBounds_toArray, List.set_cons_zero, List.set_cons_succ])
          refine wpAnyH_take (i := 34) (v := undef) rfl (by kernel_rfl) (by kernel_rfl) (by kernel_rfl) (fun _ _ _ h => h) (Or.inr ⟨by rfl, rfl⟩) (by assumption) ?_
          (try simp only [List.getElem_toArray, List.getElem_cons_succ, List.getElem_cons_zero, Act.put, List.setIfInBounds_toArray, List.set_cons_zero, List.set_cons_succ])
          refine wpAnyH_take (i := 35) (v := undef) rfl (by kernel_rfl) (by kernel_rfl) (by kernel_rfl) (fun _ _ _ h => h) (Or.inr ⟨by rfl, rfl⟩) (by assumption) ?_
          (try simp only [List.getElem_toArray, List.getElem_cons_succ, List.getElem_cons_zero, Act.put, List.setIfInBounds_toArray, List.set_cons_zero, List.set_cons_succ])
          refine wpAnyH_take (i := 36) (v := undef) rfl (by kernel_rfl) (by kernel_rfl) (by kernel_rfl) (fun _ _ _ h => h) (Or.inr ⟨by rfl, rfl⟩) (by assumption) ?_
          (try simp only [List.getElem_toArray, List.getElem_cons_succ, List.getElem_cons_zero, Act.put, List.setIfInBounds_toArray, List.set_cons_zero, List.set_cons_succ])
          refine wpAnyH_take (i := 37) (v := ?v1_37) rfl (by kernel_rfl) (by kernel_rfl) (by kernel_rfl) (fun _ _ _ h => h) (Or.inl ⟨by rfl, ?hy1_37⟩) (by assumption) ?rest1_37
          case hy1_37 => (intro W hSw; (try dsimp only at hSw); (go_simp <;> with_reducible rfl))
          (try simp only [List.getElem_toArray, List.getElem_cons_succ, List.getElem_cons_zero, Act.put, List.setIfInBounds_toArray, List.set_cons_zero, List.set_cons_succ])
          refine wpAnyH_take (i := 38) (v := ?v1_38) rfl (by kernel_rfl) (by kernel_rfl) (by kernel_rfl) (fun _ _ _ h => h) (Or.inl ⟨by rfl, ?hy1_38⟩) (by assumption) ?rest1_38
          case hy1_38 => (intro W hSw; (try dsimp only at hSw); (go_simp <;> with_reducible rfl))
          (try simp only [List.getElem_toArray, List.getElem_cons_succ, List.getElem_cons_zero, Act.put, List.setIfInBounds_toArray, List.set_cons_zero, List.set_cons_succ])
          refine wpAnyH_take (i := 39) (v := ?v1_39) rfl (by kernel_rfl) (by kernel_rfl) (by kernel_rfl) (fun _ _ _ h => h) (Or.inl ⟨by rfl, ?hy1_39⟩) (by assumption) ?rest1_39
          case hy1_39 => (intro W hSw; (try dsimp only at hSw); (go_simp <;> with_reducible rfl))
          (try simp only [List.getElem_toArray, List.getElem_cons_succ, List.getElem_cons_zero, Act.put, List.setIfInBounds_toArray, List.set_cons_zero, List.set_cons_succ])
          refine wpAnyH_done (by kernel_rfl) ?_ _
          have hb := V1.out
          clear SB V0 V1
          go_wp2_with fail
          go_meet
          exact ⟨rfl, Lib.hid hb⟩
      · have hd0 : (drb == 0) = false := by simpa using hd
        have e0 := HX5.look 0
        have el := HX5.bx.lt
        go_wp2
        go_quiet (fail)
        go_wp2_with fail
        go_meet
        exact ⟨rfl, Lib.hid (below_drewN (Below.refl _ _) _)⟩
  obtain ⟨rfl, HC⟩ := hcut
  obtain ⟨wx13, rfl⟩ : ∃ W : World, W = wc := ⟨_, rfl⟩
  have hb := HC.out
  clear HC
  have Z17 := Lib.hid hb.size
  have Y16 := Lib.hid (And.intro Y15.out Z17.out); clear Y15 Z17
  replace HD := HD.below hb
  replace HA := HA.below hb
  replace HX := HX.below hb
  replace HX1 := HX1.below hb
  replace HOA := HOA.below hb
  replace HX2 := HX2.below hb
  replace HA2 := HA2.below hb
  replace HX3 := HX3.below hb
  replace HX4 := HX4.below hb
  replace HOB := HOB.below hb
  replace HX5 := HX5.below hb
  replace HA3 := HA3.below hb
  replace HX6 := HX6.below hb
  replace HOC := HOC.below hb
  replace HX7 := HX7.below hb
  replace HA4 := HA4.below hb
  replace HA5 := HA5.below hb
  replace HX8 := HX8.below hb
  replace HX9 := HX9.below hb
  replace HB := Lib.hid (below_step HB.out hb)
  clear hb
  clear HX3
  clear HX4
  clear HX5
  clear HX6
  clear HX7
  clear HX8
  clear HX9
  clear HA2
  clear HA3
  clear HA4
  clear HA5
  clear HOB
  clear HOC
  clear HD
  by_cases hr0 : ¬ dra = 0
  · have hr1 : (dra != 0) = true := by simpa using hr0
    have c12_0 := HX2.look 0
    have l12_0 := HX1.bx.lt
    have l12_1 := HX2.bx.lt
    go_wp2
    clear c12_0 l12_0 l12_1
    go_ret
    exact ⟨rfl, HB.out⟩
  have hr0 : dra = 0 := Classical.byContradiction hr0
  obtain ⟨hq0, hpx, hpp, hpu, hpl⟩ := pa_ok (HRdra.out.trans hr0)
  have HT0 := Lib.hid (qf_ok hq0).2.2.2.2.2
  have e1 : cap = dxa := by rw [← HRdxa.out]; exact hpx.symm
  have HPL : Hid (pushL cap xs mk ys = (0, dpa, dua)) := Lib.hid (by rw [← HRdpa.out, ← HRdua.out, hpp, hpu, ← hpl])
  have HQF : Hid (qf cap dua = 0) := Lib.hid (by rw [← HRdua.out, hpu]; exact pushL_qf cap xs mk ys hq0 hpl)
  have e6 : 0 = dra := hr0.symm
  clear hr0 hq0 hpx hpp hpu hpl HRdra HRdxa HRdpa HRdua
  subst e1 e6
  have HV0 := HQF
  have HV1 : Hid (dqX cap dua = cap) := Lib.hid (by unfold dqX; rw [if_pos HQF.out])
  have HV2 : Hid (ppP dua = false) := Lib.hid rfl
  have HV3 : Hid (dqU dua = []) := Lib.hid rfl
  have HV4 : Hid (dqT cap dpa dua = dpa) := Lib.hid (by unfold dqT; rw [if_pos HQF.out])
  have HV5 : Hid (dqZ cap dua = dua) := Lib.hid (by unfold dqZ; rw [if_pos HQF.out])
  have c12_0 := HX2.look 0
  have c12_1 := HX2.look 1
  have c12_2 := HX2.look 2
  have c12_3 := HX2.look 3
  have l12_0 := HX1.bx.lt
  have l12_1 := HX2.bx.lt
  go_wp2_with fail
  clear c12_0 c12_1 c12_2 c12_3 l12_0 l12_1
  refine (drainQueue_any cap dpa _ _ _ Oa ja ka dua _ HOA.q_list HOA.le (by omega) hja).mono ?_
  rw [HV0.out, HV1.out, HV2.out, HV3.out, HV4.out, HV5.out]
  rintro e w17 ⟨O6, j6, k6, E6, m6, d6, rfl, hk, hb⟩
  have Z18 := Lib.hid hb.size
  have Y17 := Lib.hid (And.intro Y16.out Z18.out); clear Y16 Z18
  replace HA := HA.below hb
  replace HX := HX.below hb
  replace HX1 := HX1.below hb
  replace HOA := HOA.below hb
  replace HX2 := HX2.below hb
  replace HB := Lib.hid (below_step HB.out hb)
  clear hb
  have HOD := hk; clear hk HV0 HV1 HV2 HV3 HV4 HV5
  have hm6 : m6 ≤ 8 := by have := (qf_ok HQF.out).2.2.1; have := HOD.q_items.1; omega
  obtain rfl : j6 = 0 := by have h := HOD.q_list.1; simp at h; omega
  have htt : (dpa != dpa) = false := by simp
  have c13_0 := HX2.look 2
  have c13_1 := HX2.look 3
  have l13_0 := HX1.bx.lt
  have l13_1 := HX2.bx.lt
  go_wp2_with fail
  clear c13_0 c13_1 l13_0 l13_1
  refine Calls.name ?_
  intro U18 hU18
  have hb : Below w17.heap.size w17 U18 := by rw [hU18]; exact ((Below.refl _ _).alloc (Nat.le_refl _) _)
  have zz : Hid (w17.heap.size + 1 = U18.heap.size) := Lib.hid (by rw [hU18]; simp)
  have HX10 : Kept w17.heap.size (w17.heap.size + 1) (BoxK w17.heap.size 63 #[.int .i64 0, .int .i64 cap, .bool false, .slice O6 0 k6, .bool dpa, .slice E6 m6 d6]) U18 := by rw [hU18]; exact Kept.box (Box.made_at _ _ _ rfl)
  replace HA := HA.below hb
  replace HX := HX.below hb
  replace HX1 := HX1.below hb
  replace HOA := HOA.below hb
  replace HX2 := HX2.below hb
  replace HOD := HOD.below hb
  replace HB := Lib.hid (below_step HB.out hb)
  clear hb
  have Z19 := zz; clear zz
  have Y18 := Lib.hid (And.intro Y17.out Z19.out); clear Y17 Z19
  clear hU18
  refine (lwItems_two _ _ _ _ _ _ E6 Oa m6 d6 ja ka dua dua rfl _ HOD.q_items HOA.q_list HOD.le HOA.le (by omega)).mono ?_
  rintro e w19 ⟨rfl, hb⟩
  have Z20 := Lib.hid hb.size
  have Y19 := Lib.hid (And.intro Y18.out Z20.out); clear Y18 Z20
  replace HA := HA.below hb
  replace HX := HX.below hb
  replace HX1 := HX1.below hb
  replace HOA := HOA.below hb
  replace HX2 := HX2.below hb
  replace HOD := HOD.below hb
  replace HX10 := HX10.below hb
  replace HB := Lib.hid (below_step HB.out hb)
  clear hb
  clear htt
  cases dpa with
  | true =>
    have c14_0 := HX10.look 2
    have c14_1 := HX10.look 3
    have c14_2 := HX10.look 4
    have l14_0 := HX1.bx.lt
    have l14_1 := HX2.bx.lt
    have l14_2 := HX10.bx.lt
    go_wp2
    clear c14_0 c14_1 c14_2 l14_0 l14_1 l14_2
    go_ret
    exact ⟨rfl, HB.out⟩
  | false =>
    have HKE := Lib.hid (pushL_keep cap xs mk ys dua HT0.out HPL.out).2
    clear HPL HQF HT0
    have hma := HA.sl.1
    have hnx := HX.sl.1
    have c14_0 := HX1.look 2
    have c14_1 := HX10.look 2
    have c14_2 := HX10.look 3
    have c14_3 := HX10.look 4
    have l14_0 := HX1.bx.lt
    have l14_1 := HX2.bx.lt
    have l14_2 := HX10.bx.lt
    go_wp2_with (first | (at_builtin; refine wpList_name ?_; intro U20 hU20; have hb : Below w19.heap.size w19 U20 := (by rw [hU20]; exact ((Below.refl _ _).alloc (Nat.le_refl _) _)); have zz : Hid (w19.heap.size + 1 = U20.heap.size) := Lib.hid (by rw [hU20]; simp); have HX11 : Kept w19.heap.size (w19.heap.size + 1) (BoxK w19.heap.size 66 #[]) U20 := (by rw [hU20]; exact Kept.box (Box.made_at _ _ _ rfl)); replace HA := HA.below hb; replace HX := HX.below hb; replace HX1 := HX1.below hb; replace HOA := HOA.below hb; replace HX2 := HX2.below hb; replace HOD := HOD.below hb; replace HX10 := HX10.below hb; replace HB := Lib.hid (below_step HB.out hb); clear hb; have Z21 := zz; clear zz; have Y20 := Lib.hid (And.intro Y19.out Z21.out); clear Y19 Z21; clear hU20; refine wpList_appF0 tcell_len tcell_one Try.underlying57 itemInfo rfl (by decide) (by decide) rfl (.tmp 205) (.tmp 207) rfl (B := w19.heap.size) rfl (OwnF.of_box0 HX11.bx) rfl (timer_inF HA.sl) (by omega) (by have := Y20.out; omega) ?_; intro A1 c1x w21 ho hg; have hq : Only w19.heap.size (w19.heap.size + 1) U20 w21 := Only.of_grown hg (fun r hr => by simp only [Option.map_some, Option.some.injEq] at hr; omega); have Z22 := Lib.hid hq.size; have Y21 := Lib.hid (And.intro Y20.out Z22.out); clear Y20 Z22; clear HX11; replace HA := HA.only hq (by have := Y21.out; omega); replace HX := HX.only hq (by have := Y21.out; omega); replace HX1 := HX1.only hq (by have := Y21.out; omega); replace HOA := HOA.only hq (by have := Y21.out; omega); replace HX2 := HX2.only hq (by have := Y21.out; omega); replace HOD := HOD.only hq (by have := Y21.out; omega); replace HX10 := HX10.only hq (by have := Y21.out; omega); replace HB := Lib.hid (Below.only HB.out hq (by have := Y21.out; omega) HB.out.size); clear hq hg; simp only [Nat.zero_add, List.nil_append] at ho; have HO1 := ho.kept rfl; clear ho; have l15_0 := HX1.bx.lt; have l15_1 := HX2.bx.lt; have l15_2 := HX10.bx.lt) | (at_builtin; refine wpList_appF0 tcell_len tcell_one Try.underlying57 itemInfo rfl (by decide) (by decide) rfl (.tmp 208) (.tmp 209) rfl (B := w19.heap.size) rfl HO1.ownF rfl (timer_inF HX.sl) (by omega) (by have := Y21.out; omega) ?_; intro A2 c2x w22 ho hg; have hq : Only w19.heap.size w21.heap.size w21 w22 := Only.of_grown hg (fun r hr => by have := HO1.ownF.block r hr; have := HO1.lim r hr; omega); have Z23 := Lib.hid hq.size; have Y22 := Lib.hid (And.intro Y21.out Z23.out); clear Y21 Z23; clear HO1; replace HA := HA.only hq (by have := Y22.out; omega); replace HX := HX.only hq (by have := Y22.out; omega); replace HX1 := HX1.only hq (by have := Y22.out; omega); replace HOA := HOA.only hq (by have := Y22.out; omega); replace HX2 := HX2.only hq (by have := Y22.out; omega); replace HOD := HOD.only hq (by have := Y22.out; omega); replace HX10 := HX10.only hq (by have := Y22.out; omega); replace HB := Lib.hid (Below.only HB.out hq (by have := Y22.out; omega) HB.out.size); clear hq hg; skip; have HO2 := ho.kept rfl; clear ho; have l16_0 := HX1.bx.lt; have l16_1 := HX2.bx.lt; have l16_2 := HX10.bx.lt))
    clear c14_0 c14_1 c14_2 c14_3 l14_0 l14_1 l14_2 l16_0 l16_1 l16_2
    obtain ⟨N, hNN⟩ : ∃ N, m + n1 = N := ⟨_, rfl⟩
    obtain ⟨es, hes⟩ : ∃ z, ys ++ xs = z := ⟨_, rfl⟩
    rw [hNN] at HO2 ⊢
    rw [hes] at HO2 HKE
    have hN : N ≤ 300 := by omega
    have HSL := Rep.Sl.kept (own_items HO2.ownF) (Nat.le_refl _)
    have hle := HSL.sl.1
    have hdl := HOD.q_items.1
    clear HO2 hNN hes hma hnx
    as_aux_lemma =>
      go_loopw [16, 17] (fun t16 t17 wr => ∃ k cnt : Nat, k ≤ N ∧ cnt ≤ m6 ∧ t17 = .int .i64 k ∧ t16 = .int .i64 cnt ∧ Hid (dua.drop cnt = keepL (es.drop k)) ∧ Hid (Below w22.heap.size w22 wr)) (fun _ t17 _ => N - (intOf t17).toNat)
      case atStart => exact ⟨0, 0, Nat.zero_le _, Nat.zero_le _, rfl, rfl, Lib.hid (by simpa using HKE.out), Lib.hid (Below.refl _ _)⟩
      case round =>
        obtain ⟨k, cnt, hk, hcm, rfl, rfl, HIV, HW⟩ := hrel
        have HBX := HX10.below HW.out
        have HSW := HSL.below HW.out
        have HOW := HOD.below HW.out
        have HBW := Lib.hid (below_step HB.out HW.out)
        by_cases hlt : k < N
        · obtain ⟨b0, o0, z, hA2, hz, z0, z1, z2, z3⟩ := Rep.timer_at HSW.sl hlt
          subst hA2
          have HZ := Lib.hid hz
          have hlt' : (k : Int) < N := by omega
          obtain ⟨v, hv⟩ : ∃ v : World, v = wr := ⟨_, rfl⟩
          subst hv
          clear hz
          go_wp2
          go_loopw [18, 19] (fun t18 t19 wr => ∃ (j : Nat) (b : Bool), k + 1 ≤ j ∧ j ≤ N ∧ t19 = .int .i64 j ∧ t18 = .bool b ∧ Hid (b = !(((es.drop (k + 1)).take (j - (k + 1))).any fun u => keyT z u)) ∧ ∃ d, wr = v.drewN d) (fun _ t19 _ => N - (intOf t19).toNat)
          case atStart => exact ⟨k + 1, true, Nat.le_refl _, hlt, by go_num, rfl, Lib.hid (by simp), 0, rfl⟩
          case round =>
            obtain ⟨j, b, hj0, hj, rfl, rfl, HN, d, rfl⟩ := hrel
            by_cases hjl : j < N
            · obtain ⟨b2, o2, u, hA2, hu, u0, u1, u2, u3⟩ := Rep.timer_at HSW.sl hjl
              simp only [Option.some.injEq, Addr.mk.injEq, and_true] at hA2
              obtain ⟨rfl, rfl⟩ := hA2
              have hjl' : (j : Int) < N := by omega
              have HU := Lib.hid hu
              have HST : Hid ((es.drop (k + 1)).take (j + 1 - (k + 1)) = (es.drop (k + 1)).take (j - (k + 1)) ++ [u]) := Lib.hid (by
                rw [show j + 1 - (k + 1) = j - (k + 1) + 1 by omega, List.take_succ_eq_append_getElem (by rw [List.length_drop]; omega)]
                congr 2
                rw [List.getElem_drop]
                have e := (List.getElem?_eq_some_iff.1 HU.out).2
                simpa [show k + 1 + (j - (k + 1)) = j by omega] using e)
              clear hu
              cases b with
              | false =>
                have HN2 : Hid (false = !(((es.drop (k + 1)).take (j + 1 - (k + 1))).any fun u => keyT z u)) := Lib.hid (by rw [HST.out, List.any_append]; have := HN.out; simp only [Bool.false_eq, Bool.not_eq_false'] at this ⊢; rw [this]; rfl)
                clear HST
                go_wp2
                go_quiet (fail)
                go_wp2
                go_roundw
                case rel => exact ⟨j + 1, false, by omega, by omega, by go_num, rfl, HN2, _, rfl⟩
                case measure => simp [intOf]; omega
              | true =>
                obtain ⟨kb, hkb⟩ : ∃ kb, keyT u z = kb := ⟨_, rfl⟩
                have HNQ : ∀ W : World, (binOp .neq 34 (keyV u) (keyV z)).run Try.prog W = .ok (.bool (!kb)) W := fun W => by rw [neq_keyT, hkb]
                have HN2 : Hid ((!kb) = !(((es.drop (k + 1)).take (j + 1 - (k + 1))).any fun u => keyT z u)) := Lib.hid (by rw [HST.out, List.any_append]; have := HN.out; simp only [Bool.true_eq, Bool.not_eq_true'] at this; rw [this, ← hkb, keyT_comm]; simp)
                clear HST hkb
                go_wp2
                go_quiet (fail)
                go_wp2
                go_roundw
                case rel => exact ⟨j + 1, !kb, by omega, by omega, by go_num, rfl, HN2, _, rfl⟩
                case measure => simp [intOf]; omega
            · have hdr : es.drop k = z :: es.drop (k + 1) := by
                have h1 := (List.getElem?_eq_some_iff.1 HZ.out)
                rw [List.drop_eq_getElem_cons h1.1, h1.2]
              have HNA : Hid (b = !((es.drop (k + 1)).any fun u => keyT z u)) := Lib.hid (by have := HN.out; rwa [List.take_of_length_le (by rw [List.length_drop]; omega)] at this)
              cases b with
              | false =>
                have HI2 : Hid (dua.drop cnt = keepL (es.drop (k + 1))) := Lib.hid (by
                  have h := HIV.out
                  rw [hdr] at h
                  unfold keepL at h
                  rw [if_pos (by have := HNA.out; simpa using this.symm)] at h
                  exact h)
                clear hdr HIV HNA HN
                go_wp2
                go_roundw
                case rel => exact ⟨k + 1, cnt, by omega, hcm, by go_num, rfl, HI2, Lib.hid (below_drewN HW.out _)⟩
                case measure => simp [intOf]; omega
              | true =>
                have hcons : dua.drop cnt = z :: keepL (es.drop (k + 1)) := by
                  have h := HIV.out
                  rw [hdr] at h
                  unfold keepL at h
                  rw [if_neg (by have := HNA.out; simpa using this.symm)] at h
                  exact h
                have hcl : cnt < m6 := by
                  have h : cnt < dua.length := by
                    rcases Nat.lt_or_ge cnt dua.length with h | h
                    · exact h
                    · rw [List.drop_eq_nil_of_le h] at hcons; cases hcons
                  omega
                have hcd := List.drop_eq_getElem_cons (show cnt < dua.length by omega)
                rw [hcd] at hcons
                have hz1 : dua[cnt]'(by omega) = z := (List.cons.inj hcons).1
                have HI2 : Hid (dua.drop (cnt + 1) = keepL (es.drop (k + 1))) := Lib.hid (List.cons.inj hcons).2
                obtain ⟨b3, o3, x, hE6, hx, x0, x1, x2, x3⟩ := Rep.timer_at HOW.q_items hcl
                rw [List.getElem?_eq_getElem (show cnt < dua.length by omega), hz1] at hx
                injection hx with hx
                subst hx hE6
                have e5 := HBX.look 5
                have hcl' : (cnt : Int) < m6 := by omega
                have hge : ¬ ((cnt : Int) ≥ m6) := by omega
                clear hdr HIV HNA HN hcons hcd hz1
                go_wp2
                go_quiet (fail)
                go_wp2
                go_roundw
                case rel => exact ⟨k + 1, cnt + 1, by omega, by omega, by go_num, by go_num, HI2, Lib.hid (below_drewN HW.out _)⟩
                case measure => simp [intOf]; omega
        · obtain rfl : cnt = m6 := by
            have h := HIV.out
            rw [List.drop_eq_nil_of_le (show es.length ≤ k by omega)] at h
            have := congrArg List.length h
            rw [List.length_drop] at this
            simp [keepL] at this
            omega
          have e5 := HBX.look 5
          go_wp2
          go_ret
          exact ⟨by simp, HBW.out⟩


end Go.Proofs.Ytiffhjofabaflaa

