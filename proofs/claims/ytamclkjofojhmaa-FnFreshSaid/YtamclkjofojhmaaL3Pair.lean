/-
  The walk of l3Pair, from which the laws draw two advertisements: it returns, whatever the bytes. No statement is proved here.
-/
import Derived.Test.YtamclkjofojhmaaL2Bent
import Derived.Test.YtamclkjofojhmaaAge
import Derived.Deep.CutBlock
import Derived.Deep.DeepCutAuto
namespace Go.Proofs.Ytamclkjofojhmaa
open Go.RowKit
set_option linter.unusedVariables false

set_option maxRecDepth 100000 in
set_option maxHeartbeats 6400000 in
theorem l3Pair_any (g : Nat) (A0 : Option Addr) (n0 c0 : Nat) (cs : List Int) (K : Nat) (w : World) (hs : Dr w g A0 n0 c0 cs K w) (hK : K ≤ 70000) :
    Calls Try.prog 87 #[.pointer (some ⟨g, 0, none⟩)] w (PairOut w g A0 n0 c0 cs (K + 200)) := by
  have HS := hs
  have Zg : Hid (g < w.heap.size) := Lib.hid hs.lt
  clear hs
  go_enter Try.func87, Try.ntmps87
  go_wp2_with fail
  refine Calls.name ?_
  intro U1 hU1
  have hb : Below w.heap.size w U1 := by rw [hU1]; exact (((Below.refl _ _).alloc (Nat.le_refl _) _).alloc (by simp <;> omega) _)
  have zz : Hid (w.heap.size + 2 = U1.heap.size) := Lib.hid (by rw [hU1]; simp)
  have HX1 : Kept w.heap.size (w.heap.size + 1) (BoxK w.heap.size 29 #[.int .i64 0, .int .i64 0, .int .i64 0, .int .i64 0, .int .i64 0, .int .i64 0, .slice none 0 0, .slice none 0 0, .int .i64 0, .int .i64 0]) U1 := by rw [hU1]; exact Kept.box ((Box.made_at _ _ _ rfl).over _)
  have HX2 : Kept (w.heap.size + 1) (w.heap.size + 1 + 1) (BoxK (w.heap.size + 1) 29 #[.int .i64 0, .int .i64 0, .int .i64 0, .int .i64 0, .int .i64 0, .int .i64 0, .slice none 0 0, .slice none 0 0, .int .i64 0, .int .i64 0]) U1 := by rw [hU1]; exact Kept.box (Box.made_at _ _ _ (by simp <;> omega))
  replace HS := HS.below hb
  clear hb
  have Z1 := zz; clear zz
  have Y1 := Lib.hid (And.intro Zg.out Z1.out); clear Zg Z1
  clear hU1
  refine (l2Draw_any g A0 n0 c0 cs K _ HS.here (by omega)).mono ?_
  rintro e w2 ⟨l, A, B, n, c, m, d, rfl, hl, hn, hm, hs⟩
  have ho := hs.fr
  have Z2 := Lib.hid ho.size
  have Y2 := Lib.hid (And.intro Y1.out Z2.out); clear Y1 Z2
  replace HX1 := HX1.only ho (by have := Y2.out; omega)
  replace HX2 := HX2.only ho (by have := Y2.out; omega)
  replace HS := HS.next hs; clear ho hs
  have HA := hl.lsa.kept; clear hl
  have l2_0 := HX1.bx.lt
  have l2_1 := HX2.bx.lt
  go_wp2_with fail
  clear l2_0 l2_1
  refine Calls.name ?_
  intro U3 hU3
  have hb : Below w2.heap.size w2 U3 := by rw [hU3]; exact ((Below.refl _ _).alloc (Nat.le_refl _) _)
  have zz : Hid (w2.heap.size + 1 = U3.heap.size) := Lib.hid (by rw [hU3]; simp)
  have HX3 : Kept w2.heap.size (w2.heap.size + 1) (BoxK w2.heap.size 29 #[.int .i64 l.age, .int .i64 l.options, .int .i64 l.typ, .int .i64 l.id, .int .i64 l.adv, .int .i64 l.seq, .slice A n c, .slice B m d, .int .i64 l.mask, .int .i64 l.cost]) U3 := by rw [hU3]; exact Kept.box (Box.made_at _ _ _ rfl)
  replace HS := HS.below hb
  replace HX1 := HX1.below hb
  replace HX2 := HX2.below hb
  replace HA := HA.below hb
  clear hb
  have Z3 := zz; clear zz
  have Y3 := Lib.hid (And.intro Y2.out Z3.out); clear Y2 Z3
  clear hU3
  refine (l2Copy_any l true _ _ A B n c m d _ HA.lsa (by omega) (by omega)).mono ?_
  rintro e w4 ⟨A2, B2, c2, d2, rfl, ht, hb⟩
  have Z4 := Lib.hid hb.size
  have Y4 := Lib.hid (And.intro Y3.out Z4.out); clear Y3 Z4
  replace HS := HS.below hb
  replace HX1 := HX1.below hb
  replace HX2 := HX2.below hb
  replace HA := HA.below hb
  replace HX3 := HX3.below hb
  clear hb
  have HK := ht.at_.kept; clear ht
  have l3_0 := HX1.bx.lt
  have l3_1 := HX2.bx.lt
  have l3_2 := HX3.bx.lt
  go_wp2_with fail
  clear l3_0 l3_1 l3_2
  refine Calls.name ?_
  intro U5 hU5
  have hb : Below w4.heap.size w4 U5 := by rw [hU5]; exact ((Below.refl _ _).alloc (Nat.le_refl _) _)
  have zz : Hid (w4.heap.size + 1 = U5.heap.size) := Lib.hid (by rw [hU5]; simp)
  have HX4 : Kept w4.heap.size (w4.heap.size + 1) (BoxK w4.heap.size 29 #[.int .i64 l.age, .int .i64 l.options, .int .i64 l.typ, .int .i64 l.id, .int .i64 l.adv, .int .i64 l.seq, .slice A2 n c2, .slice B2 m d2, .int .i64 l.mask, .int .i64 l.cost]) U5 := by rw [hU5]; exact Kept.box (Box.made_at _ _ _ rfl)
  replace HS := HS.below hb
  replace HX1 := HX1.below hb
  replace HX2 := HX2.below hb
  replace HA := HA.below hb
  replace HX3 := HX3.below hb
  replace HK := HK.below hb
  clear hb
  have Z5 := zz; clear zz
  have Y5 := Lib.hid (And.intro Y4.out Z5.out); clear Y4 Z5
  clear hU5
  refine (dNext 6 HS.here (by omega) (by omega) (by omega)).mono ?_
  rintro e w6 ⟨v, rfl, hv0, hv1, hs⟩
  have ho := hs.fr
  have Z6 := Lib.hid ho.size
  have Y6 := Lib.hid (And.intro Y5.out Z6.out); clear Y5 Z6
  replace HX1 := HX1.only ho (by have := Y6.out; omega)
  replace HX2 := HX2.only ho (by have := Y6.out; omega)
  replace HA := HA.only ho (by have := Y6.out; omega)
  replace HX3 := HX3.only ho (by have := Y6.out; omega)
  replace HK := HK.only ho (by have := Y6.out; omega)
  replace HX4 := HX4.only ho (by have := Y6.out; omega)
  replace HS := HS.next hs; clear ho hs
  have hv : v = 0 ∨ v = 1 ∨ v = 2 ∨ v = 3 ∨ (4 ≤ v ∧ v < 6) := by omega
  go_upto_block 0 with fail
  go_cut [11] (fun s11 wx => ∃ (k : LsaM) (lo2 hi2 : Nat) (A2 B2 : Option Addr) (n2 c2 m2 d2 K2 : Nat), Dr w g A0 n0 c0 cs K2 wx ∧ Kept w.heap.size (w.heap.size + 1) (BoxK w.heap.size 29 #[.int .i64 0, .int .i64 0, .int .i64 0, .int .i64 0, .int .i64 0, .int .i64 0, .slice none 0 0, .slice none 0 0, .int .i64 0, .int .i64 0]) wx ∧ Kept (w.heap.size + 1) (w.heap.size + 1 + 1) (BoxK (w.heap.size + 1) 29 #[.int .i64 0, .int .i64 0, .int .i64 0, .int .i64 0, .int .i64 0, .int .i64 0, .slice none 0 0, .slice none 0 0, .int .i64 0, .int .i64 0]) wx ∧ Kept w2.heap.size (w2.heap.size + 1) (BoxK w2.heap.size 29 #[.int .i64 l.age, .int .i64 l.options, .int .i64 l.typ, .int .i64 l.id, .int .i64 l.adv, .int .i64 l.seq, .slice A n c, .slice B m d, .int .i64 l.mask, .int .i64 l.cost]) wx ∧ Kept (w4.heap.size) ((w4.heap.size) + 1) (BoxK (w4.heap.size) 29 #[.int .i64 k.age, .int .i64 k.options, .int .i64 k.typ, .int .i64 k.id, .int .i64 k.adv, .int .i64 k.seq, .slice A2 n2 c2, .slice B2 m2 d2, .int .i64 k.mask, .int .i64 k.cost]) wx ∧ Kept (U1.heap.size) (w2.heap.size) (LsaK true (U1.heap.size) (w2.heap.size) A n B m l) wx ∧ Kept lo2 hi2 (LsaK true lo2 hi2 A2 n2 B2 m2 k) wx ∧ n2 ≤ 16 ∧ m2 ≤ 16 ∧ K2 ≤ K + 130 ∧ Hid (w6.heap.size ≤ wx.heap.size ∧ w2.heap.size < lo2 ∧ (hi2 ≤ w4.heap.size ∨ w4.heap.size + 1 ≤ lo2)))
  case first =>
    rcases hv with rfl | rfl | rfl | rfl | ⟨hv0, hv1⟩
    · have l4_0 := HX1.bx.lt
      have l4_1 := HX2.bx.lt
      have l4_2 := HX3.bx.lt
      have l4_3 := HX4.bx.lt
      go_wp2_with fail
      clear l4_0 l4_1 l4_2 l4_3
      refine Calls.name ?_
      intro U7 hU7
      have hb : Below w6.heap.size w6 U7 := by rw [hU7]; exact ((Below.refl _ _).alloc (Nat.le_refl _) _)
      have zz : Hid (w6.heap.size + 1 = U7.heap.size) := Lib.hid (by rw [hU7]; simp)
      have HX5 : Kept w6.heap.size (w6.heap.size + 1) (BoxK w6.heap.size 2 #[.int .i64 1, .int .i64 2, .int .i64 (-5), .int .i64 2147483647]) U7 := by rw [hU7]; exact Kept.box (Box.made_at _ _ _ rfl)
      replace HS := HS.below hb
      replace HX1 := HX1.below hb
      replace HX2 := HX2.below hb
      replace HA := HA.below hb
      replace HX3 := HX3.below hb
      replace HK := HK.below hb
      replace HX4 := HX4.below hb
      clear hb
      have Z7 := zz; clear zz
      have Y7 := Lib.hid (And.intro Y6.out Z7.out); clear Y6 Z7
      clear hU7
      refine (dPick w6.heap.size 4 [1, 2, -5, 2147483647] HS.here (by omega) HX5.bx rfl rfl (by omega) (by omega) (by have := Y7.out; omega)).mono ?_
      rintro e w8 ⟨vp, rfl, hv, hs⟩
      have ho := hs.fr
      have Z8 := Lib.hid ho.size
      have Y8 := Lib.hid (And.intro Y7.out Z8.out); clear Y7 Z8
      clear HX5
      replace HX1 := HX1.only ho (by have := Y8.out; omega)
      replace HX2 := HX2.only ho (by have := Y8.out; omega)
      replace HA := HA.only ho (by have := Y8.out; omega)
      replace HX3 := HX3.only ho (by have := Y8.out; omega)
      replace HK := HK.only ho (by have := Y8.out; omega)
      replace HX4 := HX4.only ho (by have := Y8.out; omega)
      replace HS := HS.next hs; clear ho hs
      clear hv
      have c5_0 := HX4.look 5
      have f5_0 := HX4.free 5
      have l5_0 := HX1.bx.lt
      have l5_1 := HX2.bx.lt
      have l5_2 := HX3.bx.lt
      have l5_3 := HX4.bx.lt
      go_wp2_with fail
      clear c5_0 f5_0 l5_0 l5_1 l5_2 l5_3
      obtain ⟨U9, hU9⟩ : ∃ W : World, W = (w8.setCell ⟨w4.heap.size, 5, none⟩ (.int .i64 vp)) := ⟨_, rfl⟩
      have ho : Only w4.heap.size (w4.heap.size + 1) w8 U9 := by rw [hU9]; exact ((Only.refl _ _ _).set (p := ⟨w4.heap.size, 5, none⟩) (Nat.le_refl _) (Nat.lt_succ_self _) _)
      replace HX4 : Kept w4.heap.size (w4.heap.size + 1) (BoxK w4.heap.size 29 #[.int .i64 l.age, .int .i64 l.options, .int .i64 l.typ, .int .i64 l.id, .int .i64 l.adv, .int .i64 vp, .slice A2 n c2, .slice B2 m d2, .int .i64 l.mask, .int .i64 l.cost]) U9 := by rw [hU9]; exact Kept.box (HX4.bx.puts 5 (.int .i64 vp) (cs' := #[.int .i64 l.age, .int .i64 l.options, .int .i64 l.typ, .int .i64 l.id, .int .i64 l.adv, .int .i64 vp, .slice A2 n c2, .slice B2 m d2, .int .i64 l.mask, .int .i64 l.cost]) rfl)
      replace HS := HS.only ho (by have := Y8.out; omega)
      replace HX1 := HX1.only ho (by have := Y8.out; omega)
      replace HX2 := HX2.only ho (by have := Y8.out; omega)
      replace HA := HA.only ho (by have := Y8.out; omega)
      replace HX3 := HX3.only ho (by have := Y8.out; omega)
      replace HK := HK.only ho (by have := Y8.out; omega)
      have Z9 : Hid (U9.heap.size = w8.heap.size) := Lib.hid (by rw [hU9]; simp [World.setCell]); clear ho
      have Y9 := Lib.hid (And.intro Y8.out Z9.out); clear Y8 Z9
      subst hU9
      go_meet
      exact ⟨⟨l.age, l.options, l.typ, l.id, l.adv, vp, l.links, l.routers, l.mask, l.cost⟩, _, _, _, _, _, _, _, _, _, HS, HX1, HX2, HX3, HX4, HA, HK.imp (fun _ h => ⟨h.links, h.routers⟩), by omega, by omega, by omega, Lib.hid (by have := Y9.out; omega)⟩
    · have l4_0 := HX1.bx.lt
      have l4_1 := HX2.bx.lt
      have l4_2 := HX3.bx.lt
      have l4_3 := HX4.bx.lt
      go_wp2_with fail
      clear l4_0 l4_1 l4_2 l4_3
      refine (dNext 256 HS.here (by omega) (by omega) (by omega)).mono ?_
      rintro e w7 ⟨vp, rfl, hvp0, hvp1, hs⟩
      have ho := hs.fr
      have Z7 := Lib.hid ho.size
      have Y7 := Lib.hid (And.intro Y6.out Z7.out); clear Y6 Z7
      replace HX1 := HX1.only ho (by have := Y7.out; omega)
      replace HX2 := HX2.only ho (by have := Y7.out; omega)
      replace HA := HA.only ho (by have := Y7.out; omega)
      replace HX3 := HX3.only ho (by have := Y7.out; omega)
      replace HK := HK.only ho (by have := Y7.out; omega)
      replace HX4 := HX4.only ho (by have := Y7.out; omega)
      replace HS := HS.next hs; clear ho hs
      have c5_0 := HX4.look 1
      have f5_0 := HX4.free 1
      have l5_0 := HX1.bx.lt
      have l5_1 := HX2.bx.lt
      have l5_2 := HX3.bx.lt
      have l5_3 := HX4.bx.lt
      go_wp2_with fail
      clear c5_0 f5_0 l5_0 l5_1 l5_2 l5_3
      obtain ⟨U8, hU8⟩ : ∃ W : World, W = (w7.setCell ⟨w4.heap.size, 1, none⟩ (.int .i64 vp)) := ⟨_, rfl⟩
      have ho : Only w4.heap.size (w4.heap.size + 1) w7 U8 := by rw [hU8]; exact ((Only.refl _ _ _).set (p := ⟨w4.heap.size, 1, none⟩) (Nat.le_refl _) (Nat.lt_succ_self _) _)
      replace HX4 : Kept w4.heap.size (w4.heap.size + 1) (BoxK w4.heap.size 29 #[.int .i64 l.age, .int .i64 vp, .int .i64 l.typ, .int .i64 l.id, .int .i64 l.adv, .int .i64 l.seq, .slice A2 n c2, .slice B2 m d2, .int .i64 l.mask, .int .i64 l.cost]) U8 := by rw [hU8]; exact Kept.box (HX4.bx.puts 1 (.int .i64 vp) (cs' := #[.int .i64 l.age, .int .i64 vp, .int .i64 l.typ, .int .i64 l.id, .int .i64 l.adv, .int .i64 l.seq, .slice A2 n c2, .slice B2 m d2, .int .i64 l.mask, .int .i64 l.cost]) rfl)
      replace HS := HS.only ho (by have := Y7.out; omega)
      replace HX1 := HX1.only ho (by have := Y7.out; omega)
      replace HX2 := HX2.only ho (by have := Y7.out; omega)
      replace HA := HA.only ho (by have := Y7.out; omega)
      replace HX3 := HX3.only ho (by have := Y7.out; omega)
      replace HK := HK.only ho (by have := Y7.out; omega)
      have Z8 : Hid (U8.heap.size = w7.heap.size) := Lib.hid (by rw [hU8]; simp [World.setCell]); clear ho
      have Y8 := Lib.hid (And.intro Y7.out Z8.out); clear Y7 Z8
      subst hU8
      go_meet
      exact ⟨⟨l.age, vp, l.typ, l.id, l.adv, l.seq, l.links, l.routers, l.mask, l.cost⟩, _, _, _, _, _, _, _, _, _, HS, HX1, HX2, HX3, HX4, HA, HK.imp (fun _ h => ⟨h.links, h.routers⟩), by omega, by omega, by omega, Lib.hid (by have := Y8.out; omega)⟩
    · have l4_0 := HX1.bx.lt
      have l4_1 := HX2.bx.lt
      have l4_2 := HX3.bx.lt
      have l4_3 := HX4.bx.lt
      go_wp2_with fail
      clear l4_0 l4_1 l4_2 l4_3
      refine (dNext 4 HS.here (by omega) (by omega) (by omega)).mono ?_
      rintro e w7 ⟨vp, rfl, hvp0, hvp1, hs⟩
      have ho := hs.fr
      have Z7 := Lib.hid ho.size
      have Y7 := Lib.hid (And.intro Y6.out Z7.out); clear Y6 Z7
      replace HX1 := HX1.only ho (by have := Y7.out; omega)
      replace HX2 := HX2.only ho (by have := Y7.out; omega)
      replace HA := HA.only ho (by have := Y7.out; omega)
      replace HX3 := HX3.only ho (by have := Y7.out; omega)
      replace HK := HK.only ho (by have := Y7.out; omega)
      replace HX4 := HX4.only ho (by have := Y7.out; omega)
      replace HS := HS.next hs; clear ho hs
      have c5_0 := HX4.look 4
      have f5_0 := HX4.free 4
      have l5_0 := HX1.bx.lt
      have l5_1 := HX2.bx.lt
      have l5_2 := HX3.bx.lt
      have l5_3 := HX4.bx.lt
      go_wp2_with fail
      clear c5_0 f5_0 l5_0 l5_1 l5_2 l5_3
      obtain ⟨U8, hU8⟩ : ∃ W : World, W = (w7.setCell ⟨w4.heap.size, 4, none⟩ (.int .i64 (1 + vp))) := ⟨_, rfl⟩
      have ho : Only w4.heap.size (w4.heap.size + 1) w7 U8 := by rw [hU8]; exact ((Only.refl _ _ _).set (p := ⟨w4.heap.size, 4, none⟩) (Nat.le_refl _) (Nat.lt_succ_self _) _)
      replace HX4 : Kept w4.heap.size (w4.heap.size + 1) (BoxK w4.heap.size 29 #[.int .i64 l.age, .int .i64 l.options, .int .i64 l.typ, .int .i64 l.id, .int .i64 (1 + vp), .int .i64 l.seq, .slice A2 n c2, .slice B2 m d2, .int .i64 l.mask, .int .i64 l.cost]) U8 := by rw [hU8]; exact Kept.box (HX4.bx.puts 4 (.int .i64 (1 + vp)) (cs' := #[.int .i64 l.age, .int .i64 l.options, .int .i64 l.typ, .int .i64 l.id, .int .i64 (1 + vp), .int .i64 l.seq, .slice A2 n c2, .slice B2 m d2, .int .i64 l.mask, .int .i64 l.cost]) rfl)
      replace HS := HS.only ho (by have := Y7.out; omega)
      replace HX1 := HX1.only ho (by have := Y7.out; omega)
      replace HX2 := HX2.only ho (by have := Y7.out; omega)
      replace HA := HA.only ho (by have := Y7.out; omega)
      replace HX3 := HX3.only ho (by have := Y7.out; omega)
      replace HK := HK.only ho (by have := Y7.out; omega)
      have Z8 : Hid (U8.heap.size = w7.heap.size) := Lib.hid (by rw [hU8]; simp [World.setCell]); clear ho
      have Y8 := Lib.hid (And.intro Y7.out Z8.out); clear Y7 Z8
      subst hU8
      go_meet
      exact ⟨⟨l.age, l.options, l.typ, l.id, 1 + vp, l.seq, l.links, l.routers, l.mask, l.cost⟩, _, _, _, _, _, _, _, _, _, HS, HX1, HX2, HX3, HX4, HA, HK.imp (fun _ h => ⟨h.links, h.routers⟩), by omega, by omega, by omega, Lib.hid (by have := Y8.out; omega)⟩
    · have l4_0 := HX1.bx.lt
      have l4_1 := HX2.bx.lt
      have l4_2 := HX3.bx.lt
      have l4_3 := HX4.bx.lt
      go_wp2_with fail
      clear l4_0 l4_1 l4_2 l4_3
      refine (l2Bent_any g A0 n0 c0 cs _ _ HS.here (by omega)).mono ?_
      rintro e w7 ⟨k, A3, B3, n3, c3, m3, d3, rfl, hl, hn3, hm3, hs⟩
      have ho := hs.fr
      have Z7 := Lib.hid ho.size
      have Y7 := Lib.hid (And.intro Y6.out Z7.out); clear Y6 Z7
      replace HX1 := HX1.only ho (by have := Y7.out; omega)
      replace HX2 := HX2.only ho (by have := Y7.out; omega)
      replace HA := HA.only ho (by have := Y7.out; omega)
      replace HX3 := HX3.only ho (by have := Y7.out; omega)
      replace HK := HK.only ho (by have := Y7.out; omega)
      replace HX4 := HX4.only ho (by have := Y7.out; omega)
      replace HS := HS.next hs; clear ho hs
      replace HK := hl.kept; clear hl
      have c5_0 := HX4.look 0
      have c5_1 := HX4.look 1
      have c5_2 := HX4.look 2
      have c5_3 := HX4.look 3
      have c5_4 := HX4.look 4
      have c5_5 := HX4.look 5
      have c5_6 := HX4.look 6
      have c5_7 := HX4.look 7
      have c5_8 := HX4.look 8
      have c5_9 := HX4.look 9
      have f5_0 := HX4.free 0
      have f5_1 := HX4.free 1
      have f5_2 := HX4.free 2
      have f5_3 := HX4.free 3
      have f5_4 := HX4.free 4
      have f5_5 := HX4.free 5
      have f5_6 := HX4.free 6
      have f5_7 := HX4.free 7
      have f5_8 := HX4.free 8
      have f5_9 := HX4.free 9
      have l5_0 := HX1.bx.lt
      have l5_1 := HX2.bx.lt
      have l5_2 := HX3.bx.lt
      have l5_3 := HX4.bx.lt
      go_wp2_with fail
      clear c5_0 c5_1 c5_2 c5_3 c5_4 c5_5 c5_6 c5_7 c5_8 c5_9 f5_0 f5_1 f5_2 f5_3 f5_4 f5_5 f5_6 f5_7 f5_8 f5_9 l5_0 l5_1 l5_2 l5_3
      obtain ⟨U8, hU8⟩ : ∃ W : World, W = ((((((((((w7.setCell ⟨w4.heap.size, 0, none⟩ (.int .i64 k.age)).setCell ⟨w4.heap.size, 1, none⟩ (.int .i64 k.options)).setCell ⟨w4.heap.size, 2, none⟩ (.int .i64 k.typ)).setCell ⟨w4.heap.size, 3, none⟩ (.int .i64 k.id)).setCell ⟨w4.heap.size, 4, none⟩ (.int .i64 k.adv)).setCell ⟨w4.heap.size, 5, none⟩ (.int .i64 k.seq)).setCell ⟨w4.heap.size, 6, none⟩ (.slice A3 n3 c3)).setCell ⟨w4.heap.size, 7, none⟩ (.slice B3 m3 d3)).setCell ⟨w4.heap.size, 8, none⟩ (.int .i64 k.mask)).setCell ⟨w4.heap.size, 9, none⟩ (.int .i64 k.cost)) := ⟨_, rfl⟩
      have ho : Only w4.heap.size (w4.heap.size + 1) w7 U8 := by rw [hU8]; exact (((((((((((Only.refl _ _ _).set (p := ⟨w4.heap.size, 0, none⟩) (Nat.le_refl _) (Nat.lt_succ_self _) _).set (p := ⟨w4.heap.size, 1, none⟩) (Nat.le_refl _) (Nat.lt_succ_self _) _).set (p := ⟨w4.heap.size, 2, none⟩) (Nat.le_refl _) (Nat.lt_succ_self _) _).set (p := ⟨w4.heap.size, 3, none⟩) (Nat.le_refl _) (Nat.lt_succ_self _) _).set (p := ⟨w4.heap.size, 4, none⟩) (Nat.le_refl _) (Nat.lt_succ_self _) _).set (p := ⟨w4.heap.size, 5, none⟩) (Nat.le_refl _) (Nat.lt_succ_self _) _).set (p := ⟨w4.heap.size, 6, none⟩) (Nat.le_refl _) (Nat.lt_succ_self _) _).set (p := ⟨w4.heap.size, 7, none⟩) (Nat.le_refl _) (Nat.lt_succ_self _) _).set (p := ⟨w4.heap.size, 8, none⟩) (Nat.le_refl _) (Nat.lt_succ_self _) _).set (p := ⟨w4.heap.size, 9, none⟩) (Nat.le_refl _) (Nat.lt_succ_self _) _)
      replace HX4 : Kept w4.heap.size (w4.heap.size + 1) (BoxK w4.heap.size 29 #[.int .i64 k.age, .int .i64 k.options, .int .i64 k.typ, .int .i64 k.id, .int .i64 k.adv, .int .i64 k.seq, .slice A3 n3 c3, .slice B3 m3 d3, .int .i64 k.mask, .int .i64 k.cost]) U8 := by rw [hU8]; exact Kept.box ((((((((((HX4.bx.puts 0 (.int .i64 k.age) (cs' := #[.int .i64 k.age, .int .i64 l.options, .int .i64 l.typ, .int .i64 l.id, .int .i64 l.adv, .int .i64 l.seq, .slice A2 n c2, .slice B2 m d2, .int .i64 l.mask, .int .i64 l.cost]) rfl).puts 1 (.int .i64 k.options) (cs' := #[.int .i64 k.age, .int .i64 k.options, .int .i64 l.typ, .int .i64 l.id, .int .i64 l.adv, .int .i64 l.seq, .slice A2 n c2, .slice B2 m d2, .int .i64 l.mask, .int .i64 l.cost]) rfl).puts 2 (.int .i64 k.typ) (cs' := #[.int .i64 k.age, .int .i64 k.options, .int .i64 k.typ, .int .i64 l.id, .int .i64 l.adv, .int .i64 l.seq, .slice A2 n c2, .slice B2 m d2, .int .i64 l.mask, .int .i64 l.cost]) rfl).puts 3 (.int .i64 k.id) (cs' := #[.int .i64 k.age, .int .i64 k.options, .int .i64 k.typ, .int .i64 k.id, .int .i64 l.adv, .int .i64 l.seq, .slice A2 n c2, .slice B2 m d2, .int .i64 l.mask, .int .i64 l.cost]) rfl).puts 4 (.int .i64 k.adv) (cs' := #[.int .i64 k.age, .int .i64 k.options, .int .i64 k.typ, .int .i64 k.id, .int .i64 k.adv, .int .i64 l.seq, .slice A2 n c2, .slice B2 m d2, .int .i64 l.mask, .int .i64 l.cost]) rfl).puts 5 (.int .i64 k.seq) (cs' := #[.int .i64 k.age, .int .i64 k.options, .int .i64 k.typ, .int .i64 k.id, .int .i64 k.adv, .int .i64 k.seq, .slice A2 n c2, .slice B2 m d2, .int .i64 l.mask, .int .i64 l.cost]) rfl).puts 6 (.slice A3 n3 c3) (cs' := #[.int .i64 k.age, .int .i64 k.options, .int .i64 k.typ, .int .i64 k.id, .int .i64 k.adv, .int .i64 k.seq, .slice A3 n3 c3, .slice B2 m d2, .int .i64 l.mask, .int .i64 l.cost]) rfl).puts 7 (.slice B3 m3 d3) (cs' := #[.int .i64 k.age, .int .i64 k.options, .int .i64 k.typ, .int .i64 k.id, .int .i64 k.adv, .int .i64 k.seq, .slice A3 n3 c3, .slice B3 m3 d3, .int .i64 l.mask, .int .i64 l.cost]) rfl).puts 8 (.int .i64 k.mask) (cs' := #[.int .i64 k.age, .int .i64 k.options, .int .i64 k.typ, .int .i64 k.id, .int .i64 k.adv, .int .i64 k.seq, .slice A3 n3 c3, .slice B3 m3 d3, .int .i64 k.mask, .int .i64 l.cost]) rfl).puts 9 (.int .i64 k.cost) (cs' := #[.int .i64 k.age, .int .i64 k.options, .int .i64 k.typ, .int .i64 k.id, .int .i64 k.adv, .int .i64 k.seq, .slice A3 n3 c3, .slice B3 m3 d3, .int .i64 k.mask, .int .i64 k.cost]) rfl)
      replace HS := HS.only ho (by have := Y7.out; omega)
      replace HX1 := HX1.only ho (by have := Y7.out; omega)
      replace HX2 := HX2.only ho (by have := Y7.out; omega)
      replace HA := HA.only ho (by have := Y7.out; omega)
      replace HX3 := HX3.only ho (by have := Y7.out; omega)
      replace HK := HK.only ho (by have := Y7.out; omega)
      have Z8 : Hid (U8.heap.size = w7.heap.size) := Lib.hid (by rw [hU8]; simp [World.setCell]); clear ho
      have Y8 := Lib.hid (And.intro Y7.out Z8.out); clear Y7 Z8
      subst hU8
      go_meet
      exact ⟨⟨k.age, k.options, k.typ, k.id, k.adv, k.seq, k.links, k.routers, k.mask, k.cost⟩, _, _, _, _, _, _, _, _, _, HS, HX1, HX2, HX3, HX4, HA, HK.imp (fun _ h => ⟨h.links, h.routers⟩), by omega, by omega, by omega, Lib.hid (by have := Y8.out; omega)⟩
    · have e0 : (v == 0) = false := by rw [beq_eq_false_iff_ne]; omega
      have e1 : (v == 1) = false := by rw [beq_eq_false_iff_ne]; omega
      have e2 : (v == 2) = false := by rw [beq_eq_false_iff_ne]; omega
      have e3 : (v == 3) = false := by rw [beq_eq_false_iff_ne]; omega
      have l4_0 := HX1.bx.lt
      have l4_1 := HX2.bx.lt
      have l4_2 := HX3.bx.lt
      have l4_3 := HX4.bx.lt
      go_wp2_with fail
      clear l4_0 l4_1 l4_2 l4_3
      go_meet
      exact ⟨⟨l.age, l.options, l.typ, l.id, l.adv, l.seq, l.links, l.routers, l.mask, l.cost⟩, _, _, _, _, _, _, _, _, _, HS, HX1, HX2, HX3, HX4, HA, HK.imp (fun _ h => ⟨h.links, h.routers⟩), by omega, by omega, by omega, Lib.hid (by have := Y6.out; omega)⟩
  obtain ⟨k, lo2, hi2, A2, B2, n2, c2, m2, d2, K2, HS, HX1, HX2, HX3, HX4, HA, HK, hn2, hm2, hK2, HZ⟩ := hcut
  obtain ⟨wx1, rfl⟩ : ∃ W : World, W = wc := ⟨_, rfl⟩
  have Y7 := Lib.hid (And.intro Y6.out HZ.out); clear Y6 HZ
  have Zk := Lib.hid HK.le
  have Y8 := Lib.hid (And.intro Y7.out Zk.out); clear Y7 Zk
  have Zj := Lib.hid HA.le
  have Y9 := Lib.hid (And.intro Y8.out Zj.out); clear Y8 Zj
  have l4_0 := HX1.bx.lt
  have l4_1 := HX2.bx.lt
  have l4_2 := HX3.bx.lt
  have l4_3 := HX4.bx.lt
  go_wp2_with fail
  clear l4_0 l4_1 l4_2 l4_3
  refine (dChance 2 HS.here (by omega) (by omega)).mono ?_
  rintro e w7 ⟨vb, rfl, hs⟩
  have ho := hs.fr
  have Z7 := Lib.hid ho.size
  have Y10 := Lib.hid (And.intro Y9.out Z7.out); clear Y9 Z7
  replace HX1 := HX1.only ho (by have := Y10.out; omega)
  replace HX2 := HX2.only ho (by have := Y10.out; omega)
  replace HA := HA.only ho (by have := Y10.out; omega)
  replace HX3 := HX3.only ho (by have := Y10.out; omega)
  replace HK := HK.only ho (by have := Y10.out; omega)
  replace HX4 := HX4.only ho (by have := Y10.out; omega)
  replace HS := HS.next hs; clear ho hs
  cases vb
  · have l5_0 := HX1.bx.lt
    have l5_1 := HX2.bx.lt
    have l5_2 := HX3.bx.lt
    have l5_3 := HX4.bx.lt
    go_wp2_with fail
    clear l5_0 l5_1 l5_2 l5_3
    refine (dChance 12 HS.here (by omega) (by omega)).mono ?_
    rintro e w8 ⟨vd, rfl, hs⟩
    have ho := hs.fr
    have Z8 := Lib.hid ho.size
    have Y11 := Lib.hid (And.intro Y10.out Z8.out); clear Y10 Z8
    replace HX1 := HX1.only ho (by have := Y11.out; omega)
    replace HX2 := HX2.only ho (by have := Y11.out; omega)
    replace HA := HA.only ho (by have := Y11.out; omega)
    replace HX3 := HX3.only ho (by have := Y11.out; omega)
    replace HK := HK.only ho (by have := Y11.out; omega)
    replace HX4 := HX4.only ho (by have := Y11.out; omega)
    replace HS := HS.next hs; clear ho hs
    cases vd
    · have l6_0 := HX1.bx.lt
      have l6_1 := HX2.bx.lt
      have l6_2 := HX3.bx.lt
      have l6_3 := HX4.bx.lt
      go_wp2_with fail
      clear l6_0 l6_1 l6_2 l6_3
      have c7_0 := HX1.look 0
      have c7_1 := HX1.look 1
      have c7_2 := HX1.look 2
      have c7_3 := HX1.look 3
      have c7_4 := HX1.look 4
      have c7_5 := HX1.look 5
      have c7_6 := HX1.look 6
      have c7_7 := HX1.look 7
      have c7_8 := HX1.look 8
      have c7_9 := HX1.look 9
      have c7_10 := HX2.look 0
      have c7_11 := HX2.look 1
      have c7_12 := HX2.look 2
      have c7_13 := HX2.look 3
      have c7_14 := HX2.look 4
      have c7_15 := HX2.look 5
      have c7_16 := HX2.look 6
      have c7_17 := HX2.look 7
      have c7_18 := HX2.look 8
      have c7_19 := HX2.look 9
      have c7_20 := HX3.look 0
      have c7_21 := HX3.look 1
      have c7_22 := HX3.look 2
      have c7_23 := HX3.look 3
      have c7_24 := HX3.look 4
      have c7_25 := HX3.look 5
      have c7_26 := HX3.look 6
      have c7_27 := HX3.look 7
      have c7_28 := HX3.look 8
      have c7_29 := HX3.look 9
      have c7_30 := HX4.look 0
      have c7_31 := HX4.look 1
      have c7_32 := HX4.look 2
      have c7_33 := HX4.look 3
      have c7_34 := HX4.look 4
      have c7_35 := HX4.look 5
      have c7_36 := HX4.look 6
      have c7_37 := HX4.look 7
      have c7_38 := HX4.look 8
      have c7_39 := HX4.look 9
      have f7_0 := HX1.free 0
      have f7_1 := HX1.free 1
      have f7_2 := HX1.free 2
      have f7_3 := HX1.free 3
      have f7_4 := HX1.free 4
      have f7_5 := HX1.free 5
      have f7_6 := HX1.free 6
      have f7_7 := HX1.free 7
      have f7_8 := HX1.free 8
      have f7_9 := HX1.free 9
      have f7_10 := HX2.free 0
      have f7_11 := HX2.free 1
      have f7_12 := HX2.free 2
      have f7_13 := HX2.free 3
      have f7_14 := HX2.free 4
      have f7_15 := HX2.free 5
      have f7_16 := HX2.free 6
      have f7_17 := HX2.free 7
      have f7_18 := HX2.free 8
      have f7_19 := HX2.free 9
      have l7_0 := HX1.bx.lt
      have l7_1 := HX2.bx.lt
      have l7_2 := HX3.bx.lt
      have l7_3 := HX4.bx.lt
      have n7_0_1 : ¬ w.heap.size = (w.heap.size + 1) := (by have := Y11.out; omega)
      have m7_0_1 : ¬ (w.heap.size + 1) = w.heap.size := (by have := Y11.out; omega)
      have n7_0_2 : ¬ w.heap.size = w2.heap.size := (by have := Y11.out; omega)
      have m7_0_2 : ¬ w2.heap.size = w.heap.size := (by have := Y11.out; omega)
      have n7_0_3 : ¬ w.heap.size = w4.heap.size := (by have := Y11.out; omega)
      have m7_0_3 : ¬ w4.heap.size = w.heap.size := (by have := Y11.out; omega)
      have n7_1_2 : ¬ (w.heap.size + 1) = w2.heap.size := (by have := Y11.out; omega)
      have m7_1_2 : ¬ w2.heap.size = (w.heap.size + 1) := (by have := Y11.out; omega)
      have n7_1_3 : ¬ (w.heap.size + 1) = w4.heap.size := (by have := Y11.out; omega)
      have m7_1_3 : ¬ w4.heap.size = (w.heap.size + 1) := (by have := Y11.out; omega)
      go_region_law (fail)
      all_goals
        have l8_0 := HX1.bx.lt
        have l8_1 := HX2.bx.lt
        have l8_2 := HX3.bx.lt
        have l8_3 := HX4.bx.lt
        go_wp2
        clear l8_0 l8_1 l8_2 l8_3
        obtain ⟨U9, hU9⟩ : ∃ W : World, W = ((((((((((w8.setCell ⟨w.heap.size, 0, none⟩ (.int .i64 l.age)).setCell ⟨w.heap.size, 1, none⟩ (.int .i64 l.options)).setCell ⟨w.heap.size, 2, none⟩ (.int .i64 l.typ)).setCell ⟨w.heap.size, 3, none⟩ (.int .i64 l.id)).setCell ⟨w.heap.size, 4, none⟩ (.int .i64 l.adv)).setCell ⟨w.heap.size, 5, none⟩ (.int .i64 l.seq)).setCell ⟨w.heap.size, 6, none⟩ (.slice A n c)).setCell ⟨w.heap.size, 7, none⟩ (.slice B m d)).setCell ⟨w.heap.size, 8, none⟩ (.int .i64 l.mask)).setCell ⟨w.heap.size, 9, none⟩ (.int .i64 l.cost)) := ⟨_, rfl⟩
        have ho : Only w.heap.size (w.heap.size + 1) w8 U9 := by rw [hU9]; exact (((((((((((Only.refl _ _ _).set (p := ⟨w.heap.size, 0, none⟩) (Nat.le_refl _) (Nat.lt_succ_self _) _).set (p := ⟨w.heap.size, 1, none⟩) (Nat.le_refl _) (Nat.lt_succ_self _) _).set (p := ⟨w.heap.size, 2, none⟩) (Nat.le_refl _) (Nat.lt_succ_self _) _).set (p := ⟨w.heap.size, 3, none⟩) (Nat.le_refl _) (Nat.lt_succ_self _) _).set (p := ⟨w.heap.size, 4, none⟩) (Nat.le_refl _) (Nat.lt_succ_self _) _).set (p := ⟨w.heap.size, 5, none⟩) (Nat.le_refl _) (Nat.lt_succ_self _) _).set (p := ⟨w.heap.size, 6, none⟩) (Nat.le_refl _) (Nat.lt_succ_self _) _).set (p := ⟨w.heap.size, 7, none⟩) (Nat.le_refl _) (Nat.lt_succ_self _) _).set (p := ⟨w.heap.size, 8, none⟩) (Nat.le_refl _) (Nat.lt_succ_self _) _).set (p := ⟨w.heap.size, 9, none⟩) (Nat.le_refl _) (Nat.lt_succ_self _) _)
        replace HX1 : Kept w.heap.size (w.heap.size + 1) (BoxK w.heap.size 29 #[.int .i64 l.age, .int .i64 l.options, .int .i64 l.typ, .int .i64 l.id, .int .i64 l.adv, .int .i64 l.seq, .slice A n c, .slice B m d, .int .i64 l.mask, .int .i64 l.cost]) U9 := by rw [hU9]; exact Kept.box ((((((((((HX1.bx.puts 0 (.int .i64 l.age) (cs' := #[.int .i64 l.age, .int .i64 0, .int .i64 0, .int .i64 0, .int .i64 0, .int .i64 0, .slice none 0 0, .slice none 0 0, .int .i64 0, .int .i64 0]) rfl).puts 1 (.int .i64 l.options) (cs' := #[.int .i64 l.age, .int .i64 l.options, .int .i64 0, .int .i64 0, .int .i64 0, .int .i64 0, .slice none 0 0, .slice none 0 0, .int .i64 0, .int .i64 0]) rfl).puts 2 (.int .i64 l.typ) (cs' := #[.int .i64 l.age, .int .i64 l.options, .int .i64 l.typ, .int .i64 0, .int .i64 0, .int .i64 0, .slice none 0 0, .slice none 0 0, .int .i64 0, .int .i64 0]) rfl).puts 3 (.int .i64 l.id) (cs' := #[.int .i64 l.age, .int .i64 l.options, .int .i64 l.typ, .int .i64 l.id, .int .i64 0, .int .i64 0, .slice none 0 0, .slice none 0 0, .int .i64 0, .int .i64 0]) rfl).puts 4 (.int .i64 l.adv) (cs' := #[.int .i64 l.age, .int .i64 l.options, .int .i64 l.typ, .int .i64 l.id, .int .i64 l.adv, .int .i64 0, .slice none 0 0, .slice none 0 0, .int .i64 0, .int .i64 0]) rfl).puts 5 (.int .i64 l.seq) (cs' := #[.int .i64 l.age, .int .i64 l.options, .int .i64 l.typ, .int .i64 l.id, .int .i64 l.adv, .int .i64 l.seq, .slice none 0 0, .slice none 0 0, .int .i64 0, .int .i64 0]) rfl).puts 6 (.slice A n c) (cs' := #[.int .i64 l.age, .int .i64 l.options, .int .i64 l.typ, .int .i64 l.id, .int .i64 l.adv, .int .i64 l.seq, .slice A n c, .slice none 0 0, .int .i64 0, .int .i64 0]) rfl).puts 7 (.slice B m d) (cs' := #[.int .i64 l.age, .int .i64 l.options, .int .i64 l.typ, .int .i64 l.id, .int .i64 l.adv, .int .i64 l.seq, .slice A n c, .slice B m d, .int .i64 0, .int .i64 0]) rfl).puts 8 (.int .i64 l.mask) (cs' := #[.int .i64 l.age, .int .i64 l.options, .int .i64 l.typ, .int .i64 l.id, .int .i64 l.adv, .int .i64 l.seq, .slice A n c, .slice B m d, .int .i64 l.mask, .int .i64 0]) rfl).puts 9 (.int .i64 l.cost) (cs' := #[.int .i64 l.age, .int .i64 l.options, .int .i64 l.typ, .int .i64 l.id, .int .i64 l.adv, .int .i64 l.seq, .slice A n c, .slice B m d, .int .i64 l.mask, .int .i64 l.cost]) rfl)
        replace HS := HS.only ho (by have := Y11.out; omega)
        replace HX2 := HX2.only ho (by have := Y11.out; omega)
        replace HA := HA.only ho (by have := Y11.out; omega)
        replace HX3 := HX3.only ho (by have := Y11.out; omega)
        replace HK := HK.only ho (by have := Y11.out; omega)
        replace HX4 := HX4.only ho (by have := Y11.out; omega)
        have Z9 : Hid (U9.heap.size = w8.heap.size) := Lib.hid (by rw [hU9]; simp [World.setCell]); clear ho
        have Y12 := Lib.hid (And.intro Y11.out Z9.out); clear Y11 Z9
        obtain ⟨U10, hU10⟩ : ∃ W : World, W = ((((((((((U9.setCell ⟨w.heap.size + 1, 0, none⟩ (.int .i64 k.age)).setCell ⟨w.heap.size + 1, 1, none⟩ (.int .i64 k.options)).setCell ⟨w.heap.size + 1, 2, none⟩ (.int .i64 k.typ)).setCell ⟨w.heap.size + 1, 3, none⟩ (.int .i64 k.id)).setCell ⟨w.heap.size + 1, 4, none⟩ (.int .i64 k.adv)).setCell ⟨w.heap.size + 1, 5, none⟩ (.int .i64 k.seq)).setCell ⟨w.heap.size + 1, 6, none⟩ (.slice A2 n2 c2)).setCell ⟨w.heap.size + 1, 7, none⟩ (.slice B2 m2 d2)).setCell ⟨w.heap.size + 1, 8, none⟩ (.int .i64 k.mask)).setCell ⟨w.heap.size + 1, 9, none⟩ (.int .i64 k.cost)) := ⟨_, rfl⟩
        have ho : Only (w.heap.size + 1) (w.heap.size + 1 + 1) U9 U10 := by rw [hU10]; exact (((((((((((Only.refl _ _ _).set (p := ⟨w.heap.size + 1, 0, none⟩) (Nat.le_refl _) (Nat.lt_succ_self _) _).set (p := ⟨w.heap.size + 1, 1, none⟩) (Nat.le_refl _) (Nat.lt_succ_self _) _).set (p := ⟨w.heap.size + 1, 2, none⟩) (Nat.le_refl _) (Nat.lt_succ_self _) _).set (p := ⟨w.heap.size + 1, 3, none⟩) (Nat.le_refl _) (Nat.lt_succ_self _) _).set (p := ⟨w.heap.size + 1, 4, none⟩) (Nat.le_refl _) (Nat.lt_succ_self _) _).set (p := ⟨w.heap.size + 1, 5, none⟩) (Nat.le_refl _) (Nat.lt_succ_self _) _).set (p := ⟨w.heap.size + 1, 6, none⟩) (Nat.le_refl _) (Nat.lt_succ_self _) _).set (p := ⟨w.heap.size + 1, 7, none⟩) (Nat.le_refl _) (Nat.lt_succ_self _) _).set (p := ⟨w.heap.size + 1, 8, none⟩) (Nat.le_refl _) (Nat.lt_succ_self _) _).set (p := ⟨w.heap.size + 1, 9, none⟩) (Nat.le_refl _) (Nat.lt_succ_self _) _)
        replace HX2 : Kept (w.heap.size + 1) (w.heap.size + 1 + 1) (BoxK (w.heap.size + 1) 29 #[.int .i64 k.age, .int .i64 k.options, .int .i64 k.typ, .int .i64 k.id, .int .i64 k.adv, .int .i64 k.seq, .slice A2 n2 c2, .slice B2 m2 d2, .int .i64 k.mask, .int .i64 k.cost]) U10 := by rw [hU10]; exact Kept.box ((((((((((HX2.bx.puts 0 (.int .i64 k.age) (cs' := #[.int .i64 k.age, .int .i64 0, .int .i64 0, .int .i64 0, .int .i64 0, .int .i64 0, .slice none 0 0, .slice none 0 0, .int .i64 0, .int .i64 0]) rfl).puts 1 (.int .i64 k.options) (cs' := #[.int .i64 k.age, .int .i64 k.options, .int .i64 0, .int .i64 0, .int .i64 0, .int .i64 0, .slice none 0 0, .slice none 0 0, .int .i64 0, .int .i64 0]) rfl).puts 2 (.int .i64 k.typ) (cs' := #[.int .i64 k.age, .int .i64 k.options, .int .i64 k.typ, .int .i64 0, .int .i64 0, .int .i64 0, .slice none 0 0, .slice none 0 0, .int .i64 0, .int .i64 0]) rfl).puts 3 (.int .i64 k.id) (cs' := #[.int .i64 k.age, .int .i64 k.options, .int .i64 k.typ, .int .i64 k.id, .int .i64 0, .int .i64 0, .slice none 0 0, .slice none 0 0, .int .i64 0, .int .i64 0]) rfl).puts 4 (.int .i64 k.adv) (cs' := #[.int .i64 k.age, .int .i64 k.options, .int .i64 k.typ, .int .i64 k.id, .int .i64 k.adv, .int .i64 0, .slice none 0 0, .slice none 0 0, .int .i64 0, .int .i64 0]) rfl).puts 5 (.int .i64 k.seq) (cs' := #[.int .i64 k.age, .int .i64 k.options, .int .i64 k.typ, .int .i64 k.id, .int .i64 k.adv, .int .i64 k.seq, .slice none 0 0, .slice none 0 0, .int .i64 0, .int .i64 0]) rfl).puts 6 (.slice A2 n2 c2) (cs' := #[.int .i64 k.age, .int .i64 k.options, .int .i64 k.typ, .int .i64 k.id, .int .i64 k.adv, .int .i64 k.seq, .slice A2 n2 c2, .slice none 0 0, .int .i64 0, .int .i64 0]) rfl).puts 7 (.slice B2 m2 d2) (cs' := #[.int .i64 k.age, .int .i64 k.options, .int .i64 k.typ, .int .i64 k.id, .int .i64 k.adv, .int .i64 k.seq, .slice A2 n2 c2, .slice B2 m2 d2, .int .i64 0, .int .i64 0]) rfl).puts 8 (.int .i64 k.mask) (cs' := #[.int .i64 k.age, .int .i64 k.options, .int .i64 k.typ, .int .i64 k.id, .int .i64 k.adv, .int .i64 k.seq, .slice A2 n2 c2, .slice B2 m2 d2, .int .i64 k.mask, .int .i64 0]) rfl).puts 9 (.int .i64 k.cost) (cs' := #[.int .i64 k.age, .int .i64 k.options, .int .i64 k.typ, .int .i64 k.id, .int .i64 k.adv, .int .i64 k.seq, .slice A2 n2 c2, .slice B2 m2 d2, .int .i64 k.mask, .int .i64 k.cost]) rfl)
        replace HS := HS.only ho (by have := Y12.out; omega)
        replace HX1 := HX1.only ho (by have := Y12.out; omega)
        replace HA := HA.only ho (by have := Y12.out; omega)
        replace HX3 := HX3.only ho (by have := Y12.out; omega)
        replace HK := HK.only ho (by have := Y12.out; omega)
        replace HX4 := HX4.only ho (by have := Y12.out; omega)
        have Z10 : Hid (U10.heap.size = U9.heap.size) := Lib.hid (by rw [hU10]; simp [World.setCell]); clear ho
        have Y13 := Lib.hid (And.intro Y12.out Z10.out); clear Y12 Z10
        obtain ⟨U11, hU11⟩ : ∃ W : World, W = U10.drew := ⟨_, rfl⟩
        have hb : Below U10.heap.size U10 U11 := by rw [hU11]; exact (Below.refl _ _).drew
        have zz : Hid (U10.heap.size = U11.heap.size) := Lib.hid (by rw [hU11]; simp)
        replace HS := HS.below hb
        replace HX1 := HX1.below hb
        replace HX2 := HX2.below hb
        replace HA := HA.below hb
        replace HX3 := HX3.below hb
        replace HK := HK.below hb
        replace HX4 := HX4.below hb
        clear hb
        have Z11 := zz; clear zz
        have Y14 := Lib.hid (And.intro Y13.out Z11.out); clear Y13 Z11
        have q0_0 := HX1.look 0
        have q0_1 := HX1.look 1
        have q0_2 := HX1.look 2
        have q0_3 := HX1.look 3
        have q0_4 := HX1.look 4
        have q0_5 := HX1.look 5
        have q0_6 := HX1.look 6
        have q0_7 := HX1.look 7
        have q0_8 := HX1.look 8
        have q0_9 := HX1.look 9
        have q1_0 := HX2.look 0
        have q1_1 := HX2.look 1
        have q1_2 := HX2.look 2
        have q1_3 := HX2.look 3
        have q1_4 := HX2.look 4
        have q1_5 := HX2.look 5
        have q1_6 := HX2.look 6
        have q1_7 := HX2.look 7
        have q1_8 := HX2.look 8
        have q1_9 := HX2.look 9
        have fin : ∀ e, e = Ending.returned (.tuple #[.agg (lsaCells ⟨l.age, l.options, l.typ, l.id, l.adv, l.seq, l.links, l.routers, l.mask, l.cost⟩ A B n c m d), .agg (lsaCells ⟨k.age, k.options, k.typ, k.id, k.adv, k.seq, k.links, k.routers, k.mask, k.cost⟩ A2 B2 n2 c2 m2 d2)]) → (PairOut w g A0 n0 c0 cs (K + 200) e U11) := by rintro _ rfl; exact ⟨_, _, _, _, _, _, _, _, _, _, _, _, _, _, rfl, LsaAt.wide (lo' := w.heap.size) (hi' := U11.heap.size) HA.lsa rfl rfl (by have := Y14.out; omega) (by have := Y14.out; omega) (Nat.le_refl _), LsaAt.wide (lo' := w.heap.size) (hi' := U11.heap.size) HK.lsa rfl rfl (by have := Y14.out; omega) (by have := Y14.out; omega) (Nat.le_refl _), by omega, by omega, by omega, by omega, HS.more (by omega)⟩
        subst hU11 hU10 hU9
        exact bodyPost_ret (v := .tuple #[.agg (lsaCells ⟨l.age, l.options, l.typ, l.id, l.adv, l.seq, l.links, l.routers, l.mask, l.cost⟩ A B n c m d), .agg (lsaCells ⟨k.age, k.options, k.typ, k.id, k.adv, k.seq, k.links, k.routers, k.mask, k.cost⟩ A2 B2 n2 c2 m2 d2)]) (by simp [results, Try.results87, go_sem, lsaCells, q0_0, q0_1, q0_2, q0_3, q0_4, q0_5, q0_6, q0_7, q0_8, q0_9, q1_0, q1_1, q1_2, q1_3, q1_4, q1_5, q1_6, q1_7, q1_8, q1_9]) rfl (fin _ rfl)
    · have l6_0 := HX1.bx.lt
      have l6_1 := HX2.bx.lt
      have l6_2 := HX3.bx.lt
      have l6_3 := HX4.bx.lt
      go_wp2_with fail
      clear l6_0 l6_1 l6_2 l6_3
      refine (l2Bent_any g A0 n0 c0 cs _ _ HS.here (by omega)).mono ?_
      rintro e w9 ⟨j, A4, B4, n4, c4, m4, d4, rfl, hl, hn4, hm4, hs⟩
      have ho := hs.fr
      have Z9 := Lib.hid ho.size
      have Y12 := Lib.hid (And.intro Y11.out Z9.out); clear Y11 Z9
      replace HX1 := HX1.only ho (by have := Y12.out; omega)
      replace HX2 := HX2.only ho (by have := Y12.out; omega)
      replace HA := HA.only ho (by have := Y12.out; omega)
      replace HX3 := HX3.only ho (by have := Y12.out; omega)
      replace HK := HK.only ho (by have := Y12.out; omega)
      replace HX4 := HX4.only ho (by have := Y12.out; omega)
      replace HS := HS.next hs; clear ho hs
      have HJ := hl.kept; clear hl
      have c7_0 := HX3.look 0
      have c7_1 := HX3.look 1
      have c7_2 := HX3.look 2
      have c7_3 := HX3.look 3
      have c7_4 := HX3.look 4
      have c7_5 := HX3.look 5
      have c7_6 := HX3.look 6
      have c7_7 := HX3.look 7
      have c7_8 := HX3.look 8
      have c7_9 := HX3.look 9
      have f7_0 := HX3.free 0
      have f7_1 := HX3.free 1
      have f7_2 := HX3.free 2
      have f7_3 := HX3.free 3
      have f7_4 := HX3.free 4
      have f7_5 := HX3.free 5
      have f7_6 := HX3.free 6
      have f7_7 := HX3.free 7
      have f7_8 := HX3.free 8
      have f7_9 := HX3.free 9
      have l7_0 := HX1.bx.lt
      have l7_1 := HX2.bx.lt
      have l7_2 := HX3.bx.lt
      have l7_3 := HX4.bx.lt
      go_wp2_with fail
      clear c7_0 c7_1 c7_2 c7_3 c7_4 c7_5 c7_6 c7_7 c7_8 c7_9 f7_0 f7_1 f7_2 f7_3 f7_4 f7_5 f7_6 f7_7 f7_8 f7_9 l7_0 l7_1 l7_2 l7_3
      refine Code.wp_name ?_
      intro U10 hU10
      have ho : Only w2.heap.size (w2.heap.size + 1) w9 U10 := by rw [hU10]; exact (((((((((((Only.refl _ _ _).set (p := ⟨w2.heap.size, 0, none⟩) (Nat.le_refl _) (Nat.lt_succ_self _) _).set (p := ⟨w2.heap.size, 1, none⟩) (Nat.le_refl _) (Nat.lt_succ_self _) _).set (p := ⟨w2.heap.size, 2, none⟩) (Nat.le_refl _) (Nat.lt_succ_self _) _).set (p := ⟨w2.heap.size, 3, none⟩) (Nat.le_refl _) (Nat.lt_succ_self _) _).set (p := ⟨w2.heap.size, 4, none⟩) (Nat.le_refl _) (Nat.lt_succ_self _) _).set (p := ⟨w2.heap.size, 5, none⟩) (Nat.le_refl _) (Nat.lt_succ_self _) _).set (p := ⟨w2.heap.size, 6, none⟩) (Nat.le_refl _) (Nat.lt_succ_self _) _).set (p := ⟨w2.heap.size, 7, none⟩) (Nat.le_refl _) (Nat.lt_succ_self _) _).set (p := ⟨w2.heap.size, 8, none⟩) (Nat.le_refl _) (Nat.lt_succ_self _) _).set (p := ⟨w2.heap.size, 9, none⟩) (Nat.le_refl _) (Nat.lt_succ_self _) _)
      replace HX3 : Kept w2.heap.size (w2.heap.size + 1) (BoxK w2.heap.size 29 #[.int .i64 j.age, .int .i64 j.options, .int .i64 j.typ, .int .i64 j.id, .int .i64 j.adv, .int .i64 j.seq, .slice A4 n4 c4, .slice B4 m4 d4, .int .i64 j.mask, .int .i64 j.cost]) U10 := by rw [hU10]; exact Kept.box ((((((((((HX3.bx.puts 0 (.int .i64 j.age) (cs' := #[.int .i64 j.age, .int .i64 l.options, .int .i64 l.typ, .int .i64 l.id, .int .i64 l.adv, .int .i64 l.seq, .slice A n c, .slice B m d, .int .i64 l.mask, .int .i64 l.cost]) rfl).puts 1 (.int .i64 j.options) (cs' := #[.int .i64 j.age, .int .i64 j.options, .int .i64 l.typ, .int .i64 l.id, .int .i64 l.adv, .int .i64 l.seq, .slice A n c, .slice B m d, .int .i64 l.mask, .int .i64 l.cost]) rfl).puts 2 (.int .i64 j.typ) (cs' := #[.int .i64 j.age, .int .i64 j.options, .int .i64 j.typ, .int .i64 l.id, .int .i64 l.adv, .int .i64 l.seq, .slice A n c, .slice B m d, .int .i64 l.mask, .int .i64 l.cost]) rfl).puts 3 (.int .i64 j.id) (cs' := #[.int .i64 j.age, .int .i64 j.options, .int .i64 j.typ, .int .i64 j.id, .int .i64 l.adv, .int .i64 l.seq, .slice A n c, .slice B m d, .int .i64 l.mask, .int .i64 l.cost]) rfl).puts 4 (.int .i64 j.adv) (cs' := #[.int .i64 j.age, .int .i64 j.options, .int .i64 j.typ, .int .i64 j.id, .int .i64 j.adv, .int .i64 l.seq, .slice A n c, .slice B m d, .int .i64 l.mask, .int .i64 l.cost]) rfl).puts 5 (.int .i64 j.seq) (cs' := #[.int .i64 j.age, .int .i64 j.options, .int .i64 j.typ, .int .i64 j.id, .int .i64 j.adv, .int .i64 j.seq, .slice A n c, .slice B m d, .int .i64 l.mask, .int .i64 l.cost]) rfl).puts 6 (.slice A4 n4 c4) (cs' := #[.int .i64 j.age, .int .i64 j.options, .int .i64 j.typ, .int .i64 j.id, .int .i64 j.adv, .int .i64 j.seq, .slice A4 n4 c4, .slice B m d, .int .i64 l.mask, .int .i64 l.cost]) rfl).puts 7 (.slice B4 m4 d4) (cs' := #[.int .i64 j.age, .int .i64 j.options, .int .i64 j.typ, .int .i64 j.id, .int .i64 j.adv, .int .i64 j.seq, .slice A4 n4 c4, .slice B4 m4 d4, .int .i64 l.mask, .int .i64 l.cost]) rfl).puts 8 (.int .i64 j.mask) (cs' := #[.int .i64 j.age, .int .i64 j.options, .int .i64 j.typ, .int .i64 j.id, .int .i64 j.adv, .int .i64 j.seq, .slice A4 n4 c4, .slice B4 m4 d4, .int .i64 j.mask, .int .i64 l.cost]) rfl).puts 9 (.int .i64 j.cost) (cs' := #[.int .i64 j.age, .int .i64 j.options, .int .i64 j.typ, .int .i64 j.id, .int .i64 j.adv, .int .i64 j.seq, .slice A4 n4 c4, .slice B4 m4 d4, .int .i64 j.mask, .int .i64 j.cost]) rfl)
      replace HS := HS.only ho (by have := Y12.out; omega)
      replace HX1 := HX1.only ho (by have := Y12.out; omega)
      replace HX2 := HX2.only ho (by have := Y12.out; omega)
      replace HA := HA.only ho (by have := Y12.out; omega)
      replace HK := HK.only ho (by have := Y12.out; omega)
      replace HX4 := HX4.only ho (by have := Y12.out; omega)
      replace HJ := HJ.only ho (by have := Y12.out; omega)
      have Z10 : Hid (U10.heap.size = w9.heap.size) := Lib.hid (by rw [hU10]; simp [World.setCell]); clear ho
      have Y13 := Lib.hid (And.intro Y12.out Z10.out); clear Y12 Z10
      clear hU10
      have c8_0 := HX1.look 0
      have c8_1 := HX1.look 1
      have c8_2 := HX1.look 2
      have c8_3 := HX1.look 3
      have c8_4 := HX1.look 4
      have c8_5 := HX1.look 5
      have c8_6 := HX1.look 6
      have c8_7 := HX1.look 7
      have c8_8 := HX1.look 8
      have c8_9 := HX1.look 9
      have c8_10 := HX2.look 0
      have c8_11 := HX2.look 1
      have c8_12 := HX2.look 2
      have c8_13 := HX2.look 3
      have c8_14 := HX2.look 4
      have c8_15 := HX2.look 5
      have c8_16 := HX2.look 6
      have c8_17 := HX2.look 7
      have c8_18 := HX2.look 8
      have c8_19 := HX2.look 9
      have c8_20 := HX3.look 0
      have c8_21 := HX3.look 1
      have c8_22 := HX3.look 2
      have c8_23 := HX3.look 3
      have c8_24 := HX3.look 4
      have c8_25 := HX3.look 5
      have c8_26 := HX3.look 6
      have c8_27 := HX3.look 7
      have c8_28 := HX3.look 8
      have c8_29 := HX3.look 9
      have c8_30 := HX4.look 0
      have c8_31 := HX4.look 1
      have c8_32 := HX4.look 2
      have c8_33 := HX4.look 3
      have c8_34 := HX4.look 4
      have c8_35 := HX4.look 5
      have c8_36 := HX4.look 6
      have c8_37 := HX4.look 7
      have c8_38 := HX4.look 8
      have c8_39 := HX4.look 9
      have f8_0 := HX1.free 0
      have f8_1 := HX1.free 1
      have f8_2 := HX1.free 2
      have f8_3 := HX1.free 3
      have f8_4 := HX1.free 4
      have f8_5 := HX1.free 5
      have f8_6 := HX1.free 6
      have f8_7 := HX1.free 7
      have f8_8 := HX1.free 8
      have f8_9 := HX1.free 9
      have f8_10 := HX2.free 0
      have f8_11 := HX2.free 1
      have f8_12 := HX2.free 2
      have f8_13 := HX2.free 3
      have f8_14 := HX2.free 4
      have f8_15 := HX2.free 5
      have f8_16 := HX2.free 6
      have f8_17 := HX2.free 7
      have f8_18 := HX2.free 8
      have f8_19 := HX2.free 9
      have l8_0 := HX1.bx.lt
      have l8_1 := HX2.bx.lt
      have l8_2 := HX3.bx.lt
      have l8_3 := HX4.bx.lt
      have n8_0_1 : ¬ w.heap.size = (w.heap.size + 1) := (by have := Y13.out; omega)
      have m8_0_1 : ¬ (w.heap.size + 1) = w.heap.size := (by have := Y13.out; omega)
      have n8_0_2 : ¬ w.heap.size = w2.heap.size := (by have := Y13.out; omega)
      have m8_0_2 : ¬ w2.heap.size = w.heap.size := (by have := Y13.out; omega)
      have n8_0_3 : ¬ w.heap.size = w4.heap.size := (by have := Y13.out; omega)
      have m8_0_3 : ¬ w4.heap.size = w.heap.size := (by have := Y13.out; omega)
      have n8_1_2 : ¬ (w.heap.size + 1) = w2.heap.size := (by have := Y13.out; omega)
      have m8_1_2 : ¬ w2.heap.size = (w.heap.size + 1) := (by have := Y13.out; omega)
      have n8_1_3 : ¬ (w.heap.size + 1) = w4.heap.size := (by have := Y13.out; omega)
      have m8_1_3 : ¬ w4.heap.size = (w.heap.size + 1) := (by have := Y13.out; omega)
      go_region_law (fail)
      all_goals
        have l9_0 := HX1.bx.lt
        have l9_1 := HX2.bx.lt
        have l9_2 := HX3.bx.lt
        have l9_3 := HX4.bx.lt
        go_wp2
        clear l9_0 l9_1 l9_2 l9_3
        obtain ⟨U11, hU11⟩ : ∃ W : World, W = ((((((((((U10.setCell ⟨w.heap.size, 0, none⟩ (.int .i64 j.age)).setCell ⟨w.heap.size, 1, none⟩ (.int .i64 j.options)).setCell ⟨w.heap.size, 2, none⟩ (.int .i64 j.typ)).setCell ⟨w.heap.size, 3, none⟩ (.int .i64 j.id)).setCell ⟨w.heap.size, 4, none⟩ (.int .i64 j.adv)).setCell ⟨w.heap.size, 5, none⟩ (.int .i64 j.seq)).setCell ⟨w.heap.size, 6, none⟩ (.slice A4 n4 c4)).setCell ⟨w.heap.size, 7, none⟩ (.slice B4 m4 d4)).setCell ⟨w.heap.size, 8, none⟩ (.int .i64 j.mask)).setCell ⟨w.heap.size, 9, none⟩ (.int .i64 j.cost)) := ⟨_, rfl⟩
        have ho : Only w.heap.size (w.heap.size + 1) U10 U11 := by rw [hU11]; exact (((((((((((Only.refl _ _ _).set (p := ⟨w.heap.size, 0, none⟩) (Nat.le_refl _) (Nat.lt_succ_self _) _).set (p := ⟨w.heap.size, 1, none⟩) (Nat.le_refl _) (Nat.lt_succ_self _) _).set (p := ⟨w.heap.size, 2, none⟩) (Nat.le_refl _) (Nat.lt_succ_self _) _).set (p := ⟨w.heap.size, 3, none⟩) (Nat.le_refl _) (Nat.lt_succ_self _) _).set (p := ⟨w.heap.size, 4, none⟩) (Nat.le_refl _) (Nat.lt_succ_self _) _).set (p := ⟨w.heap.size, 5, none⟩) (Nat.le_refl _) (Nat.lt_succ_self _) _).set (p := ⟨w.heap.size, 6, none⟩) (Nat.le_refl _) (Nat.lt_succ_self _) _).set (p := ⟨w.heap.size, 7, none⟩) (Nat.le_refl _) (Nat.lt_succ_self _) _).set (p := ⟨w.heap.size, 8, none⟩) (Nat.le_refl _) (Nat.lt_succ_self _) _).set (p := ⟨w.heap.size, 9, none⟩) (Nat.le_refl _) (Nat.lt_succ_self _) _)
        replace HX1 : Kept w.heap.size (w.heap.size + 1) (BoxK w.heap.size 29 #[.int .i64 j.age, .int .i64 j.options, .int .i64 j.typ, .int .i64 j.id, .int .i64 j.adv, .int .i64 j.seq, .slice A4 n4 c4, .slice B4 m4 d4, .int .i64 j.mask, .int .i64 j.cost]) U11 := by rw [hU11]; exact Kept.box ((((((((((HX1.bx.puts 0 (.int .i64 j.age) (cs' := #[.int .i64 j.age, .int .i64 0, .int .i64 0, .int .i64 0, .int .i64 0, .int .i64 0, .slice none 0 0, .slice none 0 0, .int .i64 0, .int .i64 0]) rfl).puts 1 (.int .i64 j.options) (cs' := #[.int .i64 j.age, .int .i64 j.options, .int .i64 0, .int .i64 0, .int .i64 0, .int .i64 0, .slice none 0 0, .slice none 0 0, .int .i64 0, .int .i64 0]) rfl).puts 2 (.int .i64 j.typ) (cs' := #[.int .i64 j.age, .int .i64 j.options, .int .i64 j.typ, .int .i64 0, .int .i64 0, .int .i64 0, .slice none 0 0, .slice none 0 0, .int .i64 0, .int .i64 0]) rfl).puts 3 (.int .i64 j.id) (cs' := #[.int .i64 j.age, .int .i64 j.options, .int .i64 j.typ, .int .i64 j.id, .int .i64 0, .int .i64 0, .slice none 0 0, .slice none 0 0, .int .i64 0, .int .i64 0]) rfl).puts 4 (.int .i64 j.adv) (cs' := #[.int .i64 j.age, .int .i64 j.options, .int .i64 j.typ, .int .i64 j.id, .int .i64 j.adv, .int .i64 0, .slice none 0 0, .slice none 0 0, .int .i64 0, .int .i64 0]) rfl).puts 5 (.int .i64 j.seq) (cs' := #[.int .i64 j.age, .int .i64 j.options, .int .i64 j.typ, .int .i64 j.id, .int .i64 j.adv, .int .i64 j.seq, .slice none 0 0, .slice none 0 0, .int .i64 0, .int .i64 0]) rfl).puts 6 (.slice A4 n4 c4) (cs' := #[.int .i64 j.age, .int .i64 j.options, .int .i64 j.typ, .int .i64 j.id, .int .i64 j.adv, .int .i64 j.seq, .slice A4 n4 c4, .slice none 0 0, .int .i64 0, .int .i64 0]) rfl).puts 7 (.slice B4 m4 d4) (cs' := #[.int .i64 j.age, .int .i64 j.options, .int .i64 j.typ, .int .i64 j.id, .int .i64 j.adv, .int .i64 j.seq, .slice A4 n4 c4, .slice B4 m4 d4, .int .i64 0, .int .i64 0]) rfl).puts 8 (.int .i64 j.mask) (cs' := #[.int .i64 j.age, .int .i64 j.options, .int .i64 j.typ, .int .i64 j.id, .int .i64 j.adv, .int .i64 j.seq, .slice A4 n4 c4, .slice B4 m4 d4, .int .i64 j.mask, .int .i64 0]) rfl).puts 9 (.int .i64 j.cost) (cs' := #[.int .i64 j.age, .int .i64 j.options, .int .i64 j.typ, .int .i64 j.id, .int .i64 j.adv, .int .i64 j.seq, .slice A4 n4 c4, .slice B4 m4 d4, .int .i64 j.mask, .int .i64 j.cost]) rfl)
        replace HS := HS.only ho (by have := Y13.out; omega)
        replace HX2 := HX2.only ho (by have := Y13.out; omega)
        replace HA := HA.only ho (by have := Y13.out; omega)
        replace HX3 := HX3.only ho (by have := Y13.out; omega)
        replace HK := HK.only ho (by have := Y13.out; omega)
        replace HX4 := HX4.only ho (by have := Y13.out; omega)
        replace HJ := HJ.only ho (by have := Y13.out; omega)
        have Z11 : Hid (U11.heap.size = U10.heap.size) := Lib.hid (by rw [hU11]; simp [World.setCell]); clear ho
        have Y14 := Lib.hid (And.intro Y13.out Z11.out); clear Y13 Z11
        obtain ⟨U12, hU12⟩ : ∃ W : World, W = ((((((((((U11.setCell ⟨w.heap.size + 1, 0, none⟩ (.int .i64 k.age)).setCell ⟨w.heap.size + 1, 1, none⟩ (.int .i64 k.options)).setCell ⟨w.heap.size + 1, 2, none⟩ (.int .i64 k.typ)).setCell ⟨w.heap.size + 1, 3, none⟩ (.int .i64 k.id)).setCell ⟨w.heap.size + 1, 4, none⟩ (.int .i64 k.adv)).setCell ⟨w.heap.size + 1, 5, none⟩ (.int .i64 k.seq)).setCell ⟨w.heap.size + 1, 6, none⟩ (.slice A2 n2 c2)).setCell ⟨w.heap.size + 1, 7, none⟩ (.slice B2 m2 d2)).setCell ⟨w.heap.size + 1, 8, none⟩ (.int .i64 k.mask)).setCell ⟨w.heap.size + 1, 9, none⟩ (.int .i64 k.cost)) := ⟨_, rfl⟩
        have ho : Only (w.heap.size + 1) (w.heap.size + 1 + 1) U11 U12 := by rw [hU12]; exact (((((((((((Only.refl _ _ _).set (p := ⟨w.heap.size + 1, 0, none⟩) (Nat.le_refl _) (Nat.lt_succ_self _) _).set (p := ⟨w.heap.size + 1, 1, none⟩) (Nat.le_refl _) (Nat.lt_succ_self _) _).set (p := ⟨w.heap.size + 1, 2, none⟩) (Nat.le_refl _) (Nat.lt_succ_self _) _).set (p := ⟨w.heap.size + 1, 3, none⟩) (Nat.le_refl _) (Nat.lt_succ_self _) _).set (p := ⟨w.heap.size + 1, 4, none⟩) (Nat.le_refl _) (Nat.lt_succ_self _) _).set (p := ⟨w.heap.size + 1, 5, none⟩) (Nat.le_refl _) (Nat.lt_succ_self _) _).set (p := ⟨w.heap.size + 1, 6, none⟩) (Nat.le_refl _) (Nat.lt_succ_self _) _).set (p := ⟨w.heap.size + 1, 7, none⟩) (Nat.le_refl _) (Nat.lt_succ_self _) _).set (p := ⟨w.heap.size + 1, 8, none⟩) (Nat.le_refl _) (Nat.lt_succ_self _) _).set (p := ⟨w.heap.size + 1, 9, none⟩) (Nat.le_refl _) (Nat.lt_succ_self _) _)
        replace HX2 : Kept (w.heap.size + 1) (w.heap.size + 1 + 1) (BoxK (w.heap.size + 1) 29 #[.int .i64 k.age, .int .i64 k.options, .int .i64 k.typ, .int .i64 k.id, .int .i64 k.adv, .int .i64 k.seq, .slice A2 n2 c2, .slice B2 m2 d2, .int .i64 k.mask, .int .i64 k.cost]) U12 := by rw [hU12]; exact Kept.box ((((((((((HX2.bx.puts 0 (.int .i64 k.age) (cs' := #[.int .i64 k.age, .int .i64 0, .int .i64 0, .int .i64 0, .int .i64 0, .int .i64 0, .slice none 0 0, .slice none 0 0, .int .i64 0, .int .i64 0]) rfl).puts 1 (.int .i64 k.options) (cs' := #[.int .i64 k.age, .int .i64 k.options, .int .i64 0, .int .i64 0, .int .i64 0, .int .i64 0, .slice none 0 0, .slice none 0 0, .int .i64 0, .int .i64 0]) rfl).puts 2 (.int .i64 k.typ) (cs' := #[.int .i64 k.age, .int .i64 k.options, .int .i64 k.typ, .int .i64 0, .int .i64 0, .int .i64 0, .slice none 0 0, .slice none 0 0, .int .i64 0, .int .i64 0]) rfl).puts 3 (.int .i64 k.id) (cs' := #[.int .i64 k.age, .int .i64 k.options, .int .i64 k.typ, .int .i64 k.id, .int .i64 0, .int .i64 0, .slice none 0 0, .slice none 0 0, .int .i64 0, .int .i64 0]) rfl).puts 4 (.int .i64 k.adv) (cs' := #[.int .i64 k.age, .int .i64 k.options, .int .i64 k.typ, .int .i64 k.id, .int .i64 k.adv, .int .i64 0, .slice none 0 0, .slice none 0 0, .int .i64 0, .int .i64 0]) rfl).puts 5 (.int .i64 k.seq) (cs' := #[.int .i64 k.age, .int .i64 k.options, .int .i64 k.typ, .int .i64 k.id, .int .i64 k.adv, .int .i64 k.seq, .slice none 0 0, .slice none 0 0, .int .i64 0, .int .i64 0]) rfl).puts 6 (.slice A2 n2 c2) (cs' := #[.int .i64 k.age, .int .i64 k.options, .int .i64 k.typ, .int .i64 k.id, .int .i64 k.adv, .int .i64 k.seq, .slice A2 n2 c2, .slice none 0 0, .int .i64 0, .int .i64 0]) rfl).puts 7 (.slice B2 m2 d2) (cs' := #[.int .i64 k.age, .int .i64 k.options, .int .i64 k.typ, .int .i64 k.id, .int .i64 k.adv, .int .i64 k.seq, .slice A2 n2 c2, .slice B2 m2 d2, .int .i64 0, .int .i64 0]) rfl).puts 8 (.int .i64 k.mask) (cs' := #[.int .i64 k.age, .int .i64 k.options, .int .i64 k.typ, .int .i64 k.id, .int .i64 k.adv, .int .i64 k.seq, .slice A2 n2 c2, .slice B2 m2 d2, .int .i64 k.mask, .int .i64 0]) rfl).puts 9 (.int .i64 k.cost) (cs' := #[.int .i64 k.age, .int .i64 k.options, .int .i64 k.typ, .int .i64 k.id, .int .i64 k.adv, .int .i64 k.seq, .slice A2 n2 c2, .slice B2 m2 d2, .int .i64 k.mask, .int .i64 k.cost]) rfl)
        replace HS := HS.only ho (by have := Y14.out; omega)
        replace HX1 := HX1.only ho (by have := Y14.out; omega)
        replace HA := HA.only ho (by have := Y14.out; omega)
        replace HX3 := HX3.only ho (by have := Y14.out; omega)
        replace HK := HK.only ho (by have := Y14.out; omega)
        replace HX4 := HX4.only ho (by have := Y14.out; omega)
        replace HJ := HJ.only ho (by have := Y14.out; omega)
        have Z12 : Hid (U12.heap.size = U11.heap.size) := Lib.hid (by rw [hU12]; simp [World.setCell]); clear ho
        have Y15 := Lib.hid (And.intro Y14.out Z12.out); clear Y14 Z12
        obtain ⟨U13, hU13⟩ : ∃ W : World, W = U12.drew := ⟨_, rfl⟩
        have hb : Below U12.heap.size U12 U13 := by rw [hU13]; exact (Below.refl _ _).drew
        have zz : Hid (U12.heap.size = U13.heap.size) := Lib.hid (by rw [hU13]; simp)
        replace HS := HS.below hb
        replace HX1 := HX1.below hb
        replace HX2 := HX2.below hb
        replace HA := HA.below hb
        replace HX3 := HX3.below hb
        replace HK := HK.below hb
        replace HX4 := HX4.below hb
        replace HJ := HJ.below hb
        clear hb
        have Z13 := zz; clear zz
        have Y16 := Lib.hid (And.intro Y15.out Z13.out); clear Y15 Z13
        have q0_0 := HX1.look 0
        have q0_1 := HX1.look 1
        have q0_2 := HX1.look 2
        have q0_3 := HX1.look 3
        have q0_4 := HX1.look 4
        have q0_5 := HX1.look 5
        have q0_6 := HX1.look 6
        have q0_7 := HX1.look 7
        have q0_8 := HX1.look 8
        have q0_9 := HX1.look 9
        have q1_0 := HX2.look 0
        have q1_1 := HX2.look 1
        have q1_2 := HX2.look 2
        have q1_3 := HX2.look 3
        have q1_4 := HX2.look 4
        have q1_5 := HX2.look 5
        have q1_6 := HX2.look 6
        have q1_7 := HX2.look 7
        have q1_8 := HX2.look 8
        have q1_9 := HX2.look 9
        have fin : ∀ e, e = Ending.returned (.tuple #[.agg (lsaCells ⟨j.age, j.options, j.typ, j.id, j.adv, j.seq, j.links, j.routers, j.mask, j.cost⟩ A4 B4 n4 c4 m4 d4), .agg (lsaCells ⟨k.age, k.options, k.typ, k.id, k.adv, k.seq, k.links, k.routers, k.mask, k.cost⟩ A2 B2 n2 c2 m2 d2)]) → (PairOut w g A0 n0 c0 cs (K + 200) e U13) := by rintro _ rfl; exact ⟨_, _, _, _, _, _, _, _, _, _, _, _, _, _, rfl, LsaAt.wide (lo' := w.heap.size) (hi' := U13.heap.size) HJ.lsa rfl rfl (by have := Y16.out; omega) (by have := Y16.out; omega) (Nat.le_refl _), LsaAt.wide (lo' := w.heap.size) (hi' := U13.heap.size) HK.lsa rfl rfl (by have := Y16.out; omega) (by have := Y16.out; omega) (Nat.le_refl _), by omega, by omega, by omega, by omega, HS.more (by omega)⟩
        subst hU13 hU12 hU11
        exact bodyPost_ret (v := .tuple #[.agg (lsaCells ⟨j.age, j.options, j.typ, j.id, j.adv, j.seq, j.links, j.routers, j.mask, j.cost⟩ A4 B4 n4 c4 m4 d4), .agg (lsaCells ⟨k.age, k.options, k.typ, k.id, k.adv, k.seq, k.links, k.routers, k.mask, k.cost⟩ A2 B2 n2 c2 m2 d2)]) (by simp [results, Try.results87, go_sem, lsaCells, q0_0, q0_1, q0_2, q0_3, q0_4, q0_5, q0_6, q0_7, q0_8, q0_9, q1_0, q1_1, q1_2, q1_3, q1_4, q1_5, q1_6, q1_7, q1_8, q1_9]) rfl (fin _ rfl)
  · have l5_0 := HX1.bx.lt
    have l5_1 := HX2.bx.lt
    have l5_2 := HX3.bx.lt
    have l5_3 := HX4.bx.lt
    go_wp2_with fail
    clear l5_0 l5_1 l5_2 l5_3
    refine Calls.name ?_
    intro U8 hU8
    have hb : Below w7.heap.size w7 U8 := by rw [hU8]; exact ((Below.refl _ _).alloc (Nat.le_refl _) _)
    have zz : Hid (w7.heap.size + 1 = U8.heap.size) := Lib.hid (by rw [hU8]; simp)
    have HX5 : Kept w7.heap.size (w7.heap.size + 1) (BoxK w7.heap.size 2 #[.int .i64 0, .int .i64 899, .int .i64 900, .int .i64 901, .int .i64 905, .int .i64 3600, .int .i64 2698, .int .i64 2699]) U8 := by rw [hU8]; exact Kept.box (Box.made_at _ _ _ rfl)
    replace HS := HS.below hb
    replace HX1 := HX1.below hb
    replace HX2 := HX2.below hb
    replace HA := HA.below hb
    replace HX3 := HX3.below hb
    replace HK := HK.below hb
    replace HX4 := HX4.below hb
    clear hb
    have Z8 := zz; clear zz
    have Y11 := Lib.hid (And.intro Y10.out Z8.out); clear Y10 Z8
    clear hU8
    refine (dPick w7.heap.size 8 [0, 899, 900, 901, 905, 3600, 2698, 2699] HS.here (by omega) HX5.bx rfl rfl (by omega) (by omega) (by have := Y11.out; omega)).mono ?_
    rintro e w9 ⟨vq, rfl, hv, hs⟩
    have ho := hs.fr
    have Z9 := Lib.hid ho.size
    have Y12 := Lib.hid (And.intro Y11.out Z9.out); clear Y11 Z9
    clear HX5
    replace HX1 := HX1.only ho (by have := Y12.out; omega)
    replace HX2 := HX2.only ho (by have := Y12.out; omega)
    replace HA := HA.only ho (by have := Y12.out; omega)
    replace HX3 := HX3.only ho (by have := Y12.out; omega)
    replace HK := HK.only ho (by have := Y12.out; omega)
    replace HX4 := HX4.only ho (by have := Y12.out; omega)
    replace HS := HS.next hs; clear ho hs
    clear hv
    have c6_0 := HX4.look 0
    have f6_0 := HX4.free 0
    have l6_0 := HX1.bx.lt
    have l6_1 := HX2.bx.lt
    have l6_2 := HX3.bx.lt
    have l6_3 := HX4.bx.lt
    go_wp2_with fail
    clear c6_0 f6_0 l6_0 l6_1 l6_2 l6_3
    refine Calls.name ?_
    intro U10 hU10
    have ho : Only w4.heap.size (w4.heap.size + 1) w9 U10 := by rw [hU10]; exact ((Only.refl _ _ _).set (p := ⟨w4.heap.size, 0, none⟩) (Nat.le_refl _) (Nat.lt_succ_self _) _)
    replace HX4 : Kept w4.heap.size (w4.heap.size + 1) (BoxK w4.heap.size 29 #[.int .i64 vq, .int .i64 k.options, .int .i64 k.typ, .int .i64 k.id, .int .i64 k.adv, .int .i64 k.seq, .slice A2 n2 c2, .slice B2 m2 d2, .int .i64 k.mask, .int .i64 k.cost]) U10 := by rw [hU10]; exact Kept.box (HX4.bx.puts 0 (.int .i64 vq) (cs' := #[.int .i64 vq, .int .i64 k.options, .int .i64 k.typ, .int .i64 k.id, .int .i64 k.adv, .int .i64 k.seq, .slice A2 n2 c2, .slice B2 m2 d2, .int .i64 k.mask, .int .i64 k.cost]) rfl)
    replace HS := HS.only ho (by have := Y12.out; omega)
    replace HX1 := HX1.only ho (by have := Y12.out; omega)
    replace HX2 := HX2.only ho (by have := Y12.out; omega)
    replace HA := HA.only ho (by have := Y12.out; omega)
    replace HX3 := HX3.only ho (by have := Y12.out; omega)
    replace HK := HK.only ho (by have := Y12.out; omega)
    have Z10 : Hid (U10.heap.size = w9.heap.size) := Lib.hid (by rw [hU10]; simp [World.setCell]); clear ho
    have Y13 := Lib.hid (And.intro Y12.out Z10.out); clear Y12 Z10
    clear hU10
    refine (dChance 12 HS.here (by omega) (by omega)).mono ?_
    rintro e w11 ⟨vd, rfl, hs⟩
    have ho := hs.fr
    have Z11 := Lib.hid ho.size
    have Y14 := Lib.hid (And.intro Y13.out Z11.out); clear Y13 Z11
    replace HX1 := HX1.only ho (by have := Y14.out; omega)
    replace HX2 := HX2.only ho (by have := Y14.out; omega)
    replace HA := HA.only ho (by have := Y14.out; omega)
    replace HX3 := HX3.only ho (by have := Y14.out; omega)
    replace HK := HK.only ho (by have := Y14.out; omega)
    replace HX4 := HX4.only ho (by have := Y14.out; omega)
    replace HS := HS.next hs; clear ho hs
    cases vd
    · have l7_0 := HX1.bx.lt
      have l7_1 := HX2.bx.lt
      have l7_2 := HX3.bx.lt
      have l7_3 := HX4.bx.lt
      go_wp2_with fail
      clear l7_0 l7_1 l7_2 l7_3
      have c8_0 := HX1.look 0
      have c8_1 := HX1.look 1
      have c8_2 := HX1.look 2
      have c8_3 := HX1.look 3
      have c8_4 := HX1.look 4
      have c8_5 := HX1.look 5
      have c8_6 := HX1.look 6
      have c8_7 := HX1.look 7
      have c8_8 := HX1.look 8
      have c8_9 := HX1.look 9
      have c8_10 := HX2.look 0
      have c8_11 := HX2.look 1
      have c8_12 := HX2.look 2
      have c8_13 := HX2.look 3
      have c8_14 := HX2.look 4
      have c8_15 := HX2.look 5
      have c8_16 := HX2.look 6
      have c8_17 := HX2.look 7
      have c8_18 := HX2.look 8
      have c8_19 := HX2.look 9
      have c8_20 := HX3.look 0
      have c8_21 := HX3.look 1
      have c8_22 := HX3.look 2
      have c8_23 := HX3.look 3
      have c8_24 := HX3.look 4
      have c8_25 := HX3.look 5
      have c8_26 := HX3.look 6
      have c8_27 := HX3.look 7
      have c8_28 := HX3.look 8
      have c8_29 := HX3.look 9
      have c8_30 := HX4.look 0
      have c8_31 := HX4.look 1
      have c8_32 := HX4.look 2
      have c8_33 := HX4.look 3
      have c8_34 := HX4.look 4
      have c8_35 := HX4.look 5
      have c8_36 := HX4.look 6
      have c8_37 := HX4.look 7
      have c8_38 := HX4.look 8
      have c8_39 := HX4.look 9
      have f8_0 := HX1.free 0
      have f8_1 := HX1.free 1
      have f8_2 := HX1.free 2
      have f8_3 := HX1.free 3
      have f8_4 := HX1.free 4
      have f8_5 := HX1.free 5
      have f8_6 := HX1.free 6
      have f8_7 := HX1.free 7
      have f8_8 := HX1.free 8
      have f8_9 := HX1.free 9
      have f8_10 := HX2.free 0
      have f8_11 := HX2.free 1
      have f8_12 := HX2.free 2
      have f8_13 := HX2.free 3
      have f8_14 := HX2.free 4
      have f8_15 := HX2.free 5
      have f8_16 := HX2.free 6
      have f8_17 := HX2.free 7
      have f8_18 := HX2.free 8
      have f8_19 := HX2.free 9
      have l8_0 := HX1.bx.lt
      have l8_1 := HX2.bx.lt
      have l8_2 := HX3.bx.lt
      have l8_3 := HX4.bx.lt
      have n8_0_1 : ¬ w.heap.size = (w.heap.size + 1) := (by have := Y14.out; omega)
      have m8_0_1 : ¬ (w.heap.size + 1) = w.heap.size := (by have := Y14.out; omega)
      have n8_0_2 : ¬ w.heap.size = w2.heap.size := (by have := Y14.out; omega)
      have m8_0_2 : ¬ w2.heap.size = w.heap.size := (by have := Y14.out; omega)
      have n8_0_3 : ¬ w.heap.size = w4.heap.size := (by have := Y14.out; omega)
      have m8_0_3 : ¬ w4.heap.size = w.heap.size := (by have := Y14.out; omega)
      have n8_1_2 : ¬ (w.heap.size + 1) = w2.heap.size := (by have := Y14.out; omega)
      have m8_1_2 : ¬ w2.heap.size = (w.heap.size + 1) := (by have := Y14.out; omega)
      have n8_1_3 : ¬ (w.heap.size + 1) = w4.heap.size := (by have := Y14.out; omega)
      have m8_1_3 : ¬ w4.heap.size = (w.heap.size + 1) := (by have := Y14.out; omega)
      go_region_law (fail)
      all_goals
        have l9_0 := HX1.bx.lt
        have l9_1 := HX2.bx.lt
        have l9_2 := HX3.bx.lt
        have l9_3 := HX4.bx.lt
        go_wp2
        clear l9_0 l9_1 l9_2 l9_3
        obtain ⟨U12, hU12⟩ : ∃ W : World, W = ((((((((((w11.setCell ⟨w.heap.size, 0, none⟩ (.int .i64 l.age)).setCell ⟨w.heap.size, 1, none⟩ (.int .i64 l.options)).setCell ⟨w.heap.size, 2, none⟩ (.int .i64 l.typ)).setCell ⟨w.heap.size, 3, none⟩ (.int .i64 l.id)).setCell ⟨w.heap.size, 4, none⟩ (.int .i64 l.adv)).setCell ⟨w.heap.size, 5, none⟩ (.int .i64 l.seq)).setCell ⟨w.heap.size, 6, none⟩ (.slice A n c)).setCell ⟨w.heap.size, 7, none⟩ (.slice B m d)).setCell ⟨w.heap.size, 8, none⟩ (.int .i64 l.mask)).setCell ⟨w.heap.size, 9, none⟩ (.int .i64 l.cost)) := ⟨_, rfl⟩
        have ho : Only w.heap.size (w.heap.size + 1) w11 U12 := by rw [hU12]; exact (((((((((((Only.refl _ _ _).set (p := ⟨w.heap.size, 0, none⟩) (Nat.le_refl _) (Nat.lt_succ_self _) _).set (p := ⟨w.heap.size, 1, none⟩) (Nat.le_refl _) (Nat.lt_succ_self _) _).set (p := ⟨w.heap.size, 2, none⟩) (Nat.le_refl _) (Nat.lt_succ_self _) _).set (p := ⟨w.heap.size, 3, none⟩) (Nat.le_refl _) (Nat.lt_succ_self _) _).set (p := ⟨w.heap.size, 4, none⟩) (Nat.le_refl _) (Nat.lt_succ_self _) _).set (p := ⟨w.heap.size, 5, none⟩) (Nat.le_refl _) (Nat.lt_succ_self _) _).set (p := ⟨w.heap.size, 6, none⟩) (Nat.le_refl _) (Nat.lt_succ_self _) _).set (p := ⟨w.heap.size, 7, none⟩) (Nat.le_refl _) (Nat.lt_succ_self _) _).set (p := ⟨w.heap.size, 8, none⟩) (Nat.le_refl _) (Nat.lt_succ_self _) _).set (p := ⟨w.heap.size, 9, none⟩) (Nat.le_refl _) (Nat.lt_succ_self _) _)
        replace HX1 : Kept w.heap.size (w.heap.size + 1) (BoxK w.heap.size 29 #[.int .i64 l.age, .int .i64 l.options, .int .i64 l.typ, .int .i64 l.id, .int .i64 l.adv, .int .i64 l.seq, .slice A n c, .slice B m d, .int .i64 l.mask, .int .i64 l.cost]) U12 := by rw [hU12]; exact Kept.box ((((((((((HX1.bx.puts 0 (.int .i64 l.age) (cs' := #[.int .i64 l.age, .int .i64 0, .int .i64 0, .int .i64 0, .int .i64 0, .int .i64 0, .slice none 0 0, .slice none 0 0, .int .i64 0, .int .i64 0]) rfl).puts 1 (.int .i64 l.options) (cs' := #[.int .i64 l.age, .int .i64 l.options, .int .i64 0, .int .i64 0, .int .i64 0, .int .i64 0, .slice none 0 0, .slice none 0 0, .int .i64 0, .int .i64 0]) rfl).puts 2 (.int .i64 l.typ) (cs' := #[.int .i64 l.age, .int .i64 l.options, .int .i64 l.typ, .int .i64 0, .int .i64 0, .int .i64 0, .slice none 0 0, .slice none 0 0, .int .i64 0, .int .i64 0]) rfl).puts 3 (.int .i64 l.id) (cs' := #[.int .i64 l.age, .int .i64 l.options, .int .i64 l.typ, .int .i64 l.id, .int .i64 0, .int .i64 0, .slice none 0 0, .slice none 0 0, .int .i64 0, .int .i64 0]) rfl).puts 4 (.int .i64 l.adv) (cs' := #[.int .i64 l.age, .int .i64 l.options, .int .i64 l.typ, .int .i64 l.id, .int .i64 l.adv, .int .i64 0, .slice none 0 0, .slice none 0 0, .int .i64 0, .int .i64 0]) rfl).puts 5 (.int .i64 l.seq) (cs' := #[.int .i64 l.age, .int .i64 l.options, .int .i64 l.typ, .int .i64 l.id, .int .i64 l.adv, .int .i64 l.seq, .slice none 0 0, .slice none 0 0, .int .i64 0, .int .i64 0]) rfl).puts 6 (.slice A n c) (cs' := #[.int .i64 l.age, .int .i64 l.options, .int .i64 l.typ, .int .i64 l.id, .int .i64 l.adv, .int .i64 l.seq, .slice A n c, .slice none 0 0, .int .i64 0, .int .i64 0]) rfl).puts 7 (.slice B m d) (cs' := #[.int .i64 l.age, .int .i64 l.options, .int .i64 l.typ, .int .i64 l.id, .int .i64 l.adv, .int .i64 l.seq, .slice A n c, .slice B m d, .int .i64 0, .int .i64 0]) rfl).puts 8 (.int .i64 l.mask) (cs' := #[.int .i64 l.age, .int .i64 l.options, .int .i64 l.typ, .int .i64 l.id, .int .i64 l.adv, .int .i64 l.seq, .slice A n c, .slice B m d, .int .i64 l.mask, .int .i64 0]) rfl).puts 9 (.int .i64 l.cost) (cs' := #[.int .i64 l.age, .int .i64 l.options, .int .i64 l.typ, .int .i64 l.id, .int .i64 l.adv, .int .i64 l.seq, .slice A n c, .slice B m d, .int .i64 l.mask, .int .i64 l.cost]) rfl)
        replace HS := HS.only ho (by have := Y14.out; omega)
        replace HX2 := HX2.only ho (by have := Y14.out; omega)
        replace HA := HA.only ho (by have := Y14.out; omega)
        replace HX3 := HX3.only ho (by have := Y14.out; omega)
        replace HK := HK.only ho (by have := Y14.out; omega)
        replace HX4 := HX4.only ho (by have := Y14.out; omega)
        have Z12 : Hid (U12.heap.size = w11.heap.size) := Lib.hid (by rw [hU12]; simp [World.setCell]); clear ho
        have Y15 := Lib.hid (And.intro Y14.out Z12.out); clear Y14 Z12
        obtain ⟨U13, hU13⟩ : ∃ W : World, W = ((((((((((U12.setCell ⟨w.heap.size + 1, 0, none⟩ (.int .i64 vq)).setCell ⟨w.heap.size + 1, 1, none⟩ (.int .i64 k.options)).setCell ⟨w.heap.size + 1, 2, none⟩ (.int .i64 k.typ)).setCell ⟨w.heap.size + 1, 3, none⟩ (.int .i64 k.id)).setCell ⟨w.heap.size + 1, 4, none⟩ (.int .i64 k.adv)).setCell ⟨w.heap.size + 1, 5, none⟩ (.int .i64 k.seq)).setCell ⟨w.heap.size + 1, 6, none⟩ (.slice A2 n2 c2)).setCell ⟨w.heap.size + 1, 7, none⟩ (.slice B2 m2 d2)).setCell ⟨w.heap.size + 1, 8, none⟩ (.int .i64 k.mask)).setCell ⟨w.heap.size + 1, 9, none⟩ (.int .i64 k.cost)) := ⟨_, rfl⟩
        have ho : Only (w.heap.size + 1) (w.heap.size + 1 + 1) U12 U13 := by rw [hU13]; exact (((((((((((Only.refl _ _ _).set (p := ⟨w.heap.size + 1, 0, none⟩) (Nat.le_refl _) (Nat.lt_succ_self _) _).set (p := ⟨w.heap.size + 1, 1, none⟩) (Nat.le_refl _) (Nat.lt_succ_self _) _).set (p := ⟨w.heap.size + 1, 2, none⟩) (Nat.le_refl _) (Nat.lt_succ_self _) _).set (p := ⟨w.heap.size + 1, 3, none⟩) (Nat.le_refl _) (Nat.lt_succ_self _) _).set (p := ⟨w.heap.size + 1, 4, none⟩) (Nat.le_refl _) (Nat.lt_succ_self _) _).set (p := ⟨w.heap.size + 1, 5, none⟩) (Nat.le_refl _) (Nat.lt_succ_self _) _).set (p := ⟨w.heap.size + 1, 6, none⟩) (Nat.le_refl _) (Nat.lt_succ_self _) _).set (p := ⟨w.heap.size + 1, 7, none⟩) (Nat.le_refl _) (Nat.lt_succ_self _) _).set (p := ⟨w.heap.size + 1, 8, none⟩) (Nat.le_refl _) (Nat.lt_succ_self _) _).set (p := ⟨w.heap.size + 1, 9, none⟩) (Nat.le_refl _) (Nat.lt_succ_self _) _)
        replace HX2 : Kept (w.heap.size + 1) (w.heap.size + 1 + 1) (BoxK (w.heap.size + 1) 29 #[.int .i64 vq, .int .i64 k.options, .int .i64 k.typ, .int .i64 k.id, .int .i64 k.adv, .int .i64 k.seq, .slice A2 n2 c2, .slice B2 m2 d2, .int .i64 k.mask, .int .i64 k.cost]) U13 := by rw [hU13]; exact Kept.box ((((((((((HX2.bx.puts 0 (.int .i64 vq) (cs' := #[.int .i64 vq, .int .i64 0, .int .i64 0, .int .i64 0, .int .i64 0, .int .i64 0, .slice none 0 0, .slice none 0 0, .int .i64 0, .int .i64 0]) rfl).puts 1 (.int .i64 k.options) (cs' := #[.int .i64 vq, .int .i64 k.options, .int .i64 0, .int .i64 0, .int .i64 0, .int .i64 0, .slice none 0 0, .slice none 0 0, .int .i64 0, .int .i64 0]) rfl).puts 2 (.int .i64 k.typ) (cs' := #[.int .i64 vq, .int .i64 k.options, .int .i64 k.typ, .int .i64 0, .int .i64 0, .int .i64 0, .slice none 0 0, .slice none 0 0, .int .i64 0, .int .i64 0]) rfl).puts 3 (.int .i64 k.id) (cs' := #[.int .i64 vq, .int .i64 k.options, .int .i64 k.typ, .int .i64 k.id, .int .i64 0, .int .i64 0, .slice none 0 0, .slice none 0 0, .int .i64 0, .int .i64 0]) rfl).puts 4 (.int .i64 k.adv) (cs' := #[.int .i64 vq, .int .i64 k.options, .int .i64 k.typ, .int .i64 k.id, .int .i64 k.adv, .int .i64 0, .slice none 0 0, .slice none 0 0, .int .i64 0, .int .i64 0]) rfl).puts 5 (.int .i64 k.seq) (cs' := #[.int .i64 vq, .int .i64 k.options, .int .i64 k.typ, .int .i64 k.id, .int .i64 k.adv, .int .i64 k.seq, .slice none 0 0, .slice none 0 0, .int .i64 0, .int .i64 0]) rfl).puts 6 (.slice A2 n2 c2) (cs' := #[.int .i64 vq, .int .i64 k.options, .int .i64 k.typ, .int .i64 k.id, .int .i64 k.adv, .int .i64 k.seq, .slice A2 n2 c2, .slice none 0 0, .int .i64 0, .int .i64 0]) rfl).puts 7 (.slice B2 m2 d2) (cs' := #[.int .i64 vq, .int .i64 k.options, .int .i64 k.typ, .int .i64 k.id, .int .i64 k.adv, .int .i64 k.seq, .slice A2 n2 c2, .slice B2 m2 d2, .int .i64 0, .int .i64 0]) rfl).puts 8 (.int .i64 k.mask) (cs' := #[.int .i64 vq, .int .i64 k.options, .int .i64 k.typ, .int .i64 k.id, .int .i64 k.adv, .int .i64 k.seq, .slice A2 n2 c2, .slice B2 m2 d2, .int .i64 k.mask, .int .i64 0]) rfl).puts 9 (.int .i64 k.cost) (cs' := #[.int .i64 vq, .int .i64 k.options, .int .i64 k.typ, .int .i64 k.id, .int .i64 k.adv, .int .i64 k.seq, .slice A2 n2 c2, .slice B2 m2 d2, .int .i64 k.mask, .int .i64 k.cost]) rfl)
        replace HS := HS.only ho (by have := Y15.out; omega)
        replace HX1 := HX1.only ho (by have := Y15.out; omega)
        replace HA := HA.only ho (by have := Y15.out; omega)
        replace HX3 := HX3.only ho (by have := Y15.out; omega)
        replace HK := HK.only ho (by have := Y15.out; omega)
        replace HX4 := HX4.only ho (by have := Y15.out; omega)
        have Z13 : Hid (U13.heap.size = U12.heap.size) := Lib.hid (by rw [hU13]; simp [World.setCell]); clear ho
        have Y16 := Lib.hid (And.intro Y15.out Z13.out); clear Y15 Z13
        obtain ⟨U14, hU14⟩ : ∃ W : World, W = U13.drew := ⟨_, rfl⟩
        have hb : Below U13.heap.size U13 U14 := by rw [hU14]; exact (Below.refl _ _).drew
        have zz : Hid (U13.heap.size = U14.heap.size) := Lib.hid (by rw [hU14]; simp)
        replace HS := HS.below hb
        replace HX1 := HX1.below hb
        replace HX2 := HX2.below hb
        replace HA := HA.below hb
        replace HX3 := HX3.below hb
        replace HK := HK.below hb
        replace HX4 := HX4.below hb
        clear hb
        have Z14 := zz; clear zz
        have Y17 := Lib.hid (And.intro Y16.out Z14.out); clear Y16 Z14
        have q0_0 := HX1.look 0
        have q0_1 := HX1.look 1
        have q0_2 := HX1.look 2
        have q0_3 := HX1.look 3
        have q0_4 := HX1.look 4
        have q0_5 := HX1.look 5
        have q0_6 := HX1.look 6
        have q0_7 := HX1.look 7
        have q0_8 := HX1.look 8
        have q0_9 := HX1.look 9
        have q1_0 := HX2.look 0
        have q1_1 := HX2.look 1
        have q1_2 := HX2.look 2
        have q1_3 := HX2.look 3
        have q1_4 := HX2.look 4
        have q1_5 := HX2.look 5
        have q1_6 := HX2.look 6
        have q1_7 := HX2.look 7
        have q1_8 := HX2.look 8
        have q1_9 := HX2.look 9
        have fin : ∀ e, e = Ending.returned (.tuple #[.agg (lsaCells ⟨l.age, l.options, l.typ, l.id, l.adv, l.seq, l.links, l.routers, l.mask, l.cost⟩ A B n c m d), .agg (lsaCells ⟨vq, k.options, k.typ, k.id, k.adv, k.seq, k.links, k.routers, k.mask, k.cost⟩ A2 B2 n2 c2 m2 d2)]) → (PairOut w g A0 n0 c0 cs (K + 200) e U14) := by rintro _ rfl; exact ⟨_, _, _, _, _, _, _, _, _, _, _, _, _, _, rfl, LsaAt.wide (lo' := w.heap.size) (hi' := U14.heap.size) HA.lsa rfl rfl (by have := Y17.out; omega) (by have := Y17.out; omega) (Nat.le_refl _), LsaAt.wide (lo' := w.heap.size) (hi' := U14.heap.size) HK.lsa rfl rfl (by have := Y17.out; omega) (by have := Y17.out; omega) (Nat.le_refl _), by omega, by omega, by omega, by omega, HS.more (by omega)⟩
        subst hU14 hU13 hU12
        exact bodyPost_ret (v := .tuple #[.agg (lsaCells ⟨l.age, l.options, l.typ, l.id, l.adv, l.seq, l.links, l.routers, l.mask, l.cost⟩ A B n c m d), .agg (lsaCells ⟨vq, k.options, k.typ, k.id, k.adv, k.seq, k.links, k.routers, k.mask, k.cost⟩ A2 B2 n2 c2 m2 d2)]) (by simp [results, Try.results87, go_sem, lsaCells, q0_0, q0_1, q0_2, q0_3, q0_4, q0_5, q0_6, q0_7, q0_8, q0_9, q1_0, q1_1, q1_2, q1_3, q1_4, q1_5, q1_6, q1_7, q1_8, q1_9]) rfl (fin _ rfl)
    · have l7_0 := HX1.bx.lt
      have l7_1 := HX2.bx.lt
      have l7_2 := HX3.bx.lt
      have l7_3 := HX4.bx.lt
      go_wp2_with fail
      clear l7_0 l7_1 l7_2 l7_3
      refine (l2Bent_any g A0 n0 c0 cs _ _ HS.here (by omega)).mono ?_
      rintro e w12 ⟨j, A4, B4, n4, c4, m4, d4, rfl, hl, hn4, hm4, hs⟩
      have ho := hs.fr
      have Z12 := Lib.hid ho.size
      have Y15 := Lib.hid (And.intro Y14.out Z12.out); clear Y14 Z12
      replace HX1 := HX1.only ho (by have := Y15.out; omega)
      replace HX2 := HX2.only ho (by have := Y15.out; omega)
      replace HA := HA.only ho (by have := Y15.out; omega)
      replace HX3 := HX3.only ho (by have := Y15.out; omega)
      replace HK := HK.only ho (by have := Y15.out; omega)
      replace HX4 := HX4.only ho (by have := Y15.out; omega)
      replace HS := HS.next hs; clear ho hs
      have HJ := hl.kept; clear hl
      have c8_0 := HX3.look 0
      have c8_1 := HX3.look 1
      have c8_2 := HX3.look 2
      have c8_3 := HX3.look 3
      have c8_4 := HX3.look 4
      have c8_5 := HX3.look 5
      have c8_6 := HX3.look 6
      have c8_7 := HX3.look 7
      have c8_8 := HX3.look 8
      have c8_9 := HX3.look 9
      have f8_0 := HX3.free 0
      have f8_1 := HX3.free 1
      have f8_2 := HX3.free 2
      have f8_3 := HX3.free 3
      have f8_4 := HX3.free 4
      have f8_5 := HX3.free 5
      have f8_6 := HX3.free 6
      have f8_7 := HX3.free 7
      have f8_8 := HX3.free 8
      have f8_9 := HX3.free 9
      have l8_0 := HX1.bx.lt
      have l8_1 := HX2.bx.lt
      have l8_2 := HX3.bx.lt
      have l8_3 := HX4.bx.lt
      go_wp2_with fail
      clear c8_0 c8_1 c8_2 c8_3 c8_4 c8_5 c8_6 c8_7 c8_8 c8_9 f8_0 f8_1 f8_2 f8_3 f8_4 f8_5 f8_6 f8_7 f8_8 f8_9 l8_0 l8_1 l8_2 l8_3
      refine Code.wp_name ?_
      intro U13 hU13
      have ho : Only w2.heap.size (w2.heap.size + 1) w12 U13 := by rw [hU13]; exact (((((((((((Only.refl _ _ _).set (p := ⟨w2.heap.size, 0, none⟩) (Nat.le_refl _) (Nat.lt_succ_self _) _).set (p := ⟨w2.heap.size, 1, none⟩) (Nat.le_refl _) (Nat.lt_succ_self _) _).set (p := ⟨w2.heap.size, 2, none⟩) (Nat.le_refl _) (Nat.lt_succ_self _) _).set (p := ⟨w2.heap.size, 3, none⟩) (Nat.le_refl _) (Nat.lt_succ_self _) _).set (p := ⟨w2.heap.size, 4, none⟩) (Nat.le_refl _) (Nat.lt_succ_self _) _).set (p := ⟨w2.heap.size, 5, none⟩) (Nat.le_refl _) (Nat.lt_succ_self _) _).set (p := ⟨w2.heap.size, 6, none⟩) (Nat.le_refl _) (Nat.lt_succ_self _) _).set (p := ⟨w2.heap.size, 7, none⟩) (Nat.le_refl _) (Nat.lt_succ_self _) _).set (p := ⟨w2.heap.size, 8, none⟩) (Nat.le_refl _) (Nat.lt_succ_self _) _).set (p := ⟨w2.heap.size, 9, none⟩) (Nat.le_refl _) (Nat.lt_succ_self _) _)
      replace HX3 : Kept w2.heap.size (w2.heap.size + 1) (BoxK w2.heap.size 29 #[.int .i64 j.age, .int .i64 j.options, .int .i64 j.typ, .int .i64 j.id, .int .i64 j.adv, .int .i64 j.seq, .slice A4 n4 c4, .slice B4 m4 d4, .int .i64 j.mask, .int .i64 j.cost]) U13 := by rw [hU13]; exact Kept.box ((((((((((HX3.bx.puts 0 (.int .i64 j.age) (cs' := #[.int .i64 j.age, .int .i64 l.options, .int .i64 l.typ, .int .i64 l.id, .int .i64 l.adv, .int .i64 l.seq, .slice A n c, .slice B m d, .int .i64 l.mask, .int .i64 l.cost]) rfl).puts 1 (.int .i64 j.options) (cs' := #[.int .i64 j.age, .int .i64 j.options, .int .i64 l.typ, .int .i64 l.id, .int .i64 l.adv, .int .i64 l.seq, .slice A n c, .slice B m d, .int .i64 l.mask, .int .i64 l.cost]) rfl).puts 2 (.int .i64 j.typ) (cs' := #[.int .i64 j.age, .int .i64 j.options, .int .i64 j.typ, .int .i64 l.id, .int .i64 l.adv, .int .i64 l.seq, .slice A n c, .slice B m d, .int .i64 l.mask, .int .i64 l.cost]) rfl).puts 3 (.int .i64 j.id) (cs' := #[.int .i64 j.age, .int .i64 j.options, .int .i64 j.typ, .int .i64 j.id, .int .i64 l.adv, .int .i64 l.seq, .slice A n c, .slice B m d, .int .i64 l.mask, .int .i64 l.cost]) rfl).puts 4 (.int .i64 j.adv) (cs' := #[.int .i64 j.age, .int .i64 j.options, .int .i64 j.typ, .int .i64 j.id, .int .i64 j.adv, .int .i64 l.seq, .slice A n c, .slice B m d, .int .i64 l.mask, .int .i64 l.cost]) rfl).puts 5 (.int .i64 j.seq) (cs' := #[.int .i64 j.age, .int .i64 j.options, .int .i64 j.typ, .int .i64 j.id, .int .i64 j.adv, .int .i64 j.seq, .slice A n c, .slice B m d, .int .i64 l.mask, .int .i64 l.cost]) rfl).puts 6 (.slice A4 n4 c4) (cs' := #[.int .i64 j.age, .int .i64 j.options, .int .i64 j.typ, .int .i64 j.id, .int .i64 j.adv, .int .i64 j.seq, .slice A4 n4 c4, .slice B m d, .int .i64 l.mask, .int .i64 l.cost]) rfl).puts 7 (.slice B4 m4 d4) (cs' := #[.int .i64 j.age, .int .i64 j.options, .int .i64 j.typ, .int .i64 j.id, .int .i64 j.adv, .int .i64 j.seq, .slice A4 n4 c4, .slice B4 m4 d4, .int .i64 l.mask, .int .i64 l.cost]) rfl).puts 8 (.int .i64 j.mask) (cs' := #[.int .i64 j.age, .int .i64 j.options, .int .i64 j.typ, .int .i64 j.id, .int .i64 j.adv, .int .i64 j.seq, .slice A4 n4 c4, .slice B4 m4 d4, .int .i64 j.mask, .int .i64 l.cost]) rfl).puts 9 (.int .i64 j.cost) (cs' := #[.int .i64 j.age, .int .i64 j.options, .int .i64 j.typ, .int .i64 j.id, .int .i64 j.adv, .int .i64 j.seq, .slice A4 n4 c4, .slice B4 m4 d4, .int .i64 j.mask, .int .i64 j.cost]) rfl)
      replace HS := HS.only ho (by have := Y15.out; omega)
      replace HX1 := HX1.only ho (by have := Y15.out; omega)
      replace HX2 := HX2.only ho (by have := Y15.out; omega)
      replace HA := HA.only ho (by have := Y15.out; omega)
      replace HK := HK.only ho (by have := Y15.out; omega)
      replace HX4 := HX4.only ho (by have := Y15.out; omega)
      replace HJ := HJ.only ho (by have := Y15.out; omega)
      have Z13 : Hid (U13.heap.size = w12.heap.size) := Lib.hid (by rw [hU13]; simp [World.setCell]); clear ho
      have Y16 := Lib.hid (And.intro Y15.out Z13.out); clear Y15 Z13
      clear hU13
      have c9_0 := HX1.look 0
      have c9_1 := HX1.look 1
      have c9_2 := HX1.look 2
      have c9_3 := HX1.look 3
      have c9_4 := HX1.look 4
      have c9_5 := HX1.look 5
      have c9_6 := HX1.look 6
      have c9_7 := HX1.look 7
      have c9_8 := HX1.look 8
      have c9_9 := HX1.look 9
      have c9_10 := HX2.look 0
      have c9_11 := HX2.look 1
      have c9_12 := HX2.look 2
      have c9_13 := HX2.look 3
      have c9_14 := HX2.look 4
      have c9_15 := HX2.look 5
      have c9_16 := HX2.look 6
      have c9_17 := HX2.look 7
      have c9_18 := HX2.look 8
      have c9_19 := HX2.look 9
      have c9_20 := HX3.look 0
      have c9_21 := HX3.look 1
      have c9_22 := HX3.look 2
      have c9_23 := HX3.look 3
      have c9_24 := HX3.look 4
      have c9_25 := HX3.look 5
      have c9_26 := HX3.look 6
      have c9_27 := HX3.look 7
      have c9_28 := HX3.look 8
      have c9_29 := HX3.look 9
      have c9_30 := HX4.look 0
      have c9_31 := HX4.look 1
      have c9_32 := HX4.look 2
      have c9_33 := HX4.look 3
      have c9_34 := HX4.look 4
      have c9_35 := HX4.look 5
      have c9_36 := HX4.look 6
      have c9_37 := HX4.look 7
      have c9_38 := HX4.look 8
      have c9_39 := HX4.look 9
      have f9_0 := HX1.free 0
      have f9_1 := HX1.free 1
      have f9_2 := HX1.free 2
      have f9_3 := HX1.free 3
      have f9_4 := HX1.free 4
      have f9_5 := HX1.free 5
      have f9_6 := HX1.free 6
      have f9_7 := HX1.free 7
      have f9_8 := HX1.free 8
      have f9_9 := HX1.free 9
      have f9_10 := HX2.free 0
      have f9_11 := HX2.free 1
      have f9_12 := HX2.free 2
      have f9_13 := HX2.free 3
      have f9_14 := HX2.free 4
      have f9_15 := HX2.free 5
      have f9_16 := HX2.free 6
      have f9_17 := HX2.free 7
      have f9_18 := HX2.free 8
      have f9_19 := HX2.free 9
      have l9_0 := HX1.bx.lt
      have l9_1 := HX2.bx.lt
      have l9_2 := HX3.bx.lt
      have l9_3 := HX4.bx.lt
      have n9_0_1 : ¬ w.heap.size = (w.heap.size + 1) := (by have := Y16.out; omega)
      have m9_0_1 : ¬ (w.heap.size + 1) = w.heap.size := (by have := Y16.out; omega)
      have n9_0_2 : ¬ w.heap.size = w2.heap.size := (by have := Y16.out; omega)
      have m9_0_2 : ¬ w2.heap.size = w.heap.size := (by have := Y16.out; omega)
      have n9_0_3 : ¬ w.heap.size = w4.heap.size := (by have := Y16.out; omega)
      have m9_0_3 : ¬ w4.heap.size = w.heap.size := (by have := Y16.out; omega)
      have n9_1_2 : ¬ (w.heap.size + 1) = w2.heap.size := (by have := Y16.out; omega)
      have m9_1_2 : ¬ w2.heap.size = (w.heap.size + 1) := (by have := Y16.out; omega)
      have n9_1_3 : ¬ (w.heap.size + 1) = w4.heap.size := (by have := Y16.out; omega)
      have m9_1_3 : ¬ w4.heap.size = (w.heap.size + 1) := (by have := Y16.out; omega)
      go_region_law (fail)
      all_goals
        have l10_0 := HX1.bx.lt
        have l10_1 := HX2.bx.lt
        have l10_2 := HX3.bx.lt
        have l10_3 := HX4.bx.lt
        go_wp2
        clear l10_0 l10_1 l10_2 l10_3
        obtain ⟨U14, hU14⟩ : ∃ W : World, W = ((((((((((U13.setCell ⟨w.heap.size, 0, none⟩ (.int .i64 j.age)).setCell ⟨w.heap.size, 1, none⟩ (.int .i64 j.options)).setCell ⟨w.heap.size, 2, none⟩ (.int .i64 j.typ)).setCell ⟨w.heap.size, 3, none⟩ (.int .i64 j.id)).setCell ⟨w.heap.size, 4, none⟩ (.int .i64 j.adv)).setCell ⟨w.heap.size, 5, none⟩ (.int .i64 j.seq)).setCell ⟨w.heap.size, 6, none⟩ (.slice A4 n4 c4)).setCell ⟨w.heap.size, 7, none⟩ (.slice B4 m4 d4)).setCell ⟨w.heap.size, 8, none⟩ (.int .i64 j.mask)).setCell ⟨w.heap.size, 9, none⟩ (.int .i64 j.cost)) := ⟨_, rfl⟩
        have ho : Only w.heap.size (w.heap.size + 1) U13 U14 := by rw [hU14]; exact (((((((((((Only.refl _ _ _).set (p := ⟨w.heap.size, 0, none⟩) (Nat.le_refl _) (Nat.lt_succ_self _) _).set (p := ⟨w.heap.size, 1, none⟩) (Nat.le_refl _) (Nat.lt_succ_self _) _).set (p := ⟨w.heap.size, 2, none⟩) (Nat.le_refl _) (Nat.lt_succ_self _) _).set (p := ⟨w.heap.size, 3, none⟩) (Nat.le_refl _) (Nat.lt_succ_self _) _).set (p := ⟨w.heap.size, 4, none⟩) (Nat.le_refl _) (Nat.lt_succ_self _) _).set (p := ⟨w.heap.size, 5, none⟩) (Nat.le_refl _) (Nat.lt_succ_self _) _).set (p := ⟨w.heap.size, 6, none⟩) (Nat.le_refl _) (Nat.lt_succ_self _) _).set (p := ⟨w.heap.size, 7, none⟩) (Nat.le_refl _) (Nat.lt_succ_self _) _).set (p := ⟨w.heap.size, 8, none⟩) (Nat.le_refl _) (Nat.lt_succ_self _) _).set (p := ⟨w.heap.size, 9, none⟩) (Nat.le_refl _) (Nat.lt_succ_self _) _)
        replace HX1 : Kept w.heap.size (w.heap.size + 1) (BoxK w.heap.size 29 #[.int .i64 j.age, .int .i64 j.options, .int .i64 j.typ, .int .i64 j.id, .int .i64 j.adv, .int .i64 j.seq, .slice A4 n4 c4, .slice B4 m4 d4, .int .i64 j.mask, .int .i64 j.cost]) U14 := by rw [hU14]; exact Kept.box ((((((((((HX1.bx.puts 0 (.int .i64 j.age) (cs' := #[.int .i64 j.age, .int .i64 0, .int .i64 0, .int .i64 0, .int .i64 0, .int .i64 0, .slice none 0 0, .slice none 0 0, .int .i64 0, .int .i64 0]) rfl).puts 1 (.int .i64 j.options) (cs' := #[.int .i64 j.age, .int .i64 j.options, .int .i64 0, .int .i64 0, .int .i64 0, .int .i64 0, .slice none 0 0, .slice none 0 0, .int .i64 0, .int .i64 0]) rfl).puts 2 (.int .i64 j.typ) (cs' := #[.int .i64 j.age, .int .i64 j.options, .int .i64 j.typ, .int .i64 0, .int .i64 0, .int .i64 0, .slice none 0 0, .slice none 0 0, .int .i64 0, .int .i64 0]) rfl).puts 3 (.int .i64 j.id) (cs' := #[.int .i64 j.age, .int .i64 j.options, .int .i64 j.typ, .int .i64 j.id, .int .i64 0, .int .i64 0, .slice none 0 0, .slice none 0 0, .int .i64 0, .int .i64 0]) rfl).puts 4 (.int .i64 j.adv) (cs' := #[.int .i64 j.age, .int .i64 j.options, .int .i64 j.typ, .int .i64 j.id, .int .i64 j.adv, .int .i64 0, .slice none 0 0, .slice none 0 0, .int .i64 0, .int .i64 0]) rfl).puts 5 (.int .i64 j.seq) (cs' := #[.int .i64 j.age, .int .i64 j.options, .int .i64 j.typ, .int .i64 j.id, .int .i64 j.adv, .int .i64 j.seq, .slice none 0 0, .slice none 0 0, .int .i64 0, .int .i64 0]) rfl).puts 6 (.slice A4 n4 c4) (cs' := #[.int .i64 j.age, .int .i64 j.options, .int .i64 j.typ, .int .i64 j.id, .int .i64 j.adv, .int .i64 j.seq, .slice A4 n4 c4, .slice none 0 0, .int .i64 0, .int .i64 0]) rfl).puts 7 (.slice B4 m4 d4) (cs' := #[.int .i64 j.age, .int .i64 j.options, .int .i64 j.typ, .int .i64 j.id, .int .i64 j.adv, .int .i64 j.seq, .slice A4 n4 c4, .slice B4 m4 d4, .int .i64 0, .int .i64 0]) rfl).puts 8 (.int .i64 j.mask) (cs' := #[.int .i64 j.age, .int .i64 j.options, .int .i64 j.typ, .int .i64 j.id, .int .i64 j.adv, .int .i64 j.seq, .slice A4 n4 c4, .slice B4 m4 d4, .int .i64 j.mask, .int .i64 0]) rfl).puts 9 (.int .i64 j.cost) (cs' := #[.int .i64 j.age, .int .i64 j.options, .int .i64 j.typ, .int .i64 j.id, .int .i64 j.adv, .int .i64 j.seq, .slice A4 n4 c4, .slice B4 m4 d4, .int .i64 j.mask, .int .i64 j.cost]) rfl)
        replace HS := HS.only ho (by have := Y16.out; omega)
        replace HX2 := HX2.only ho (by have := Y16.out; omega)
        replace HA := HA.only ho (by have := Y16.out; omega)
        replace HX3 := HX3.only ho (by have := Y16.out; omega)
        replace HK := HK.only ho (by have := Y16.out; omega)
        replace HX4 := HX4.only ho (by have := Y16.out; omega)
        replace HJ := HJ.only ho (by have := Y16.out; omega)
        have Z14 : Hid (U14.heap.size = U13.heap.size) := Lib.hid (by rw [hU14]; simp [World.setCell]); clear ho
        have Y17 := Lib.hid (And.intro Y16.out Z14.out); clear Y16 Z14
        obtain ⟨U15, hU15⟩ : ∃ W : World, W = ((((((((((U14.setCell ⟨w.heap.size + 1, 0, none⟩ (.int .i64 vq)).setCell ⟨w.heap.size + 1, 1, none⟩ (.int .i64 k.options)).setCell ⟨w.heap.size + 1, 2, none⟩ (.int .i64 k.typ)).setCell ⟨w.heap.size + 1, 3, none⟩ (.int .i64 k.id)).setCell ⟨w.heap.size + 1, 4, none⟩ (.int .i64 k.adv)).setCell ⟨w.heap.size + 1, 5, none⟩ (.int .i64 k.seq)).setCell ⟨w.heap.size + 1, 6, none⟩ (.slice A2 n2 c2)).setCell ⟨w.heap.size + 1, 7, none⟩ (.slice B2 m2 d2)).setCell ⟨w.heap.size + 1, 8, none⟩ (.int .i64 k.mask)).setCell ⟨w.heap.size + 1, 9, none⟩ (.int .i64 k.cost)) := ⟨_, rfl⟩
        have ho : Only (w.heap.size + 1) (w.heap.size + 1 + 1) U14 U15 := by rw [hU15]; exact (((((((((((Only.refl _ _ _).set (p := ⟨w.heap.size + 1, 0, none⟩) (Nat.le_refl _) (Nat.lt_succ_self _) _).set (p := ⟨w.heap.size + 1, 1, none⟩) (Nat.le_refl _) (Nat.lt_succ_self _) _).set (p := ⟨w.heap.size + 1, 2, none⟩) (Nat.le_refl _) (Nat.lt_succ_self _) _).set (p := ⟨w.heap.size + 1, 3, none⟩) (Nat.le_refl _) (Nat.lt_succ_self _) _).set (p := ⟨w.heap.size + 1, 4, none⟩) (Nat.le_refl _) (Nat.lt_succ_self _) _).set (p := ⟨w.heap.size + 1, 5, none⟩) (Nat.le_refl _) (Nat.lt_succ_self _) _).set (p := ⟨w.heap.size + 1, 6, none⟩) (Nat.le_refl _) (Nat.lt_succ_self _) _).set (p := ⟨w.heap.size + 1, 7, none⟩) (Nat.le_refl _) (Nat.lt_succ_self _) _).set (p := ⟨w.heap.size + 1, 8, none⟩) (Nat.le_refl _) (Nat.lt_succ_self _) _).set (p := ⟨w.heap.size + 1, 9, none⟩) (Nat.le_refl _) (Nat.lt_succ_self _) _)
        replace HX2 : Kept (w.heap.size + 1) (w.heap.size + 1 + 1) (BoxK (w.heap.size + 1) 29 #[.int .i64 vq, .int .i64 k.options, .int .i64 k.typ, .int .i64 k.id, .int .i64 k.adv, .int .i64 k.seq, .slice A2 n2 c2, .slice B2 m2 d2, .int .i64 k.mask, .int .i64 k.cost]) U15 := by rw [hU15]; exact Kept.box ((((((((((HX2.bx.puts 0 (.int .i64 vq) (cs' := #[.int .i64 vq, .int .i64 0, .int .i64 0, .int .i64 0, .int .i64 0, .int .i64 0, .slice none 0 0, .slice none 0 0, .int .i64 0, .int .i64 0]) rfl).puts 1 (.int .i64 k.options) (cs' := #[.int .i64 vq, .int .i64 k.options, .int .i64 0, .int .i64 0, .int .i64 0, .int .i64 0, .slice none 0 0, .slice none 0 0, .int .i64 0, .int .i64 0]) rfl).puts 2 (.int .i64 k.typ) (cs' := #[.int .i64 vq, .int .i64 k.options, .int .i64 k.typ, .int .i64 0, .int .i64 0, .int .i64 0, .slice none 0 0, .slice none 0 0, .int .i64 0, .int .i64 0]) rfl).puts 3 (.int .i64 k.id) (cs' := #[.int .i64 vq, .int .i64 k.options, .int .i64 k.typ, .int .i64 k.id, .int .i64 0, .int .i64 0, .slice none 0 0, .slice none 0 0, .int .i64 0, .int .i64 0]) rfl).puts 4 (.int .i64 k.adv) (cs' := #[.int .i64 vq, .int .i64 k.options, .int .i64 k.typ, .int .i64 k.id, .int .i64 k.adv, .int .i64 0, .slice none 0 0, .slice none 0 0, .int .i64 0, .int .i64 0]) rfl).puts 5 (.int .i64 k.seq) (cs' := #[.int .i64 vq, .int .i64 k.options, .int .i64 k.typ, .int .i64 k.id, .int .i64 k.adv, .int .i64 k.seq, .slice none 0 0, .slice none 0 0, .int .i64 0, .int .i64 0]) rfl).puts 6 (.slice A2 n2 c2) (cs' := #[.int .i64 vq, .int .i64 k.options, .int .i64 k.typ, .int .i64 k.id, .int .i64 k.adv, .int .i64 k.seq, .slice A2 n2 c2, .slice none 0 0, .int .i64 0, .int .i64 0]) rfl).puts 7 (.slice B2 m2 d2) (cs' := #[.int .i64 vq, .int .i64 k.options, .int .i64 k.typ, .int .i64 k.id, .int .i64 k.adv, .int .i64 k.seq, .slice A2 n2 c2, .slice B2 m2 d2, .int .i64 0, .int .i64 0]) rfl).puts 8 (.int .i64 k.mask) (cs' := #[.int .i64 vq, .int .i64 k.options, .int .i64 k.typ, .int .i64 k.id, .int .i64 k.adv, .int .i64 k.seq, .slice A2 n2 c2, .slice B2 m2 d2, .int .i64 k.mask, .int .i64 0]) rfl).puts 9 (.int .i64 k.cost) (cs' := #[.int .i64 vq, .int .i64 k.options, .int .i64 k.typ, .int .i64 k.id, .int .i64 k.adv, .int .i64 k.seq, .slice A2 n2 c2, .slice B2 m2 d2, .int .i64 k.mask, .int .i64 k.cost]) rfl)
        replace HS := HS.only ho (by have := Y17.out; omega)
        replace HX1 := HX1.only ho (by have := Y17.out; omega)
        replace HA := HA.only ho (by have := Y17.out; omega)
        replace HX3 := HX3.only ho (by have := Y17.out; omega)
        replace HK := HK.only ho (by have := Y17.out; omega)
        replace HX4 := HX4.only ho (by have := Y17.out; omega)
        replace HJ := HJ.only ho (by have := Y17.out; omega)
        have Z15 : Hid (U15.heap.size = U14.heap.size) := Lib.hid (by rw [hU15]; simp [World.setCell]); clear ho
        have Y18 := Lib.hid (And.intro Y17.out Z15.out); clear Y17 Z15
        obtain ⟨U16, hU16⟩ : ∃ W : World, W = U15.drew := ⟨_, rfl⟩
        have hb : Below U15.heap.size U15 U16 := by rw [hU16]; exact (Below.refl _ _).drew
        have zz : Hid (U15.heap.size = U16.heap.size) := Lib.hid (by rw [hU16]; simp)
        replace HS := HS.below hb
        replace HX1 := HX1.below hb
        replace HX2 := HX2.below hb
        replace HA := HA.below hb
        replace HX3 := HX3.below hb
        replace HK := HK.below hb
        replace HX4 := HX4.below hb
        replace HJ := HJ.below hb
        clear hb
        have Z16 := zz; clear zz
        have Y19 := Lib.hid (And.intro Y18.out Z16.out); clear Y18 Z16
        have q0_0 := HX1.look 0
        have q0_1 := HX1.look 1
        have q0_2 := HX1.look 2
        have q0_3 := HX1.look 3
        have q0_4 := HX1.look 4
        have q0_5 := HX1.look 5
        have q0_6 := HX1.look 6
        have q0_7 := HX1.look 7
        have q0_8 := HX1.look 8
        have q0_9 := HX1.look 9
        have q1_0 := HX2.look 0
        have q1_1 := HX2.look 1
        have q1_2 := HX2.look 2
        have q1_3 := HX2.look 3
        have q1_4 := HX2.look 4
        have q1_5 := HX2.look 5
        have q1_6 := HX2.look 6
        have q1_7 := HX2.look 7
        have q1_8 := HX2.look 8
        have q1_9 := HX2.look 9
        have fin : ∀ e, e = Ending.returned (.tuple #[.agg (lsaCells ⟨j.age, j.options, j.typ, j.id, j.adv, j.seq, j.links, j.routers, j.mask, j.cost⟩ A4 B4 n4 c4 m4 d4), .agg (lsaCells ⟨vq, k.options, k.typ, k.id, k.adv, k.seq, k.links, k.routers, k.mask, k.cost⟩ A2 B2 n2 c2 m2 d2)]) → (PairOut w g A0 n0 c0 cs (K + 200) e U16) := by rintro _ rfl; exact ⟨_, _, _, _, _, _, _, _, _, _, _, _, _, _, rfl, LsaAt.wide (lo' := w.heap.size) (hi' := U16.heap.size) HJ.lsa rfl rfl (by have := Y19.out; omega) (by have := Y19.out; omega) (Nat.le_refl _), LsaAt.wide (lo' := w.heap.size) (hi' := U16.heap.size) HK.lsa rfl rfl (by have := Y19.out; omega) (by have := Y19.out; omega) (Nat.le_refl _), by omega, by omega, by omega, by omega, HS.more (by omega)⟩
        subst hU16 hU15 hU14
        exact bodyPost_ret (v := .tuple #[.agg (lsaCells ⟨j.age, j.options, j.typ, j.id, j.adv, j.seq, j.links, j.routers, j.mask, j.cost⟩ A4 B4 n4 c4 m4 d4), .agg (lsaCells ⟨vq, k.options, k.typ, k.id, k.adv, k.seq, k.links, k.routers, k.mask, k.cost⟩ A2 B2 n2 c2 m2 d2)]) (by simp [results, Try.results87, go_sem, lsaCells, q0_0, q0_1, q0_2, q0_3, q0_4, q0_5, q0_6, q0_7, q0_8, q0_9, q1_0, q1_1, q1_2, q1_3, q1_4, q1_5, q1_6, q1_7, q1_8, q1_9]) rfl (fin _ rfl)


end Go.Proofs.Ytamclkjofojhmaa
