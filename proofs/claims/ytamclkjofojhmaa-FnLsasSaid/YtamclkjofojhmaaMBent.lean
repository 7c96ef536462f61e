/-
  The walk of l2Bent, from which the laws draw an advertisement that may be wrong: it returns, whatever the bytes. No statement is proved here.
-/
import Derived.Test.YtamclkjofojhmaaMDraw
import Derived.Deep.DeepCutAuto
import Derived.Deep.CutBlock
namespace Go.Proofs.Ytamclkjofojhmaa
open Go.RowKit
set_option linter.unusedVariables false

set_option maxRecDepth 100000 in
set_option maxHeartbeats 6400000 in
theorem l2Bent_any (g : Nat) (A0 : Option Addr) (n0 c0 : Nat) (cs : List Int) (K : Nat) (w : World) (hs : Dr w g A0 n0 c0 cs K w) (hK : K ≤ 80000) :
    Calls Try.prog 53 #[.pointer (some ⟨g, 0, none⟩)] w (BentOut w g A0 n0 c0 cs (K + 45)) := by
  have HS := hs
  have Zg : Hid (g < w.heap.size) := Lib.hid hs.lt
  clear hs
  go_enter Try.func53, Try.ntmps53
  go_wp2_with fail
  refine Calls.name ?_
  intro U1 hU1
  have hb : Below w.heap.size w U1 := by rw [hU1]; exact ((Below.refl _ _).alloc (Nat.le_refl _) _)
  have zz : Hid (w.heap.size + 1 = U1.heap.size) := Lib.hid (by rw [hU1]; simp)
  have HX1 : Kept w.heap.size (w.heap.size + 1) (BoxK w.heap.size 29 #[.int .i64 0, .int .i64 0, .int .i64 0, .int .i64 0, .int .i64 0, .int .i64 0, .slice none 0 0, .slice none 0 0, .int .i64 0, .int .i64 0]) U1 := by rw [hU1]; exact Kept.box (Box.made_at _ _ _ rfl)
  replace HS := HS.below hb
  clear hb
  have Z1 := zz; clear zz
  have Y1 := Lib.hid (And.intro Zg.out Z1.out); clear Zg Z1
  clear hU1
  refine (l2Draw_any g A0 n0 c0 cs K _ HS.here (by omega)).mono ?_
  rintro e w2 ⟨l, A, B, n, c, m, d, rfl, hl, hn, hm, hs⟩
  have ho := hs.fr
  have Z2 := Lib.hid ho.size
  have Y2 := Lib.hid (And.intro Y1.out Z2.out); clear Y1 Z2
  replace HX1 := HX1.only ho (by have := Y2.out; omega)
  replace HS := HS.next hs; clear ho hs
  have HL := hl.lsa.kept
  have HO1 := hl.links
  have HO2 := hl.routers
  have hone := hl.one
  clear hl
  have l2_0 := HX1.bx.lt
  go_wp2_with fail
  clear l2_0
  refine Calls.name ?_
  intro U3 hU3
  have hb : Below w2.heap.size w2 U3 := by rw [hU3]; exact ((Below.refl _ _).alloc (Nat.le_refl _) _)
  have zz : Hid (w2.heap.size + 1 = U3.heap.size) := Lib.hid (by rw [hU3]; simp)
  have HX2 : Kept w2.heap.size (w2.heap.size + 1) (BoxK w2.heap.size 29 #[.int .i64 l.age, .int .i64 l.options, .int .i64 l.typ, .int .i64 l.id, .int .i64 l.adv, .int .i64 l.seq, .slice A n c, .slice B m d, .int .i64 l.mask, .int .i64 l.cost]) U3 := by rw [hU3]; exact Kept.box (Box.made_at _ _ _ rfl)
  replace HS := HS.below hb
  replace HX1 := HX1.below hb
  replace HL := HL.below hb
  replace HO1 := HO1.below hb
  replace HO2 := HO2.below hb
  clear hb
  have Z3 := zz; clear zz
  have Y3 := Lib.hid (And.intro Y2.out Z3.out); clear Y2 Z3
  clear hU3
  refine (dNext 18 HS.here (by omega) (by omega) (by omega)).mono ?_
  rintro e w4 ⟨v, rfl, hv0, hv1, hs⟩
  have ho := hs.fr
  have Z4 := Lib.hid ho.size
  have Y4 := Lib.hid (And.intro Y3.out Z4.out); clear Y3 Z4
  replace HX1 := HX1.only ho (by have := Y4.out; omega)
  replace HL := HL.only ho (by have := Y4.out; omega)
  replace HO1 := HO1.only ho (by have := Y4.out; omega)
  replace HO2 := HO2.only ho (by have := Y4.out; omega)
  replace HX2 := HX2.only ho (by have := Y4.out; omega)
  replace HS := HS.next hs; clear ho hs
  have hv : v = 0 ∨ v = 1 ∨ v = 2 ∨ v = 3 ∨ v = 4 ∨ v = 5 ∨ v = 6 ∨ v = 7 ∨ v = 8 ∨ v = 9 ∨ (10 ≤ v ∧ v < 18) := by omega
  go_upto_block 0 with fail
  go_cut [7] (fun s7 wx => ∃ (k : LsaM) (lo2 hi2 lo3 hi3 : Nat) (A2 B2 : Option Addr) (n2 c2 m2 d2 K2 : Nat), Dr w g A0 n0 c0 cs K2 wx ∧ Kept w.heap.size (w.heap.size + 1) (BoxK w.heap.size 29 #[.int .i64 0, .int .i64 0, .int .i64 0, .int .i64 0, .int .i64 0, .int .i64 0, .slice none 0 0, .slice none 0 0, .int .i64 0, .int .i64 0]) wx ∧ Kept (w2.heap.size) ((w2.heap.size) + 1) (BoxK (w2.heap.size) 29 #[.int .i64 k.age, .int .i64 k.options, .int .i64 k.typ, .int .i64 k.id, .int .i64 k.adv, .int .i64 k.seq, .slice A2 n2 c2, .slice B2 m2 d2, .int .i64 k.mask, .int .i64 k.cost]) wx ∧ Kept lo2 hi2 (SlK Rep.link true lo2 hi2 A2 n2 k.links) wx ∧ Kept lo3 hi3 (SlK Rep.int true lo3 hi3 B2 m2 k.routers) wx ∧ n2 ≤ 16 ∧ m2 ≤ 16 ∧ K2 ≤ K + 44 ∧ Hid (w4.heap.size ≤ wx.heap.size ∧ w.heap.size < lo2 ∧ w.heap.size < lo3))
  case first =>
    rcases hv with rfl | rfl | rfl | rfl | rfl | rfl | rfl | rfl | rfl | rfl | ⟨hv0, hv1⟩
    · have l3_0 := HX1.bx.lt
      have l3_1 := HX2.bx.lt
      go_wp2_with fail
      clear l3_0 l3_1
      refine Calls.name ?_
      intro U5 hU5
      have hb : Below w4.heap.size w4 U5 := by rw [hU5]; exact ((Below.refl _ _).alloc (Nat.le_refl _) _)
      have zz : Hid (w4.heap.size + 1 = U5.heap.size) := Lib.hid (by rw [hU5]; simp)
      have HX3 : Kept w4.heap.size (w4.heap.size + 1) (BoxK w4.heap.size 2 #[.int .i64 (-1), .int .i64 3601]) U5 := by rw [hU5]; exact Kept.box (Box.made_at _ _ _ rfl)
      replace HS := HS.below hb
      replace HX1 := HX1.below hb
      replace HL := HL.below hb
      replace HO1 := HO1.below hb
      replace HO2 := HO2.below hb
      replace HX2 := HX2.below hb
      clear hb
      have Z5 := zz; clear zz
      have Y5 := Lib.hid (And.intro Y4.out Z5.out); clear Y4 Z5
      clear hU5
      refine (dPick w4.heap.size 2 [-1, 3601] HS.here (by omega) HX3.bx rfl rfl (by omega) (by omega) (by have := Y5.out; omega)).mono ?_
      rintro e w6 ⟨vp, rfl, hv, hs⟩
      have ho := hs.fr
      have Z6 := Lib.hid ho.size
      have Y6 := Lib.hid (And.intro Y5.out Z6.out); clear Y5 Z6
      clear HX3
      replace HX1 := HX1.only ho (by have := Y6.out; omega)
      replace HL := HL.only ho (by have := Y6.out; omega)
      replace HO1 := HO1.only ho (by have := Y6.out; omega)
      replace HO2 := HO2.only ho (by have := Y6.out; omega)
      replace HX2 := HX2.only ho (by have := Y6.out; omega)
      replace HS := HS.next hs; clear ho hs
      clear hv
      have c4_0 := HX2.look 0
      have f4_0 := HX2.free 0
      have l4_0 := HX1.bx.lt
      have l4_1 := HX2.bx.lt
      go_wp2_with fail
      clear c4_0 f4_0 l4_0 l4_1
      obtain ⟨U7, hU7⟩ : ∃ W : World, W = (w6.setCell ⟨w2.heap.size, 0, none⟩ (.int .i64 vp)) := ⟨_, rfl⟩
      have ho : Only w2.heap.size (w2.heap.size + 1) w6 U7 := by rw [hU7]; exact ((Only.refl _ _ _).set (p := ⟨w2.heap.size, 0, none⟩) (Nat.le_refl _) (Nat.lt_succ_self _) _)
      replace HX2 : Kept w2.heap.size (w2.heap.size + 1) (BoxK w2.heap.size 29 #[.int .i64 vp, .int .i64 l.options, .int .i64 l.typ, .int .i64 l.id, .int .i64 l.adv, .int .i64 l.seq, .slice A n c, .slice B m d, .int .i64 l.mask, .int .i64 l.cost]) U7 := by rw [hU7]; exact Kept.box (HX2.bx.puts 0 (.int .i64 vp) (cs' := #[.int .i64 vp, .int .i64 l.options, .int .i64 l.typ, .int .i64 l.id, .int .i64 l.adv, .int .i64 l.seq, .slice A n c, .slice B m d, .int .i64 l.mask, .int .i64 l.cost]) rfl)
      replace HS := HS.only ho (by have := Y6.out; omega)
      replace HX1 := HX1.only ho (by have := Y6.out; omega)
      replace HL := HL.only ho (by have := Y6.out; omega)
      replace HO1 := HO1.only ho (by have := Y6.out; omega)
      replace HO2 := HO2.only ho (by have := Y6.out; omega)
      have Z7 : Hid (U7.heap.size = w6.heap.size) := Lib.hid (by rw [hU7]; simp [World.setCell]); clear ho
      have Y7 := Lib.hid (And.intro Y6.out Z7.out); clear Y6 Z7
      subst hU7
      go_meet
      exact ⟨⟨vp, l.options, l.typ, l.id, l.adv, l.seq, l.links, l.routers, l.mask, l.cost⟩, _, _, _, _, A, B, n, c, m, d, _, HS, HX1, HX2, HL.imp (fun _ h => LsaIn.links (l := l) h), HL.imp (fun _ h => LsaIn.routers (l := l) h), by omega, by omega, by omega, Lib.hid (by have := Y7.out; omega)⟩
    · have l3_0 := HX1.bx.lt
      have l3_1 := HX2.bx.lt
      go_wp2_with fail
      clear l3_0 l3_1
      refine Calls.name ?_
      intro U5 hU5
      have hb : Below w4.heap.size w4 U5 := by rw [hU5]; exact ((Below.refl _ _).alloc (Nat.le_refl _) _)
      have zz : Hid (w4.heap.size + 1 = U5.heap.size) := Lib.hid (by rw [hU5]; simp)
      have HX3 : Kept w4.heap.size (w4.heap.size + 1) (BoxK w4.heap.size 2 #[.int .i64 (-1), .int .i64 256]) U5 := by rw [hU5]; exact Kept.box (Box.made_at _ _ _ rfl)
      replace HS := HS.below hb
      replace HX1 := HX1.below hb
      replace HL := HL.below hb
      replace HO1 := HO1.below hb
      replace HO2 := HO2.below hb
      replace HX2 := HX2.below hb
      clear hb
      have Z5 := zz; clear zz
      have Y5 := Lib.hid (And.intro Y4.out Z5.out); clear Y4 Z5
      clear hU5
      refine (dPick w4.heap.size 2 [-1, 256] HS.here (by omega) HX3.bx rfl rfl (by omega) (by omega) (by have := Y5.out; omega)).mono ?_
      rintro e w6 ⟨vp, rfl, hv, hs⟩
      have ho := hs.fr
      have Z6 := Lib.hid ho.size
      have Y6 := Lib.hid (And.intro Y5.out Z6.out); clear Y5 Z6
      clear HX3
      replace HX1 := HX1.only ho (by have := Y6.out; omega)
      replace HL := HL.only ho (by have := Y6.out; omega)
      replace HO1 := HO1.only ho (by have := Y6.out; omega)
      replace HO2 := HO2.only ho (by have := Y6.out; omega)
      replace HX2 := HX2.only ho (by have := Y6.out; omega)
      replace HS := HS.next hs; clear ho hs
      clear hv
      have c4_0 := HX2.look 1
      have f4_0 := HX2.free 1
      have l4_0 := HX1.bx.lt
      have l4_1 := HX2.bx.lt
      go_wp2_with fail
      clear c4_0 f4_0 l4_0 l4_1
      obtain ⟨U7, hU7⟩ : ∃ W : World, W = (w6.setCell ⟨w2.heap.size, 1, none⟩ (.int .i64 vp)) := ⟨_, rfl⟩
      have ho : Only w2.heap.size (w2.heap.size + 1) w6 U7 := by rw [hU7]; exact ((Only.refl _ _ _).set (p := ⟨w2.heap.size, 1, none⟩) (Nat.le_refl _) (Nat.lt_succ_self _) _)
      replace HX2 : Kept w2.heap.size (w2.heap.size + 1) (BoxK w2.heap.size 29 #[.int .i64 l.age, .int .i64 vp, .int .i64 l.typ, .int .i64 l.id, .int .i64 l.adv, .int .i64 l.seq, .slice A n c, .slice B m d, .int .i64 l.mask, .int .i64 l.cost]) U7 := by rw [hU7]; exact Kept.box (HX2.bx.puts 1 (.int .i64 vp) (cs' := #[.int .i64 l.age, .int .i64 vp, .int .i64 l.typ, .int .i64 l.id, .int .i64 l.adv, .int .i64 l.seq, .slice A n c, .slice B m d, .int .i64 l.mask, .int .i64 l.cost]) rfl)
      replace HS := HS.only ho (by have := Y6.out; omega)
      replace HX1 := HX1.only ho (by have := Y6.out; omega)
      replace HL := HL.only ho (by have := Y6.out; omega)
      replace HO1 := HO1.only ho (by have := Y6.out; omega)
      replace HO2 := HO2.only ho (by have := Y6.out; omega)
      have Z7 : Hid (U7.heap.size = w6.heap.size) := Lib.hid (by rw [hU7]; simp [World.setCell]); clear ho
      have Y7 := Lib.hid (And.intro Y6.out Z7.out); clear Y6 Z7
      subst hU7
      go_meet
      exact ⟨⟨l.age, vp, l.typ, l.id, l.adv, l.seq, l.links, l.routers, l.mask, l.cost⟩, _, _, _, _, A, B, n, c, m, d, _, HS, HX1, HX2, HL.imp (fun _ h => LsaIn.links (l := l) h), HL.imp (fun _ h => LsaIn.routers (l := l) h), by omega, by omega, by omega, Lib.hid (by have := Y7.out; omega)⟩
    · have l3_0 := HX1.bx.lt
      have l3_1 := HX2.bx.lt
      go_wp2_with fail
      clear l3_0 l3_1
      refine Calls.name ?_
      intro U5 hU5
      have hb : Below w4.heap.size w4 U5 := by rw [hU5]; exact ((Below.refl _ _).alloc (Nat.le_refl _) _)
      have zz : Hid (w4.heap.size + 1 = U5.heap.size) := Lib.hid (by rw [hU5]; simp)
      have HX3 : Kept w4.heap.size (w4.heap.size + 1) (BoxK w4.heap.size 2 #[.int .i64 0, .int .i64 4, .int .i64 1, .int .i64 2, .int .i64 3]) U5 := by rw [hU5]; exact Kept.box (Box.made_at _ _ _ rfl)
      replace HS := HS.below hb
      replace HX1 := HX1.below hb
      replace HL := HL.below hb
      replace HO1 := HO1.below hb
      replace HO2 := HO2.below hb
      replace HX2 := HX2.below hb
      clear hb
      have Z5 := zz; clear zz
      have Y5 := Lib.hid (And.intro Y4.out Z5.out); clear Y4 Z5
      clear hU5
      refine (dPick w4.heap.size 5 [0, 4, 1, 2, 3] HS.here (by omega) HX3.bx rfl rfl (by omega) (by omega) (by have := Y5.out; omega)).mono ?_
      rintro e w6 ⟨vp, rfl, hv, hs⟩
      have ho := hs.fr
      have Z6 := Lib.hid ho.size
      have Y6 := Lib.hid (And.intro Y5.out Z6.out); clear Y5 Z6
      clear HX3
      replace HX1 := HX1.only ho (by have := Y6.out; omega)
      replace HL := HL.only ho (by have := Y6.out; omega)
      replace HO1 := HO1.only ho (by have := Y6.out; omega)
      replace HO2 := HO2.only ho (by have := Y6.out; omega)
      replace HX2 := HX2.only ho (by have := Y6.out; omega)
      replace HS := HS.next hs; clear ho hs
      clear hv
      have c4_0 := HX2.look 2
      have f4_0 := HX2.free 2
      have l4_0 := HX1.bx.lt
      have l4_1 := HX2.bx.lt
      go_wp2_with fail
      clear c4_0 f4_0 l4_0 l4_1
      obtain ⟨U7, hU7⟩ : ∃ W : World, W = (w6.setCell ⟨w2.heap.size, 2, none⟩ (.int .i64 vp)) := ⟨_, rfl⟩
      have ho : Only w2.heap.size (w2.heap.size + 1) w6 U7 := by rw [hU7]; exact ((Only.refl _ _ _).set (p := ⟨w2.heap.size, 2, none⟩) (Nat.le_refl _) (Nat.lt_succ_self _) _)
      replace HX2 : Kept w2.heap.size (w2.heap.size + 1) (BoxK w2.heap.size 29 #[.int .i64 l.age, .int .i64 l.options, .int .i64 vp, .int .i64 l.id, .int .i64 l.adv, .int .i64 l.seq, .slice A n c, .slice B m d, .int .i64 l.mask, .int .i64 l.cost]) U7 := by rw [hU7]; exact Kept.box (HX2.bx.puts 2 (.int .i64 vp) (cs' := #[.int .i64 l.age, .int .i64 l.options, .int .i64 vp, .int .i64 l.id, .int .i64 l.adv, .int .i64 l.seq, .slice A n c, .slice B m d, .int .i64 l.mask, .int .i64 l.cost]) rfl)
      replace HS := HS.only ho (by have := Y6.out; omega)
      replace HX1 := HX1.only ho (by have := Y6.out; omega)
      replace HL := HL.only ho (by have := Y6.out; omega)
      replace HO1 := HO1.only ho (by have := Y6.out; omega)
      replace HO2 := HO2.only ho (by have := Y6.out; omega)
      have Z7 : Hid (U7.heap.size = w6.heap.size) := Lib.hid (by rw [hU7]; simp [World.setCell]); clear ho
      have Y7 := Lib.hid (And.intro Y6.out Z7.out); clear Y6 Z7
      subst hU7
      go_meet
      exact ⟨⟨l.age, l.options, vp, l.id, l.adv, l.seq, l.links, l.routers, l.mask, l.cost⟩, _, _, _, _, A, B, n, c, m, d, _, HS, HX1, HX2, HL.imp (fun _ h => LsaIn.links (l := l) h), HL.imp (fun _ h => LsaIn.routers (l := l) h), by omega, by omega, by omega, Lib.hid (by have := Y7.out; omega)⟩
    · have l3_0 := HX1.bx.lt
      have l3_1 := HX2.bx.lt
      go_wp2_with fail
      clear l3_0 l3_1
      refine Calls.name ?_
      intro U5 hU5
      have hb : Below w4.heap.size w4 U5 := by rw [hU5]; exact ((Below.refl _ _).alloc (Nat.le_refl _) _)
      have zz : Hid (w4.heap.size + 1 = U5.heap.size) := Lib.hid (by rw [hU5]; simp)
      have HX3 : Kept w4.heap.size (w4.heap.size + 1) (BoxK w4.heap.size 2 #[.int .i64 (-1), .int .i64 4294967296, .int .i64 7]) U5 := by rw [hU5]; exact Kept.box (Box.made_at _ _ _ rfl)
      replace HS := HS.below hb
      replace HX1 := HX1.below hb
      replace HL := HL.below hb
      replace HO1 := HO1.below hb
      replace HO2 := HO2.below hb
      replace HX2 := HX2.below hb
      clear hb
      have Z5 := zz; clear zz
      have Y5 := Lib.hid (And.intro Y4.out Z5.out); clear Y4 Z5
      clear hU5
      refine (dPick w4.heap.size 3 [-1, 4294967296, 7] HS.here (by omega) HX3.bx rfl rfl (by omega) (by omega) (by have := Y5.out; omega)).mono ?_
      rintro e w6 ⟨vp, rfl, hv, hs⟩
      have ho := hs.fr
      have Z6 := Lib.hid ho.size
      have Y6 := Lib.hid (And.intro Y5.out Z6.out); clear Y5 Z6
      clear HX3
      replace HX1 := HX1.only ho (by have := Y6.out; omega)
      replace HL := HL.only ho (by have := Y6.out; omega)
      replace HO1 := HO1.only ho (by have := Y6.out; omega)
      replace HO2 := HO2.only ho (by have := Y6.out; omega)
      replace HX2 := HX2.only ho (by have := Y6.out; omega)
      replace HS := HS.next hs; clear ho hs
      clear hv
      have c4_0 := HX2.look 3
      have f4_0 := HX2.free 3
      have l4_0 := HX1.bx.lt
      have l4_1 := HX2.bx.lt
      go_wp2_with fail
      clear c4_0 f4_0 l4_0 l4_1
      obtain ⟨U7, hU7⟩ : ∃ W : World, W = (w6.setCell ⟨w2.heap.size, 3, none⟩ (.int .i64 vp)) := ⟨_, rfl⟩
      have ho : Only w2.heap.size (w2.heap.size + 1) w6 U7 := by rw [hU7]; exact ((Only.refl _ _ _).set (p := ⟨w2.heap.size, 3, none⟩) (Nat.le_refl _) (Nat.lt_succ_self _) _)
      replace HX2 : Kept w2.heap.size (w2.heap.size + 1) (BoxK w2.heap.size 29 #[.int .i64 l.age, .int .i64 l.options, .int .i64 l.typ, .int .i64 vp, .int .i64 l.adv, .int .i64 l.seq, .slice A n c, .slice B m d, .int .i64 l.mask, .int .i64 l.cost]) U7 := by rw [hU7]; exact Kept.box (HX2.bx.puts 3 (.int .i64 vp) (cs' := #[.int .i64 l.age, .int .i64 l.options, .int .i64 l.typ, .int .i64 vp, .int .i64 l.adv, .int .i64 l.seq, .slice A n c, .slice B m d, .int .i64 l.mask, .int .i64 l.cost]) rfl)
      replace HS := HS.only ho (by have := Y6.out; omega)
      replace HX1 := HX1.only ho (by have := Y6.out; omega)
      replace HL := HL.only ho (by have := Y6.out; omega)
      replace HO1 := HO1.only ho (by have := Y6.out; omega)
      replace HO2 := HO2.only ho (by have := Y6.out; omega)
      have Z7 : Hid (U7.heap.size = w6.heap.size) := Lib.hid (by rw [hU7]; simp [World.setCell]); clear ho
      have Y7 := Lib.hid (And.intro Y6.out Z7.out); clear Y6 Z7
      subst hU7
      go_meet
      exact ⟨⟨l.age, l.options, l.typ, vp, l.adv, l.seq, l.links, l.routers, l.mask, l.cost⟩, _, _, _, _, A, B, n, c, m, d, _, HS, HX1, HX2, HL.imp (fun _ h => LsaIn.links (l := l) h), HL.imp (fun _ h => LsaIn.routers (l := l) h), by omega, by omega, by omega, Lib.hid (by have := Y7.out; omega)⟩
    · have l3_0 := HX1.bx.lt
      have l3_1 := HX2.bx.lt
      go_wp2_with fail
      clear l3_0 l3_1
      refine Calls.name ?_
      intro U5 hU5
      have hb : Below w4.heap.size w4 U5 := by rw [hU5]; exact ((Below.refl _ _).alloc (Nat.le_refl _) _)
      have zz : Hid (w4.heap.size + 1 = U5.heap.size) := Lib.hid (by rw [hU5]; simp)
      have HX3 : Kept w4.heap.size (w4.heap.size + 1) (BoxK w4.heap.size 2 #[.int .i64 (-2147483648), .int .i64 2147483648]) U5 := by rw [hU5]; exact Kept.box (Box.made_at _ _ _ rfl)
      replace HS := HS.below hb
      replace HX1 := HX1.below hb
      replace HL := HL.below hb
      replace HO1 := HO1.below hb
      replace HO2 := HO2.below hb
      replace HX2 := HX2.below hb
      clear hb
      have Z5 := zz; clear zz
      have Y5 := Lib.hid (And.intro Y4.out Z5.out); clear Y4 Z5
      clear hU5
      refine (dPick w4.heap.size 2 [-2147483648, 2147483648] HS.here (by omega) HX3.bx rfl rfl (by omega) (by omega) (by have := Y5.out; omega)).mono ?_
      rintro e w6 ⟨vp, rfl, hv, hs⟩
      have ho := hs.fr
      have Z6 := Lib.hid ho.size
      have Y6 := Lib.hid (And.intro Y5.out Z6.out); clear Y5 Z6
      clear HX3
      replace HX1 := HX1.only ho (by have := Y6.out; omega)
      replace HL := HL.only ho (by have := Y6.out; omega)
      replace HO1 := HO1.only ho (by have := Y6.out; omega)
      replace HO2 := HO2.only ho (by have := Y6.out; omega)
      replace HX2 := HX2.only ho (by have := Y6.out; omega)
      replace HS := HS.next hs; clear ho hs
      clear hv
      have c4_0 := HX2.look 5
      have f4_0 := HX2.free 5
      have l4_0 := HX1.bx.lt
      have l4_1 := HX2.bx.lt
      go_wp2_with fail
      clear c4_0 f4_0 l4_0 l4_1
      obtain ⟨U7, hU7⟩ : ∃ W : World, W = (w6.setCell ⟨w2.heap.size, 5, none⟩ (.int .i64 vp)) := ⟨_, rfl⟩
      have ho : Only w2.heap.size (w2.heap.size + 1) w6 U7 := by rw [hU7]; exact ((Only.refl _ _ _).set (p := ⟨w2.heap.size, 5, none⟩) (Nat.le_refl _) (Nat.lt_succ_self _) _)
      replace HX2 : Kept w2.heap.size (w2.heap.size + 1) (BoxK w2.heap.size 29 #[.int .i64 l.age, .int .i64 l.options, .int .i64 l.typ, .int .i64 l.id, .int .i64 l.adv, .int .i64 vp, .slice A n c, .slice B m d, .int .i64 l.mask, .int .i64 l.cost]) U7 := by rw [hU7]; exact Kept.box (HX2.bx.puts 5 (.int .i64 vp) (cs' := #[.int .i64 l.age, .int .i64 l.options, .int .i64 l.typ, .int .i64 l.id, .int .i64 l.adv, .int .i64 vp, .slice A n c, .slice B m d, .int .i64 l.mask, .int .i64 l.cost]) rfl)
      replace HS := HS.only ho (by have := Y6.out; omega)
      replace HX1 := HX1.only ho (by have := Y6.out; omega)
      replace HL := HL.only ho (by have := Y6.out; omega)
      replace HO1 := HO1.only ho (by have := Y6.out; omega)
      replace HO2 := HO2.only ho (by have := Y6.out; omega)
      have Z7 : Hid (U7.heap.size = w6.heap.size) := Lib.hid (by rw [hU7]; simp [World.setCell]); clear ho
      have Y7 := Lib.hid (And.intro Y6.out Z7.out); clear Y6 Z7
      subst hU7
      go_meet
      exact ⟨⟨l.age, l.options, l.typ, l.id, l.adv, vp, l.links, l.routers, l.mask, l.cost⟩, _, _, _, _, A, B, n, c, m, d, _, HS, HX1, HX2, HL.imp (fun _ h => LsaIn.links (l := l) h), HL.imp (fun _ h => LsaIn.routers (l := l) h), by omega, by omega, by omega, Lib.hid (by have := Y7.out; omega)⟩
    · rcases hone with ⟨rfl, rfl, rfl, hr0⟩ | ⟨rfl, rfl, rfl, hl0⟩
      · have l3_0 := HX1.bx.lt
        have l3_1 := HX2.bx.lt
        go_wp2_with fail
        clear l3_0 l3_1
        have HO := HO1
        have HR := OwnFK.nil_ (lo := w4.heap.size) (hi := w4.heap.size) 2 1 icell w4 (Nat.le_refl _)
        clear HL HO1 HO2
        have DHX1 : Hid (w.heap.size + 1 ≤ g ∨ g + 1 ≤ w.heap.size) := Lib.hid (by have := Y4.out; omega)
        have DHX2 : Hid (w2.heap.size + 1 ≤ g ∨ g + 1 ≤ w2.heap.size) := Lib.hid (by have := Y4.out; omega)
        have DHR : Hid (w4.heap.size ≤ g ∨ g + 1 ≤ w4.heap.size) := Lib.hid (by have := Y4.out; omega)
        have DHO : Hid (w2.heap.size ≤ g ∨ g + 1 ≤ U1.heap.size) := Lib.hid (by have := Y4.out; omega)
        have DO3 : Hid (w2.heap.size + 1 ≤ U1.heap.size ∨ w2.heap.size ≤ w2.heap.size) := Lib.hid (by have := Y4.out; omega)
        have DO1 : Hid (w.heap.size + 1 ≤ U1.heap.size ∨ w2.heap.size ≤ w.heap.size) := Lib.hid (by have := Y4.out; omega)
        have DOR : Hid (w4.heap.size ≤ U1.heap.size ∨ w2.heap.size ≤ w4.heap.size) := Lib.hid (by have := Y4.out; omega)
        have DOS : Hid (w.heap.size ≤ U1.heap.size) := Lib.hid (by have := Y4.out; omega)
        have DLH : Hid (U1.heap.size ≤ w2.heap.size) := Lib.hid (by have := Y4.out; omega)
        have Dg : Hid (¬ w4.heap.size = g ∧ ¬ w4.heap.size + 1 = g ∧ g < w4.heap.size) := Lib.hid (by have := HS.lt; omega)
        have cq0 := HX2.look 6
        have lq0 := HX2.bx.lt
        have VA : Hid (Below w4.heap.size w4 ((w4.alloc (.cells #[.int .i64 0, .int .i64 1, .int .i64 3] 2))).drew) := Lib.hid ((Below.alloc (Below.refl w4.heap.size w4) (by first | exact Nat.le_refl _ | (simp; try omega)) _)).drew
        have VB : Hid (Below w4.heap.size w4 (((w4.alloc (.cells #[.int .i64 0, .int .i64 65536] 2)).alloc (.cells #[.int .i64 0, .int .i64 1, .int .i64 3] 2))).drew) := Lib.hid ((Below.alloc (Below.alloc (Below.refl w4.heap.size w4) (by first | exact Nat.le_refl _ | (simp; try omega)) _) (by first | exact Nat.le_refl _ | (simp; try omega)) _)).drew
        have VC : Hid (Below w4.heap.size w4 (((w4.alloc (.cells #[.int .i64 0, .int .i64 1, .int .i64 3] 2)).alloc (.cells #[.int .i64 0, .int .i64 65536] 2))).drew) := Lib.hid ((Below.alloc (Below.alloc (Below.refl w4.heap.size w4) (by first | exact Nat.le_refl _ | (simp; try omega)) _) (by first | exact Nat.le_refl _ | (simp; try omega)) _)).drew
        go_region_law (first
                  | ((show (if Region.wanted (Oper.mk (some 46) _ _ _ _ _) _ = true then _ else _)); go_simp; have PC := dPick (w := ((w4.alloc (.cells #[.int .i64 0, .int .i64 1, .int .i64 3] 2))).drew) w4.heap.size 3 [0, 1, 3] (HS.below VA.out).here (by omega) (Box.drew (Box.made_at _ _ _ rfl)) rfl rfl (by omega) (by omega) (by have := Dg.out; have := HS.lt; omega); with_reducible refine PC.mono ?_; clear PC; rintro e u1 ⟨v1, rfl, hv, hs⟩; have ho := hs.fr; replace HX1 := (HX1.below VA.out).only ho DHX1.out; replace HX2 := (HX2.below VA.out).only ho DHX2.out; replace HR := (HR.below VA.out).only ho DHR.out; replace HO := (HO.below VA.out).only ho DHO.out; replace HS := (HS.below VA.out).next hs; have c_u1 := HX2.look 6; have l_u1 := HX2.bx.lt; have Z_u1 := Lib.hid (Nat.le_trans (Below.size VA.out) ho.size); clear ho hs hv)
                  | ((show (if Region.wanted (Oper.mk (some 46) _ _ _ _ _) _ = true then _ else _)); go_simp; have PC := dPick (w := (((w4.alloc (.cells #[.int .i64 0, .int .i64 65536] 2)).alloc (.cells #[.int .i64 0, .int .i64 1, .int .i64 3] 2))).drew) (w4.heap.size + 1) 3 [0, 1, 3] (HS.below VB.out).here (by omega) (Box.drew (Box.made_at _ _ _ (by simp))) rfl rfl (by omega) (by omega) (by have := Dg.out; have := HS.lt; omega); with_reducible refine PC.mono ?_; clear PC; rintro e u1 ⟨v1, rfl, hv, hs⟩; have ho := hs.fr; have HL2 := (Kept.box (show Box (((w4.alloc (.cells #[.int .i64 0, .int .i64 65536] 2)).alloc (.cells #[.int .i64 0, .int .i64 1, .int .i64 3] 2))).drew w4.heap.size 2 #[.int .i64 0, .int .i64 65536] from (Box.drew ((Box.made_at _ _ _ rfl).over _)))).only ho (by have := Dg.out; omega); replace HX1 := (HX1.below VB.out).only ho DHX1.out; replace HX2 := (HX2.below VB.out).only ho DHX2.out; replace HR := (HR.below VB.out).only ho DHR.out; replace HO := (HO.below VB.out).only ho DHO.out; replace HS := (HS.below VB.out).next hs; have c_u1 := HX2.look 6; have l_u1 := HX2.bx.lt; have Z_u1 := Lib.hid (Nat.le_trans (Below.size VB.out) ho.size); clear ho hs hv)
                  | ((show (if Region.wanted (Oper.mk (some 46) _ _ _ _ _) _ = true then _ else _)); go_simp; have PC := dPick (w := (((w4.alloc (.cells #[.int .i64 0, .int .i64 1, .int .i64 3] 2)).alloc (.cells #[.int .i64 0, .int .i64 65536] 2))).drew) w4.heap.size 3 [0, 1, 3] (HS.below VC.out).here (by omega) (Box.drew ((Box.made_at _ _ _ rfl).over _)) rfl rfl (by omega) (by omega) (by have := Dg.out; have := HS.lt; omega); with_reducible refine PC.mono ?_; clear PC; rintro e u1 ⟨v1, rfl, hv, hs⟩; have ho := hs.fr; have HL2 := (Kept.box (show Box (((w4.alloc (.cells #[.int .i64 0, .int .i64 1, .int .i64 3] 2)).alloc (.cells #[.int .i64 0, .int .i64 65536] 2))).drew (w4.heap.size + 1) 2 #[.int .i64 0, .int .i64 65536] from (Box.drew (Box.made_at _ _ _ (by simp))))).only ho (by have := Dg.out; omega); replace HX1 := (HX1.below VC.out).only ho DHX1.out; replace HX2 := (HX2.below VC.out).only ho DHX2.out; replace HR := (HR.below VC.out).only ho DHR.out; replace HO := (HO.below VC.out).only ho DHO.out; replace HS := (HS.below VC.out).next hs; have c_u1 := HX2.look 6; have l_u1 := HX2.bx.lt; have Z_u1 := Lib.hid (Nat.le_trans (Below.size VC.out) ho.size); clear ho hs hv)
                  | ((show (if Region.wanted (Oper.mk (some 49) _ _ _ _ _) _ = true then _ else _)); have SU : Hid (Below u1.heap.size u1 (u1.alloc (.cells #[.int .i64 0, .int .i64 65536] 2))) := Lib.hid (Below.alloc (Below.refl u1.heap.size u1) (Nat.le_refl _) _); go_simp; have PC := dPick (w := (u1.alloc (.cells #[.int .i64 0, .int .i64 65536] 2))) u1.heap.size 2 [0, 65536] (HS.below SU.out).here (by omega) (Box.made_at _ _ _ rfl) rfl rfl (by omega) (by omega) (by have := Dg.out; have := HS.lt; omega); with_reducible refine PC.mono ?_; clear PC; rintro e u2 ⟨v2, rfl, hv, hs⟩; have ho := hs.fr; replace HX1 := (HX1.below SU.out).only ho DHX1.out; replace HX2 := (HX2.below SU.out).only ho DHX2.out; replace HR := (HR.below SU.out).only ho DHR.out; replace HO := (HO.below SU.out).only ho DHO.out; replace HS := (HS.below SU.out).next hs; have c_u2 := HX2.look 6; have l_u2 := HX2.bx.lt; have Z_u2 := Lib.hid (Nat.le_trans (Below.size SU.out) ho.size); clear ho hs hv)
                  | ((show (if Region.wanted (Oper.mk (some 49) _ _ _ _ _) _ = true then _ else _)); go_simp; have PC := dPick (w := u1) w4.heap.size 2 [0, 65536] HS.here (by omega) HL2.bx rfl rfl (by omega) (by omega) (by have := Dg.out; have := HS.lt; omega); with_reducible refine PC.mono ?_; clear PC; rintro e u2 ⟨v2, rfl, hv, hs⟩; have ho := hs.fr; replace HX1 := HX1.only ho DHX1.out; replace HX2 := HX2.only ho DHX2.out; replace HR := HR.only ho DHR.out; replace HO := HO.only ho DHO.out; replace HS := HS.next hs; have c_u2 := HX2.look 6; have l_u2 := HX2.bx.lt; have Z_u2 := Lib.hid (ho.size); clear ho hs hv)
                  | ((show (if Region.wanted (Oper.mk (some 49) _ _ _ _ _) _ = true then _ else _)); go_simp; have PC := dPick (w := u1) (w4.heap.size + 1) 2 [0, 65536] HS.here (by omega) HL2.bx rfl rfl (by omega) (by omega) (by have := Dg.out; have := HS.lt; omega); with_reducible refine PC.mono ?_; clear PC; rintro e u2 ⟨v2, rfl, hv, hs⟩; have ho := hs.fr; replace HX1 := HX1.only ho DHX1.out; replace HX2 := HX2.only ho DHX2.out; replace HR := HR.only ho DHR.out; replace HO := HO.only ho DHO.out; replace HS := HS.next hs; have c_u2 := HX2.look 6; have l_u2 := HX2.bx.lt; have Z_u2 := Lib.hid (ho.size); clear ho hs hv)
                  | ((show (if Region.wanted (Oper.mk (some 52) _ _ _ _ _) _ = true then _ else _)); have SL : Hid (Below u2.heap.size u2 (u2.alloc (.cells #[.int .i64 v1, .int .i64 0, .int .i64 0, .int .i64 v2] 101))) := Lib.hid (Below.alloc (Below.refl u2.heap.size u2) (Nat.le_refl _) _); (refine step_appF lcell_len lcell_one Try.underlying26 linkInfo rfl (by decide) (by decide) (by rfl) (.tmp 43) (.tmp 51) (by rfl) (B := U1.heap.size) (by rfl) (HO.below SL.out).ownF (by rfl) (by omega) (InF.of_box (m := 1) (Box.made u2 101 _) [⟨v1, 0, 0, v2⟩] rfl rfl) (by omega) (Nat.le_trans DLH.out (HO.below SL.out).le) ?_); intro A' c' x ho hg; have hq : Only (U1.heap.size) (w2.heap.size) (u2.alloc (.cells #[.int .i64 v1, .int .i64 0, .int .i64 0, .int .i64 v2] 101)) x := Only.of_grown hg (fun r hr => (by have := HO.ownF.block r hr; have := HO.lim r hr; omega)); replace HX1 := (HX1.below SL.out).only hq DO1.out; replace HX2 := (HX2.below SL.out).only hq DO3.out; replace HR := (HR.below SL.out).only hq DOR.out; replace HS := (HS.below SL.out).only hq DOS.out; obtain ⟨r, hr, hr1, hr2⟩ := ho.at_ (by omega); replace HO := hr; have Zr1 := Lib.hid (hr2 _ _ _ HX1.bx (by decide)); have Zr2 := Lib.hid (hr2 _ _ _ HX2.bx (by decide)); have Zr3 := Lib.hid hr1; have Zx := Lib.hid (Nat.le_trans (Below.size SL.out) hq.size); have c_x := HX2.look 6; have f_x := HX2.free 6; have l_x := HX2.bx.lt; clear hq hg ho hr hr1 hr2))
        all_goals
          have Y5 := Lib.hid (And.intro Y4.out Zx.out); clear Y4 Zx
          have Y6 := Lib.hid (And.intro Y5.out Zr1.out); clear Y5 Zr1
          have Y7 := Lib.hid (And.intro Y6.out Zr2.out); clear Y6 Zr2
          have Y8 := Lib.hid (And.intro Y7.out Zr3.out); clear Y7 Zr3
          have Y9 := Lib.hid (And.intro Y8.out Z_u1.out); clear Y8 Z_u1
          have Y10 := Lib.hid (And.intro Y9.out Z_u2.out); clear Y9 Z_u2
          clear c_x f_x l_x
          have l4_0 := HX1.bx.lt
          have l4_1 := HX2.bx.lt
          go_wp2_with fail
          clear l4_0 l4_1
          obtain ⟨U5, hU5⟩ : ∃ W : World, W = (x.setCell ⟨w2.heap.size, 6, none⟩ (.slice A' (n + 1) c')) := ⟨_, rfl⟩
          have ho : Only w2.heap.size (w2.heap.size + 1) x U5 := by rw [hU5]; exact ((Only.refl _ _ _).set (p := ⟨w2.heap.size, 6, none⟩) (Nat.le_refl _) (Nat.lt_succ_self _) _)
          replace HX2 : Kept w2.heap.size (w2.heap.size + 1) (BoxK w2.heap.size 29 #[.int .i64 l.age, .int .i64 l.options, .int .i64 l.typ, .int .i64 l.id, .int .i64 l.adv, .int .i64 l.seq, .slice A' (n + 1) c', .slice none 0 0, .int .i64 l.mask, .int .i64 l.cost]) U5 := by rw [hU5]; exact Kept.box (HX2.bx.puts 6 (.slice A' (n + 1) c') (cs' := #[.int .i64 l.age, .int .i64 l.options, .int .i64 l.typ, .int .i64 l.id, .int .i64 l.adv, .int .i64 l.seq, .slice A' (n + 1) c', .slice none 0 0, .int .i64 l.mask, .int .i64 l.cost]) rfl)
          replace HS := HS.only ho (by have := Y10.out; omega)
          replace HX1 := HX1.only ho (by have := Y10.out; omega)
          replace HR := HR.only ho (by have := Y10.out; omega)
          replace HO := HO.only ho (by have := Y10.out; omega)
          have Z5 : Hid (U5.heap.size = x.heap.size) := Lib.hid (by rw [hU5]; simp [World.setCell]); clear ho
          have Y11 := Lib.hid (And.intro Y10.out Z5.out); clear Y10 Z5
          subst hU5
          go_meet
          exact ⟨⟨l.age, l.options, l.typ, l.id, l.adv, l.seq, (l.links ++ [⟨v1, 0, 0, v2⟩]), [], l.mask, l.cost⟩, _, _, _, _, A', none, n + 1, c', 0, 0, _, HS, HX1, HX2, HO.links, HR.ints, by omega, by omega, by omega, Lib.hid (by have := Y11.out; omega)⟩
      · have l3_0 := HX1.bx.lt
        have l3_1 := HX2.bx.lt
        go_wp2_with fail
        clear l3_0 l3_1
        have HO := OwnFK.nil_ (lo := w4.heap.size) (hi := w4.heap.size) 101 4 lcell w4 (Nat.le_refl _)
        have HR := HO2
        clear HL HO1 HO2
        have DHX1 : Hid (w.heap.size + 1 ≤ g ∨ g + 1 ≤ w.heap.size) := Lib.hid (by have := Y4.out; omega)
        have DHX2 : Hid (w2.heap.size + 1 ≤ g ∨ g + 1 ≤ w2.heap.size) := Lib.hid (by have := Y4.out; omega)
        have DHR : Hid (w2.heap.size ≤ g ∨ g + 1 ≤ U1.heap.size) := Lib.hid (by have := Y4.out; omega)
        have DHO : Hid (w4.heap.size ≤ g ∨ g + 1 ≤ w4.heap.size) := Lib.hid (by have := Y4.out; omega)
        have DO3 : Hid (w2.heap.size + 1 ≤ w4.heap.size ∨ w4.heap.size ≤ w2.heap.size) := Lib.hid (by have := Y4.out; omega)
        have DO1 : Hid (w.heap.size + 1 ≤ w4.heap.size ∨ w4.heap.size ≤ w.heap.size) := Lib.hid (by have := Y4.out; omega)
        have DOR : Hid (w2.heap.size ≤ w4.heap.size ∨ w4.heap.size ≤ U1.heap.size) := Lib.hid (by have := Y4.out; omega)
        have DOS : Hid (w.heap.size ≤ w4.heap.size) := Lib.hid (by have := Y4.out; omega)
        have DLH : Hid (w4.heap.size ≤ w4.heap.size) := Lib.hid (by have := Y4.out; omega)
        have Dg : Hid (¬ w4.heap.size = g ∧ ¬ w4.heap.size + 1 = g ∧ g < w4.heap.size) := Lib.hid (by have := HS.lt; omega)
        have cq0 := HX2.look 6
        have lq0 := HX2.bx.lt
        have VA : Hid (Below w4.heap.size w4 ((w4.alloc (.cells #[.int .i64 0, .int .i64 1, .int .i64 3] 2))).drew) := Lib.hid ((Below.alloc (Below.refl w4.heap.size w4) (by first | exact Nat.le_refl _ | (simp; try omega)) _)).drew
        have VB : Hid (Below w4.heap.size w4 (((w4.alloc (.cells #[.int .i64 0, .int .i64 65536] 2)).alloc (.cells #[.int .i64 0, .int .i64 1, .int .i64 3] 2))).drew) := Lib.hid ((Below.alloc (Below.alloc (Below.refl w4.heap.size w4) (by first | exact Nat.le_refl _ | (simp; try omega)) _) (by first | exact Nat.le_refl _ | (simp; try omega)) _)).drew
        have VC : Hid (Below w4.heap.size w4 (((w4.alloc (.cells #[.int .i64 0, .int .i64 1, .int .i64 3] 2)).alloc (.cells #[.int .i64 0, .int .i64 65536] 2))).drew) := Lib.hid ((Below.alloc (Below.alloc (Below.refl w4.heap.size w4) (by first | exact Nat.le_refl _ | (simp; try omega)) _) (by first | exact Nat.le_refl _ | (simp; try omega)) _)).drew
        go_region_law (first
                  | ((show (if Region.wanted (Oper.mk (some 46) _ _ _ _ _) _ = true then _ else _)); go_simp; have PC := dPick (w := ((w4.alloc (.cells #[.int .i64 0, .int .i64 1, .int .i64 3] 2))).drew) w4.heap.size 3 [0, 1, 3] (HS.below VA.out).here (by omega) (Box.drew (Box.made_at _ _ _ rfl)) rfl rfl (by omega) (by omega) (by have := Dg.out; have := HS.lt; omega); with_reducible refine PC.mono ?_; clear PC; rintro e u1 ⟨v1, rfl, hv, hs⟩; have ho := hs.fr; replace HX1 := (HX1.below VA.out).only ho DHX1.out; replace HX2 := (HX2.below VA.out).only ho DHX2.out; replace HR := (HR.below VA.out).only ho DHR.out; replace HO := (HO.below VA.out).only ho DHO.out; replace HS := (HS.below VA.out).next hs; have c_u1 := HX2.look 6; have l_u1 := HX2.bx.lt; have Z_u1 := Lib.hid (Nat.le_trans (Below.size VA.out) ho.size); clear ho hs hv)
                  | ((show (if Region.wanted (Oper.mk (some 46) _ _ _ _ _) _ = true then _ else _)); go_simp; have PC := dPick (w := (((w4.alloc (.cells #[.int .i64 0, .int .i64 65536] 2)).alloc (.cells #[.int .i64 0, .int .i64 1, .int .i64 3] 2))).drew) (w4.heap.size + 1) 3 [0, 1, 3] (HS.below VB.out).here (by omega) (Box.drew (Box.made_at _ _ _ (by simp))) rfl rfl (by omega) (by omega) (by have := Dg.out; have := HS.lt; omega); with_reducible refine PC.mono ?_; clear PC; rintro e u1 ⟨v1, rfl, hv, hs⟩; have ho := hs.fr; have HL2 := (Kept.box (show Box (((w4.alloc (.cells #[.int .i64 0, .int .i64 65536] 2)).alloc (.cells #[.int .i64 0, .int .i64 1, .int .i64 3] 2))).drew w4.heap.size 2 #[.int .i64 0, .int .i64 65536] from (Box.drew ((Box.made_at _ _ _ rfl).over _)))).only ho (by have := Dg.out; omega); replace HX1 := (HX1.below VB.out).only ho DHX1.out; replace HX2 := (HX2.below VB.out).only ho DHX2.out; replace HR := (HR.below VB.out).only ho DHR.out; replace HO := (HO.below VB.out).only ho DHO.out; replace HS := (HS.below VB.out).next hs; have c_u1 := HX2.look 6; have l_u1 := HX2.bx.lt; have Z_u1 := Lib.hid (Nat.le_trans (Below.size VB.out) ho.size); clear ho hs hv)
                  | ((show (if Region.wanted (Oper.mk (some 46) _ _ _ _ _) _ = true then _ else _)); go_simp; have PC := dPick (w := (((w4.alloc (.cells #[.int .i64 0, .int .i64 1, .int .i64 3] 2)).alloc (.cells #[.int .i64 0, .int .i64 65536] 2))).drew) w4.heap.size 3 [0, 1, 3] (HS.below VC.out).here (by omega) (Box.drew ((Box.made_at _ _ _ rfl).over _)) rfl rfl (by omega) (by omega) (by have := Dg.out; have := HS.lt; omega); with_reducible refine PC.mono ?_; clear PC; rintro e u1 ⟨v1, rfl, hv, hs⟩; have ho := hs.fr; have HL2 := (Kept.box (show Box (((w4.alloc (.cells #[.int .i64 0, .int .i64 1, .int .i64 3] 2)).alloc (.cells #[.int .i64 0, .int .i64 65536] 2))).drew (w4.heap.size + 1) 2 #[.int .i64 0, .int .i64 65536] from (Box.drew (Box.made_at _ _ _ (by simp))))).only ho (by have := Dg.out; omega); replace HX1 := (HX1.below VC.out).only ho DHX1.out; replace HX2 := (HX2.below VC.out).only ho DHX2.out; replace HR := (HR.below VC.out).only ho DHR.out; replace HO := (HO.below VC.out).only ho DHO.out; replace HS := (HS.below VC.out).next hs; have c_u1 := HX2.look 6; have l_u1 := HX2.bx.lt; have Z_u1 := Lib.hid (Nat.le_trans (Below.size VC.out) ho.size); clear ho hs hv)
                  | ((show (if Region.wanted (Oper.mk (some 49) _ _ _ _ _) _ = true then _ else _)); have SU : Hid (Below u1.heap.size u1 (u1.alloc (.cells #[.int .i64 0, .int .i64 65536] 2))) := Lib.hid (Below.alloc (Below.refl u1.heap.size u1) (Nat.le_refl _) _); go_simp; have PC := dPick (w := (u1.alloc (.cells #[.int .i64 0, .int .i64 65536] 2))) u1.heap.size 2 [0, 65536] (HS.below SU.out).here (by omega) (Box.made_at _ _ _ rfl) rfl rfl (by omega) (by omega) (by have := Dg.out; have := HS.lt; omega); with_reducible refine PC.mono ?_; clear PC; rintro e u2 ⟨v2, rfl, hv, hs⟩; have ho := hs.fr; replace HX1 := (HX1.below SU.out).only ho DHX1.out; replace HX2 := (HX2.below SU.out).only ho DHX2.out; replace HR := (HR.below SU.out).only ho DHR.out; replace HO := (HO.below SU.out).only ho DHO.out; replace HS := (HS.below SU.out).next hs; have c_u2 := HX2.look 6; have l_u2 := HX2.bx.lt; have Z_u2 := Lib.hid (Nat.le_trans (Below.size SU.out) ho.size); clear ho hs hv)
                  | ((show (if Region.wanted (Oper.mk (some 49) _ _ _ _ _) _ = true then _ else _)); go_simp; have PC := dPick (w := u1) w4.heap.size 2 [0, 65536] HS.here (by omega) HL2.bx rfl rfl (by omega) (by omega) (by have := Dg.out; have := HS.lt; omega); with_reducible refine PC.mono ?_; clear PC; rintro e u2 ⟨v2, rfl, hv, hs⟩; have ho := hs.fr; replace HX1 := HX1.only ho DHX1.out; replace HX2 := HX2.only ho DHX2.out; replace HR := HR.only ho DHR.out; replace HO := HO.only ho DHO.out; replace HS := HS.next hs; have c_u2 := HX2.look 6; have l_u2 := HX2.bx.lt; have Z_u2 := Lib.hid (ho.size); clear ho hs hv)
                  | ((show (if Region.wanted (Oper.mk (some 49) _ _ _ _ _) _ = true then _ else _)); go_simp; have PC := dPick (w := u1) (w4.heap.size + 1) 2 [0, 65536] HS.here (by omega) HL2.bx rfl rfl (by omega) (by omega) (by have := Dg.out; have := HS.lt; omega); with_reducible refine PC.mono ?_; clear PC; rintro e u2 ⟨v2, rfl, hv, hs⟩; have ho := hs.fr; replace HX1 := HX1.only ho DHX1.out; replace HX2 := HX2.only ho DHX2.out; replace HR := HR.only ho DHR.out; replace HO := HO.only ho DHO.out; replace HS := HS.next hs; have c_u2 := HX2.look 6; have l_u2 := HX2.bx.lt; have Z_u2 := Lib.hid (ho.size); clear ho hs hv)
                  | ((show (if Region.wanted (Oper.mk (some 52) _ _ _ _ _) _ = true then _ else _)); have SL : Hid (Below u2.heap.size u2 (u2.alloc (.cells #[.int .i64 v1, .int .i64 0, .int .i64 0, .int .i64 v2] 101))) := Lib.hid (Below.alloc (Below.refl u2.heap.size u2) (Nat.le_refl _) _); (refine step_appF lcell_len lcell_one Try.underlying26 linkInfo rfl (by decide) (by decide) (by rfl) (.tmp 43) (.tmp 51) (by rfl) (B := w4.heap.size) (by rfl) (HO.below SL.out).ownF (by rfl) (by omega) (InF.of_box (m := 1) (Box.made u2 101 _) [⟨v1, 0, 0, v2⟩] rfl rfl) (by omega) (Nat.le_trans DLH.out (HO.below SL.out).le) ?_); intro A' c' x ho hg; have hq : Only 0 0 (u2.alloc (.cells #[.int .i64 v1, .int .i64 0, .int .i64 0, .int .i64 v2] 101)) x := Only.of_grown hg (fun r hr => by cases hr); replace HX1 := (HX1.below SL.out).only hq (.inr (Nat.zero_le _)); replace HX2 := (HX2.below SL.out).only hq (.inr (Nat.zero_le _)); replace HR := (HR.below SL.out).only hq (.inr (Nat.zero_le _)); replace HS := (HS.below SL.out).below (by have := hg; exact Below.of_only0 hq); obtain ⟨r, hr, hr1, hr2⟩ := ho.at_ (by omega); replace HO := hr; have Zr1 := Lib.hid (hr2 _ _ _ HX1.bx (by decide)); have Zr2 := Lib.hid (hr2 _ _ _ HX2.bx (by decide)); have Zr3 := Lib.hid hr1; have Zx := Lib.hid (Nat.le_trans (Below.size SL.out) hq.size); have c_x := HX2.look 6; have f_x := HX2.free 6; have l_x := HX2.bx.lt; clear hq hg ho hr hr1 hr2))
        all_goals
          have Y5 := Lib.hid (And.intro Y4.out Zx.out); clear Y4 Zx
          have Y6 := Lib.hid (And.intro Y5.out Zr1.out); clear Y5 Zr1
          have Y7 := Lib.hid (And.intro Y6.out Zr2.out); clear Y6 Zr2
          have Y8 := Lib.hid (And.intro Y7.out Zr3.out); clear Y7 Zr3
          have Y9 := Lib.hid (And.intro Y8.out Z_u1.out); clear Y8 Z_u1
          have Y10 := Lib.hid (And.intro Y9.out Z_u2.out); clear Y9 Z_u2
          clear c_x f_x l_x
          have l4_0 := HX1.bx.lt
          have l4_1 := HX2.bx.lt
          go_wp2_with fail
          clear l4_0 l4_1
          obtain ⟨U5, hU5⟩ : ∃ W : World, W = (x.setCell ⟨w2.heap.size, 6, none⟩ (.slice A' 1 c')) := ⟨_, rfl⟩
          have ho : Only w2.heap.size (w2.heap.size + 1) x U5 := by rw [hU5]; exact ((Only.refl _ _ _).set (p := ⟨w2.heap.size, 6, none⟩) (Nat.le_refl _) (Nat.lt_succ_self _) _)
          replace HX2 : Kept w2.heap.size (w2.heap.size + 1) (BoxK w2.heap.size 29 #[.int .i64 l.age, .int .i64 l.options, .int .i64 l.typ, .int .i64 l.id, .int .i64 l.adv, .int .i64 l.seq, .slice A' 1 c', .slice B m d, .int .i64 l.mask, .int .i64 l.cost]) U5 := by rw [hU5]; exact Kept.box (HX2.bx.puts 6 (.slice A' 1 c') (cs' := #[.int .i64 l.age, .int .i64 l.options, .int .i64 l.typ, .int .i64 l.id, .int .i64 l.adv, .int .i64 l.seq, .slice A' 1 c', .slice B m d, .int .i64 l.mask, .int .i64 l.cost]) rfl)
          replace HS := HS.only ho (by have := Y10.out; omega)
          replace HX1 := HX1.only ho (by have := Y10.out; omega)
          replace HR := HR.only ho (by have := Y10.out; omega)
          replace HO := HO.only ho (by have := Y10.out; omega)
          have Z5 : Hid (U5.heap.size = x.heap.size) := Lib.hid (by rw [hU5]; simp [World.setCell]); clear ho
          have Y11 := Lib.hid (And.intro Y10.out Z5.out); clear Y10 Z5
          subst hU5
          go_meet
          exact ⟨⟨l.age, l.options, l.typ, l.id, l.adv, l.seq, ([] ++ [⟨v1, 0, 0, v2⟩]), l.routers, l.mask, l.cost⟩, _, _, _, _, A', B, 1, c', m, d, _, HS, HX1, HX2, HO.links, HR.ints, by omega, by omega, by omega, Lib.hid (by have := Y11.out; omega)⟩
    · rcases hone with ⟨rfl, rfl, rfl, hr0⟩ | ⟨rfl, rfl, rfl, hl0⟩
      · have l3_0 := HX1.bx.lt
        have l3_1 := HX2.bx.lt
        go_wp2_with fail
        clear l3_0 l3_1
        have HO := OwnFK.nil_ (lo := w4.heap.size) (hi := w4.heap.size) 2 1 icell w4 (Nat.le_refl _)
        have HR := HO1
        clear HL HO1 HO2
        have DHX1 : Hid (w.heap.size + 1 ≤ g ∨ g + 1 ≤ w.heap.size) := Lib.hid (by have := Y4.out; omega)
        have DHX2 : Hid (w2.heap.size + 1 ≤ g ∨ g + 1 ≤ w2.heap.size) := Lib.hid (by have := Y4.out; omega)
        have DHR : Hid (w2.heap.size ≤ g ∨ g + 1 ≤ U1.heap.size) := Lib.hid (by have := Y4.out; omega)
        have DHO : Hid (w4.heap.size ≤ g ∨ g + 1 ≤ w4.heap.size) := Lib.hid (by have := Y4.out; omega)
        have DO3 : Hid (w2.heap.size + 1 ≤ w4.heap.size ∨ w4.heap.size ≤ w2.heap.size) := Lib.hid (by have := Y4.out; omega)
        have DO1 : Hid (w.heap.size + 1 ≤ w4.heap.size ∨ w4.heap.size ≤ w.heap.size) := Lib.hid (by have := Y4.out; omega)
        have DOR : Hid (w2.heap.size ≤ w4.heap.size ∨ w4.heap.size ≤ U1.heap.size) := Lib.hid (by have := Y4.out; omega)
        have DOS : Hid (w.heap.size ≤ w4.heap.size) := Lib.hid (by have := Y4.out; omega)
        have DLH : Hid (w4.heap.size ≤ w4.heap.size) := Lib.hid (by have := Y4.out; omega)
        have Dg : Hid (¬ w4.heap.size = g ∧ ¬ w4.heap.size + 1 = g ∧ g < w4.heap.size) := Lib.hid (by have := HS.lt; omega)
        have cq0 := HX2.look 7
        have lq0 := HX2.bx.lt
        have VA : Hid (Below w4.heap.size w4 ((w4.alloc (.cells #[.int .i64 9, .int .i64 1, .int .i64 (-1)] 2))).drew) := Lib.hid ((Below.alloc (Below.refl w4.heap.size w4) (by first | exact Nat.le_refl _ | (simp; try omega)) _)).drew
        go_region_law (first
                  | ((show (if Region.wanted (Oper.mk (some 60) _ _ _ _ _) _ = true then _ else _)); go_simp; have PC := dPick (w := ((w4.alloc (.cells #[.int .i64 9, .int .i64 1, .int .i64 (-1)] 2))).drew) w4.heap.size 3 [9, 1, -1] (HS.below VA.out).here (by omega) (Box.drew (Box.made_at _ _ _ rfl)) rfl rfl (by omega) (by omega) (by have := Dg.out; have := HS.lt; omega); with_reducible refine PC.mono ?_; clear PC; rintro e u1 ⟨v1, rfl, hv, hs⟩; have ho := hs.fr; replace HX1 := (HX1.below VA.out).only ho DHX1.out; replace HX2 := (HX2.below VA.out).only ho DHX2.out; replace HR := (HR.below VA.out).only ho DHR.out; replace HO := (HO.below VA.out).only ho DHO.out; replace HS := (HS.below VA.out).next hs; have c_u1 := HX2.look 7; have l_u1 := HX2.bx.lt; have Z_u1 := Lib.hid (Nat.le_trans (Below.size VA.out) ho.size); clear ho hs hv)
                  | ((show (if Region.wanted (Oper.mk (some 62) _ _ _ _ _) _ = true then _ else _)); have SL : Hid (Below u1.heap.size u1 (u1.alloc (.cells #[.int .i64 v1] 2))) := Lib.hid (Below.alloc (Below.refl u1.heap.size u1) (Nat.le_refl _) _); (refine step_appF icell_len icell_one Try.underlying27 intInfo rfl (by decide) (by decide) (by rfl) (.tmp 57) (.tmp 61) (by rfl) (B := w4.heap.size) (by rfl) (HO.below SL.out).ownF (by rfl) (by omega) (InF.of_box (m := 1) (Box.made u1 2 _) [v1] rfl rfl) (by omega) (Nat.le_trans DLH.out (HO.below SL.out).le) ?_); intro A' c' x ho hg; have hq : Only 0 0 (u1.alloc (.cells #[.int .i64 v1] 2)) x := Only.of_grown hg (fun r hr => by cases hr); replace HX1 := (HX1.below SL.out).only hq (.inr (Nat.zero_le _)); replace HX2 := (HX2.below SL.out).only hq (.inr (Nat.zero_le _)); replace HR := (HR.below SL.out).only hq (.inr (Nat.zero_le _)); replace HS := (HS.below SL.out).below (by have := hg; exact Below.of_only0 hq); obtain ⟨r, hr, hr1, hr2⟩ := ho.at_ (by omega); replace HO := hr; have Zr1 := Lib.hid (hr2 _ _ _ HX1.bx (by decide)); have Zr2 := Lib.hid (hr2 _ _ _ HX2.bx (by decide)); have Zr3 := Lib.hid hr1; have Zx := Lib.hid (Nat.le_trans (Below.size SL.out) hq.size); have c_x := HX2.look 7; have f_x := HX2.free 7; have l_x := HX2.bx.lt; clear hq hg ho hr hr1 hr2))
        all_goals
          have Y5 := Lib.hid (And.intro Y4.out Zx.out); clear Y4 Zx
          have Y6 := Lib.hid (And.intro Y5.out Zr1.out); clear Y5 Zr1
          have Y7 := Lib.hid (And.intro Y6.out Zr2.out); clear Y6 Zr2
          have Y8 := Lib.hid (And.intro Y7.out Zr3.out); clear Y7 Zr3
          have Y9 := Lib.hid (And.intro Y8.out Z_u1.out); clear Y8 Z_u1
          clear c_x f_x l_x
          have l4_0 := HX1.bx.lt
          have l4_1 := HX2.bx.lt
          go_wp2_with fail
          clear l4_0 l4_1
          obtain ⟨U5, hU5⟩ : ∃ W : World, W = (x.setCell ⟨w2.heap.size, 7, none⟩ (.slice A' 1 c')) := ⟨_, rfl⟩
          have ho : Only w2.heap.size (w2.heap.size + 1) x U5 := by rw [hU5]; exact ((Only.refl _ _ _).set (p := ⟨w2.heap.size, 7, none⟩) (Nat.le_refl _) (Nat.lt_succ_self _) _)
          replace HX2 : Kept w2.heap.size (w2.heap.size + 1) (BoxK w2.heap.size 29 #[.int .i64 l.age, .int .i64 l.options, .int .i64 l.typ, .int .i64 l.id, .int .i64 l.adv, .int .i64 l.seq, .slice A n c, .slice A' 1 c', .int .i64 l.mask, .int .i64 l.cost]) U5 := by rw [hU5]; exact Kept.box (HX2.bx.puts 7 (.slice A' 1 c') (cs' := #[.int .i64 l.age, .int .i64 l.options, .int .i64 l.typ, .int .i64 l.id, .int .i64 l.adv, .int .i64 l.seq, .slice A n c, .slice A' 1 c', .int .i64 l.mask, .int .i64 l.cost]) rfl)
          replace HS := HS.only ho (by have := Y9.out; omega)
          replace HX1 := HX1.only ho (by have := Y9.out; omega)
          replace HR := HR.only ho (by have := Y9.out; omega)
          replace HO := HO.only ho (by have := Y9.out; omega)
          have Z5 : Hid (U5.heap.size = x.heap.size) := Lib.hid (by rw [hU5]; simp [World.setCell]); clear ho
          have Y10 := Lib.hid (And.intro Y9.out Z5.out); clear Y9 Z5
          subst hU5
          go_meet
          exact ⟨⟨l.age, l.options, l.typ, l.id, l.adv, l.seq, l.links, ([] ++ [v1]), l.mask, l.cost⟩, _, _, _, _, A, A', n, c, 1, c', _, HS, HX1, HX2, HR.links, HO.ints, by omega, by omega, by omega, Lib.hid (by have := Y10.out; omega)⟩
      · have l3_0 := HX1.bx.lt
        have l3_1 := HX2.bx.lt
        go_wp2_with fail
        clear l3_0 l3_1
        have HO := HO2
        have HR := OwnFK.nil_ (lo := w4.heap.size) (hi := w4.heap.size) 101 4 lcell w4 (Nat.le_refl _)
        clear HL HO1 HO2
        have DHX1 : Hid (w.heap.size + 1 ≤ g ∨ g + 1 ≤ w.heap.size) := Lib.hid (by have := Y4.out; omega)
        have DHX2 : Hid (w2.heap.size + 1 ≤ g ∨ g + 1 ≤ w2.heap.size) := Lib.hid (by have := Y4.out; omega)
        have DHR : Hid (w4.heap.size ≤ g ∨ g + 1 ≤ w4.heap.size) := Lib.hid (by have := Y4.out; omega)
        have DHO : Hid (w2.heap.size ≤ g ∨ g + 1 ≤ U1.heap.size) := Lib.hid (by have := Y4.out; omega)
        have DO3 : Hid (w2.heap.size + 1 ≤ U1.heap.size ∨ w2.heap.size ≤ w2.heap.size) := Lib.hid (by have := Y4.out; omega)
        have DO1 : Hid (w.heap.size + 1 ≤ U1.heap.size ∨ w2.heap.size ≤ w.heap.size) := Lib.hid (by have := Y4.out; omega)
        have DOR : Hid (w4.heap.size ≤ U1.heap.size ∨ w2.heap.size ≤ w4.heap.size) := Lib.hid (by have := Y4.out; omega)
        have DOS : Hid (w.heap.size ≤ U1.heap.size) := Lib.hid (by have := Y4.out; omega)
        have DLH : Hid (U1.heap.size ≤ w2.heap.size) := Lib.hid (by have := Y4.out; omega)
        have Dg : Hid (¬ w4.heap.size = g ∧ ¬ w4.heap.size + 1 = g ∧ g < w4.heap.size) := Lib.hid (by have := HS.lt; omega)
        have cq0 := HX2.look 7
        have lq0 := HX2.bx.lt
        have VA : Hid (Below w4.heap.size w4 ((w4.alloc (.cells #[.int .i64 9, .int .i64 1, .int .i64 (-1)] 2))).drew) := Lib.hid ((Below.alloc (Below.refl w4.heap.size w4) (by first | exact Nat.le_refl _ | (simp; try omega)) _)).drew
        go_region_law (first
                  | ((show (if Region.wanted (Oper.mk (some 60) _ _ _ _ _) _ = true then _ else _)); go_simp; have PC := dPick (w := ((w4.alloc (.cells #[.int .i64 9, .int .i64 1, .int .i64 (-1)] 2))).drew) w4.heap.size 3 [9, 1, -1] (HS.below VA.out).here (by omega) (Box.drew (Box.made_at _ _ _ rfl)) rfl rfl (by omega) (by omega) (by have := Dg.out; have := HS.lt; omega); with_reducible refine PC.mono ?_; clear PC; rintro e u1 ⟨v1, rfl, hv, hs⟩; have ho := hs.fr; replace HX1 := (HX1.below VA.out).only ho DHX1.out; replace HX2 := (HX2.below VA.out).only ho DHX2.out; replace HR := (HR.below VA.out).only ho DHR.out; replace HO := (HO.below VA.out).only ho DHO.out; replace HS := (HS.below VA.out).next hs; have c_u1 := HX2.look 7; have l_u1 := HX2.bx.lt; have Z_u1 := Lib.hid (Nat.le_trans (Below.size VA.out) ho.size); clear ho hs hv)
                  | ((show (if Region.wanted (Oper.mk (some 62) _ _ _ _ _) _ = true then _ else _)); have SL : Hid (Below u1.heap.size u1 (u1.alloc (.cells #[.int .i64 v1] 2))) := Lib.hid (Below.alloc (Below.refl u1.heap.size u1) (Nat.le_refl _) _); (refine step_appF icell_len icell_one Try.underlying27 intInfo rfl (by decide) (by decide) (by rfl) (.tmp 57) (.tmp 61) (by rfl) (B := U1.heap.size) (by rfl) (HO.below SL.out).ownF (by rfl) (by omega) (InF.of_box (m := 1) (Box.made u1 2 _) [v1] rfl rfl) (by omega) (Nat.le_trans DLH.out (HO.below SL.out).le) ?_); intro A' c' x ho hg; have hq : Only (U1.heap.size) (w2.heap.size) (u1.alloc (.cells #[.int .i64 v1] 2)) x := Only.of_grown hg (fun r hr => (by have := HO.ownF.block r hr; have := HO.lim r hr; omega)); replace HX1 := (HX1.below SL.out).only hq DO1.out; replace HX2 := (HX2.below SL.out).only hq DO3.out; replace HR := (HR.below SL.out).only hq DOR.out; replace HS := (HS.below SL.out).only hq DOS.out; obtain ⟨r, hr, hr1, hr2⟩ := ho.at_ (by omega); replace HO := hr; have Zr1 := Lib.hid (hr2 _ _ _ HX1.bx (by decide)); have Zr2 := Lib.hid (hr2 _ _ _ HX2.bx (by decide)); have Zr3 := Lib.hid hr1; have Zx := Lib.hid (Nat.le_trans (Below.size SL.out) hq.size); have c_x := HX2.look 7; have f_x := HX2.free 7; have l_x := HX2.bx.lt; clear hq hg ho hr hr1 hr2))
        all_goals
          have Y5 := Lib.hid (And.intro Y4.out Zx.out); clear Y4 Zx
          have Y6 := Lib.hid (And.intro Y5.out Zr1.out); clear Y5 Zr1
          have Y7 := Lib.hid (And.intro Y6.out Zr2.out); clear Y6 Zr2
          have Y8 := Lib.hid (And.intro Y7.out Zr3.out); clear Y7 Zr3
          have Y9 := Lib.hid (And.intro Y8.out Z_u1.out); clear Y8 Z_u1
          clear c_x f_x l_x
          have l4_0 := HX1.bx.lt
          have l4_1 := HX2.bx.lt
          go_wp2_with fail
          clear l4_0 l4_1
          obtain ⟨U5, hU5⟩ : ∃ W : World, W = (x.setCell ⟨w2.heap.size, 7, none⟩ (.slice A' (m + 1) c')) := ⟨_, rfl⟩
          have ho : Only w2.heap.size (w2.heap.size + 1) x U5 := by rw [hU5]; exact ((Only.refl _ _ _).set (p := ⟨w2.heap.size, 7, none⟩) (Nat.le_refl _) (Nat.lt_succ_self _) _)
          replace HX2 : Kept w2.heap.size (w2.heap.size + 1) (BoxK w2.heap.size 29 #[.int .i64 l.age, .int .i64 l.options, .int .i64 l.typ, .int .i64 l.id, .int .i64 l.adv, .int .i64 l.seq, .slice none 0 0, .slice A' (m + 1) c', .int .i64 l.mask, .int .i64 l.cost]) U5 := by rw [hU5]; exact Kept.box (HX2.bx.puts 7 (.slice A' (m + 1) c') (cs' := #[.int .i64 l.age, .int .i64 l.options, .int .i64 l.typ, .int .i64 l.id, .int .i64 l.adv, .int .i64 l.seq, .slice none 0 0, .slice A' (m + 1) c', .int .i64 l.mask, .int .i64 l.cost]) rfl)
          replace HS := HS.only ho (by have := Y9.out; omega)
          replace HX1 := HX1.only ho (by have := Y9.out; omega)
          replace HR := HR.only ho (by have := Y9.out; omega)
          replace HO := HO.only ho (by have := Y9.out; omega)
          have Z5 : Hid (U5.heap.size = x.heap.size) := Lib.hid (by rw [hU5]; simp [World.setCell]); clear ho
          have Y10 := Lib.hid (And.intro Y9.out Z5.out); clear Y9 Z5
          subst hU5
          go_meet
          exact ⟨⟨l.age, l.options, l.typ, l.id, l.adv, l.seq, [], (l.routers ++ [v1]), l.mask, l.cost⟩, _, _, _, _, none, A', 0, 0, m + 1, c', _, HS, HX1, HX2, HR.links, HO.ints, by omega, by omega, by omega, Lib.hid (by have := Y10.out; omega)⟩
    · have HN := Rep.Sl.kept (Rep.Sl_nil Rep.int true w4.heap.size w4.heap.size w4 none) (Nat.le_refl _)
      have c3_0 := HX2.look 7
      have f3_0 := HX2.free 7
      have l3_0 := HX1.bx.lt
      have l3_1 := HX2.bx.lt
      go_wp2_with fail
      clear c3_0 f3_0 l3_0 l3_1
      obtain ⟨U5, hU5⟩ : ∃ W : World, W = (w4.setCell ⟨w2.heap.size, 7, none⟩ (.slice none 0 0)) := ⟨_, rfl⟩
      have ho : Only w2.heap.size (w2.heap.size + 1) w4 U5 := by rw [hU5]; exact ((Only.refl _ _ _).set (p := ⟨w2.heap.size, 7, none⟩) (Nat.le_refl _) (Nat.lt_succ_self _) _)
      replace HX2 : Kept w2.heap.size (w2.heap.size + 1) (BoxK w2.heap.size 29 #[.int .i64 l.age, .int .i64 l.options, .int .i64 l.typ, .int .i64 l.id, .int .i64 l.adv, .int .i64 l.seq, .slice A n c, .slice none 0 0, .int .i64 l.mask, .int .i64 l.cost]) U5 := by rw [hU5]; exact Kept.box (HX2.bx.puts 7 (.slice none 0 0) (cs' := #[.int .i64 l.age, .int .i64 l.options, .int .i64 l.typ, .int .i64 l.id, .int .i64 l.adv, .int .i64 l.seq, .slice A n c, .slice none 0 0, .int .i64 l.mask, .int .i64 l.cost]) rfl)
      replace HS := HS.only ho (by have := Y4.out; omega)
      replace HX1 := HX1.only ho (by have := Y4.out; omega)
      replace HL := HL.only ho (by have := Y4.out; omega)
      replace HO1 := HO1.only ho (by have := Y4.out; omega)
      replace HO2 := HO2.only ho (by have := Y4.out; omega)
      replace HN := HN.only ho (by have := Y4.out; omega)
      have Z5 : Hid (U5.heap.size = w4.heap.size) := Lib.hid (by rw [hU5]; simp [World.setCell]); clear ho
      have Y5 := Lib.hid (And.intro Y4.out Z5.out); clear Y4 Z5
      subst hU5
      go_meet
      exact ⟨⟨l.age, l.options, l.typ, l.id, l.adv, l.seq, l.links, [], l.mask, l.cost⟩, _, _, _, _, A, none, n, c, 0, 0, _, HS, HX1, HX2, HL.imp (fun _ h => LsaIn.links (l := l) h), HN, by omega, by omega, by omega, Lib.hid (by have := Y5.out; omega)⟩
    · have l3_0 := HX1.bx.lt
      have l3_1 := HX2.bx.lt
      go_wp2_with fail
      clear l3_0 l3_1
      refine Calls.name ?_
      intro U5 hU5
      have hb : Below w4.heap.size w4 U5 := by rw [hU5]; exact ((Below.refl _ _).alloc (Nat.le_refl _) _)
      have zz : Hid (w4.heap.size + 1 = U5.heap.size) := Lib.hid (by rw [hU5]; simp)
      have HX3 : Kept w4.heap.size (w4.heap.size + 1) (BoxK w4.heap.size 2 #[.int .i64 5, .int .i64 (-1), .int .i64 16777216]) U5 := by rw [hU5]; exact Kept.box (Box.made_at _ _ _ rfl)
      replace HS := HS.below hb
      replace HX1 := HX1.below hb
      replace HL := HL.below hb
      replace HO1 := HO1.below hb
      replace HO2 := HO2.below hb
      replace HX2 := HX2.below hb
      clear hb
      have Z5 := zz; clear zz
      have Y5 := Lib.hid (And.intro Y4.out Z5.out); clear Y4 Z5
      clear hU5
      refine (dPick w4.heap.size 3 [5, -1, 16777216] HS.here (by omega) HX3.bx rfl rfl (by omega) (by omega) (by have := Y5.out; omega)).mono ?_
      rintro e w6 ⟨vp, rfl, hv, hs⟩
      have ho := hs.fr
      have Z6 := Lib.hid ho.size
      have Y6 := Lib.hid (And.intro Y5.out Z6.out); clear Y5 Z6
      clear HX3
      replace HX1 := HX1.only ho (by have := Y6.out; omega)
      replace HL := HL.only ho (by have := Y6.out; omega)
      replace HO1 := HO1.only ho (by have := Y6.out; omega)
      replace HO2 := HO2.only ho (by have := Y6.out; omega)
      replace HX2 := HX2.only ho (by have := Y6.out; omega)
      replace HS := HS.next hs; clear ho hs
      clear hv
      have c4_0 := HX2.look 9
      have f4_0 := HX2.free 9
      have l4_0 := HX1.bx.lt
      have l4_1 := HX2.bx.lt
      go_wp2_with fail
      clear c4_0 f4_0 l4_0 l4_1
      obtain ⟨U7, hU7⟩ : ∃ W : World, W = (w6.setCell ⟨w2.heap.size, 9, none⟩ (.int .i64 vp)) := ⟨_, rfl⟩
      have ho : Only w2.heap.size (w2.heap.size + 1) w6 U7 := by rw [hU7]; exact ((Only.refl _ _ _).set (p := ⟨w2.heap.size, 9, none⟩) (Nat.le_refl _) (Nat.lt_succ_self _) _)
      replace HX2 : Kept w2.heap.size (w2.heap.size + 1) (BoxK w2.heap.size 29 #[.int .i64 l.age, .int .i64 l.options, .int .i64 l.typ, .int .i64 l.id, .int .i64 l.adv, .int .i64 l.seq, .slice A n c, .slice B m d, .int .i64 l.mask, .int .i64 vp]) U7 := by rw [hU7]; exact Kept.box (HX2.bx.puts 9 (.int .i64 vp) (cs' := #[.int .i64 l.age, .int .i64 l.options, .int .i64 l.typ, .int .i64 l.id, .int .i64 l.adv, .int .i64 l.seq, .slice A n c, .slice B m d, .int .i64 l.mask, .int .i64 vp]) rfl)
      replace HS := HS.only ho (by have := Y6.out; omega)
      replace HX1 := HX1.only ho (by have := Y6.out; omega)
      replace HL := HL.only ho (by have := Y6.out; omega)
      replace HO1 := HO1.only ho (by have := Y6.out; omega)
      replace HO2 := HO2.only ho (by have := Y6.out; omega)
      have Z7 : Hid (U7.heap.size = w6.heap.size) := Lib.hid (by rw [hU7]; simp [World.setCell]); clear ho
      have Y7 := Lib.hid (And.intro Y6.out Z7.out); clear Y6 Z7
      subst hU7
      go_meet
      exact ⟨⟨l.age, l.options, l.typ, l.id, l.adv, l.seq, l.links, l.routers, l.mask, vp⟩, _, _, _, _, A, B, n, c, m, d, _, HS, HX1, HX2, HL.imp (fun _ h => LsaIn.links (l := l) h), HL.imp (fun _ h => LsaIn.routers (l := l) h), by omega, by omega, by omega, Lib.hid (by have := Y7.out; omega)⟩
    · have l3_0 := HX1.bx.lt
      have l3_1 := HX2.bx.lt
      go_wp2_with fail
      clear l3_0 l3_1
      refine Calls.name ?_
      intro U5 hU5
      have hb : Below w4.heap.size w4 U5 := by rw [hU5]; exact ((Below.refl _ _).alloc (Nat.le_refl _) _)
      have zz : Hid (w4.heap.size + 1 = U5.heap.size) := Lib.hid (by rw [hU5]; simp)
      have HX3 : Kept w4.heap.size (w4.heap.size + 1) (BoxK w4.heap.size 2 #[.int .i64 8, .int .i64 9]) U5 := by rw [hU5]; exact Kept.box (Box.made_at _ _ _ rfl)
      replace HS := HS.below hb
      replace HX1 := HX1.below hb
      replace HL := HL.below hb
      replace HO1 := HO1.below hb
      replace HO2 := HO2.below hb
      replace HX2 := HX2.below hb
      clear hb
      have Z5 := zz; clear zz
      have Y5 := Lib.hid (And.intro Y4.out Z5.out); clear Y4 Z5
      clear hU5
      refine (dPick w4.heap.size 2 [8, 9] HS.here (by omega) HX3.bx rfl rfl (by omega) (by omega) (by have := Y5.out; omega)).mono ?_
      rintro e w6 ⟨vp, rfl, hv, hs⟩
      have ho := hs.fr
      have Z6 := Lib.hid ho.size
      have Y6 := Lib.hid (And.intro Y5.out Z6.out); clear Y5 Z6
      clear HX3
      replace HX1 := HX1.only ho (by have := Y6.out; omega)
      replace HL := HL.only ho (by have := Y6.out; omega)
      replace HO1 := HO1.only ho (by have := Y6.out; omega)
      replace HO2 := HO2.only ho (by have := Y6.out; omega)
      replace HX2 := HX2.only ho (by have := Y6.out; omega)
      replace HS := HS.next hs; clear ho hs
      have hv2 : vp = 8 ∨ vp = 9 := by simpa using hv
      clear hv
      rcases hv2 with rfl | rfl
      · obtain ⟨i0, hi0, hz0, hz1, hz2⟩ := info_parts linkInfo
        have l4_0 := HX1.bx.lt
        have l4_1 := HX2.bx.lt
        go_wp2_with (first | (at_make; refine wpList_make_full _ rfl _ _ 26 rfl w6.heap.size 101 i0 _ 4 Try.underlying26 hi0 hz0 hz1 .i64 .i64 _ _ 8 rfl rfl rfl rfl (by rw [hz2]; omega) (by unfold maxLen; omega) (Nat.le_refl _) ?_; intro w7 hown1 hg1; have hb := below_of_grown hg1; have Z7 := Lib.hid hb.size; have Y7 := Lib.hid (And.intro Y6.out Z7.out); clear Y6 Z7; replace HS := HS.below hb; replace HX1 := HX1.below hb; replace HL := HL.below hb; replace HO1 := HO1.below hb; replace HO2 := HO2.below hb; replace HX2 := HX2.below hb; clear hb hg1; have ho : OwnF 101 4 lcell w7 w6.heap.size (some ⟨w6.heap.size, 0, none⟩) 8 8 (List.replicate 8 (⟨0, 0, 0, 0⟩ : Lnk)) := ⟨rfl, by rw [show (List.replicate 8 (⟨0, 0, 0, 0⟩ : Lnk) : List _).flatMap lcell = (madeCells (Value.agg #[.int .i64 0, .int .i64 0, .int .i64 0, .int .i64 0]).cells (8 * 4)).toList by kernel_rfl]; exact hown1⟩; have HO := ho.kept rfl; clear ho hown1; have c5_0 := HX2.look 6; have f5_0 := HX2.free 6; have l5_0 := HX1.bx.lt; have l5_1 := HX2.bx.lt))
        clear l4_0 l4_1 c5_0 f5_0 l5_0 l5_1
        obtain ⟨U8, hU8⟩ : ∃ W : World, W = (w7.setCell ⟨w2.heap.size, 6, none⟩ (.slice (some ⟨w6.heap.size, 0, none⟩) 8 8)) := ⟨_, rfl⟩
        have ho : Only w2.heap.size (w2.heap.size + 1) w7 U8 := by rw [hU8]; exact ((Only.refl _ _ _).set (p := ⟨w2.heap.size, 6, none⟩) (Nat.le_refl _) (Nat.lt_succ_self _) _)
        replace HX2 : Kept w2.heap.size (w2.heap.size + 1) (BoxK w2.heap.size 29 #[.int .i64 l.age, .int .i64 l.options, .int .i64 l.typ, .int .i64 l.id, .int .i64 l.adv, .int .i64 l.seq, .slice (some ⟨w6.heap.size, 0, none⟩) 8 8, .slice B m d, .int .i64 l.mask, .int .i64 l.cost]) U8 := by rw [hU8]; exact Kept.box (HX2.bx.puts 6 (.slice (some ⟨w6.heap.size, 0, none⟩) 8 8) (cs' := #[.int .i64 l.age, .int .i64 l.options, .int .i64 l.typ, .int .i64 l.id, .int .i64 l.adv, .int .i64 l.seq, .slice (some ⟨w6.heap.size, 0, none⟩) 8 8, .slice B m d, .int .i64 l.mask, .int .i64 l.cost]) rfl)
        replace HS := HS.only ho (by have := Y7.out; omega)
        replace HX1 := HX1.only ho (by have := Y7.out; omega)
        replace HL := HL.only ho (by have := Y7.out; omega)
        replace HO1 := HO1.only ho (by have := Y7.out; omega)
        replace HO2 := HO2.only ho (by have := Y7.out; omega)
        replace HO := HO.only ho (by have := Y7.out; omega)
        have Z8 : Hid (U8.heap.size = w7.heap.size) := Lib.hid (by rw [hU8]; simp [World.setCell]); clear ho
        have Y8 := Lib.hid (And.intro Y7.out Z8.out); clear Y7 Z8
        subst hU8
        go_meet
        exact ⟨⟨l.age, l.options, l.typ, l.id, l.adv, l.seq, List.replicate 8 (⟨0, 0, 0, 0⟩ : Lnk), l.routers, l.mask, l.cost⟩, _, _, _, _, some ⟨w6.heap.size, 0, none⟩, B, 8, 8, m, d, _, HS, HX1, HX2, HO.links, HL.imp (fun _ h => LsaIn.routers (l := l) h), by omega, by omega, by omega, Lib.hid (by have := Y8.out; omega)⟩
      · obtain ⟨i0, hi0, hz0, hz1, hz2⟩ := info_parts linkInfo
        have l4_0 := HX1.bx.lt
        have l4_1 := HX2.bx.lt
        go_wp2_with (first | (at_make; refine wpList_make_full _ rfl _ _ 26 rfl w6.heap.size 101 i0 _ 4 Try.underlying26 hi0 hz0 hz1 .i64 .i64 _ _ 9 rfl rfl rfl rfl (by rw [hz2]; omega) (by unfold maxLen; omega) (Nat.le_refl _) ?_; intro w7 hown1 hg1; have hb := below_of_grown hg1; have Z7 := Lib.hid hb.size; have Y7 := Lib.hid (And.intro Y6.out Z7.out); clear Y6 Z7; replace HS := HS.below hb; replace HX1 := HX1.below hb; replace HL := HL.below hb; replace HO1 := HO1.below hb; replace HO2 := HO2.below hb; replace HX2 := HX2.below hb; clear hb hg1; have ho : OwnF 101 4 lcell w7 w6.heap.size (some ⟨w6.heap.size, 0, none⟩) 9 9 (List.replicate 9 (⟨0, 0, 0, 0⟩ : Lnk)) := ⟨rfl, by rw [show (List.replicate 9 (⟨0, 0, 0, 0⟩ : Lnk) : List _).flatMap lcell = (madeCells (Value.agg #[.int .i64 0, .int .i64 0, .int .i64 0, .int .i64 0]).cells (9 * 4)).toList by kernel_rfl]; exact hown1⟩; have HO := ho.kept rfl; clear ho hown1; have c5_0 := HX2.look 6; have f5_0 := HX2.free 6; have l5_0 := HX1.bx.lt; have l5_1 := HX2.bx.lt))
        clear l4_0 l4_1 c5_0 f5_0 l5_0 l5_1
        obtain ⟨U8, hU8⟩ : ∃ W : World, W = (w7.setCell ⟨w2.heap.size, 6, none⟩ (.slice (some ⟨w6.heap.size, 0, none⟩) 9 9)) := ⟨_, rfl⟩
        have ho : Only w2.heap.size (w2.heap.size + 1) w7 U8 := by rw [hU8]; exact ((Only.refl _ _ _).set (p := ⟨w2.heap.size, 6, none⟩) (Nat.le_refl _) (Nat.lt_succ_self _) _)
        replace HX2 : Kept w2.heap.size (w2.heap.size + 1) (BoxK w2.heap.size 29 #[.int .i64 l.age, .int .i64 l.options, .int .i64 l.typ, .int .i64 l.id, .int .i64 l.adv, .int .i64 l.seq, .slice (some ⟨w6.heap.size, 0, none⟩) 9 9, .slice B m d, .int .i64 l.mask, .int .i64 l.cost]) U8 := by rw [hU8]; exact Kept.box (HX2.bx.puts 6 (.slice (some ⟨w6.heap.size, 0, none⟩) 9 9) (cs' := #[.int .i64 l.age, .int .i64 l.options, .int .i64 l.typ, .int .i64 l.id, .int .i64 l.adv, .int .i64 l.seq, .slice (some ⟨w6.heap.size, 0, none⟩) 9 9, .slice B m d, .int .i64 l.mask, .int .i64 l.cost]) rfl)
        replace HS := HS.only ho (by have := Y7.out; omega)
        replace HX1 := HX1.only ho (by have := Y7.out; omega)
        replace HL := HL.only ho (by have := Y7.out; omega)
        replace HO1 := HO1.only ho (by have := Y7.out; omega)
        replace HO2 := HO2.only ho (by have := Y7.out; omega)
        replace HO := HO.only ho (by have := Y7.out; omega)
        have Z8 : Hid (U8.heap.size = w7.heap.size) := Lib.hid (by rw [hU8]; simp [World.setCell]); clear ho
        have Y8 := Lib.hid (And.intro Y7.out Z8.out); clear Y7 Z8
        subst hU8
        go_meet
        exact ⟨⟨l.age, l.options, l.typ, l.id, l.adv, l.seq, List.replicate 9 (⟨0, 0, 0, 0⟩ : Lnk), l.routers, l.mask, l.cost⟩, _, _, _, _, some ⟨w6.heap.size, 0, none⟩, B, 9, 9, m, d, _, HS, HX1, HX2, HO.links, HL.imp (fun _ h => LsaIn.routers (l := l) h), by omega, by omega, by omega, Lib.hid (by have := Y8.out; omega)⟩
    · have e0 : (v == 0) = false := by rw [beq_eq_false_iff_ne]; omega
      have e1 : (v == 1) = false := by rw [beq_eq_false_iff_ne]; omega
      have e2 : (v == 2) = false := by rw [beq_eq_false_iff_ne]; omega
      have e3 : (v == 3) = false := by rw [beq_eq_false_iff_ne]; omega
      have e4 : (v == 4) = false := by rw [beq_eq_false_iff_ne]; omega
      have e5 : (v == 5) = false := by rw [beq_eq_false_iff_ne]; omega
      have e6 : (v == 6) = false := by rw [beq_eq_false_iff_ne]; omega
      have e7 : (v == 7) = false := by rw [beq_eq_false_iff_ne]; omega
      have e8 : (v == 8) = false := by rw [beq_eq_false_iff_ne]; omega
      have e9 : (v == 9) = false := by rw [beq_eq_false_iff_ne]; omega
      have l3_0 := HX1.bx.lt
      have l3_1 := HX2.bx.lt
      go_wp2_with fail
      clear l3_0 l3_1
      go_meet
      exact ⟨⟨l.age, l.options, l.typ, l.id, l.adv, l.seq, l.links, l.routers, l.mask, l.cost⟩, _, _, _, _, A, B, n, c, m, d, _, HS, HX1, HX2, HL.imp (fun _ h => LsaIn.links (l := l) h), HL.imp (fun _ h => LsaIn.routers (l := l) h), by omega, by omega, by omega, Lib.hid (by have := Y4.out; omega)⟩
  obtain ⟨k, lo2, hi2, lo3, hi3, A2, B2, n2, c2, m2, d2, K2, HS, HX1, HX2, HA, HR, hn2, hm2, hK2, HZ⟩ := hcut
  obtain ⟨wx1, rfl⟩ : ∃ W : World, W = wc := ⟨_, rfl⟩
  have Y5 := Lib.hid (And.intro Y4.out HZ.out); clear Y4 HZ
  have Zk := Lib.hid HA.le
  have Y6 := Lib.hid (And.intro Y5.out Zk.out); clear Y5 Zk
  have Zj := Lib.hid HR.le
  have Y7 := Lib.hid (And.intro Y6.out Zj.out); clear Y6 Zj
  have c3_0 := HX1.look 0
  have c3_1 := HX1.look 1
  have c3_2 := HX1.look 2
  have c3_3 := HX1.look 3
  have c3_4 := HX1.look 4
  have c3_5 := HX1.look 5
  have c3_6 := HX1.look 6
  have c3_7 := HX1.look 7
  have c3_8 := HX1.look 8
  have c3_9 := HX1.look 9
  have c3_10 := HX2.look 0
  have c3_11 := HX2.look 1
  have c3_12 := HX2.look 2
  have c3_13 := HX2.look 3
  have c3_14 := HX2.look 4
  have c3_15 := HX2.look 5
  have c3_16 := HX2.look 6
  have c3_17 := HX2.look 7
  have c3_18 := HX2.look 8
  have c3_19 := HX2.look 9
  have f3_0 := HX1.free 0
  have f3_1 := HX1.free 1
  have f3_2 := HX1.free 2
  have f3_3 := HX1.free 3
  have f3_4 := HX1.free 4
  have f3_5 := HX1.free 5
  have f3_6 := HX1.free 6
  have f3_7 := HX1.free 7
  have f3_8 := HX1.free 8
  have f3_9 := HX1.free 9
  have l3_0 := HX1.bx.lt
  have l3_1 := HX2.bx.lt
  have n3_0_1 : ¬ w.heap.size = w2.heap.size := (by have := Y7.out; omega)
  have m3_0_1 : ¬ w2.heap.size = w.heap.size := (by have := Y7.out; omega)
  go_wp2
  clear c3_0 c3_1 c3_2 c3_3 c3_4 c3_5 c3_6 c3_7 c3_8 c3_9 c3_10 c3_11 c3_12 c3_13 c3_14 c3_15 c3_16 c3_17 c3_18 c3_19 f3_0 f3_1 f3_2 f3_3 f3_4 f3_5 f3_6 f3_7 f3_8 f3_9 l3_0 l3_1 n3_0_1 m3_0_1
  obtain ⟨U5, hU5⟩ : ∃ W : World, W = ((((((((((wx1.setCell ⟨w.heap.size, 0, none⟩ (.int .i64 k.age)).setCell ⟨w.heap.size, 1, none⟩ (.int .i64 k.options)).setCell ⟨w.heap.size, 2, none⟩ (.int .i64 k.typ)).setCell ⟨w.heap.size, 3, none⟩ (.int .i64 k.id)).setCell ⟨w.heap.size, 4, none⟩ (.int .i64 k.adv)).setCell ⟨w.heap.size, 5, none⟩ (.int .i64 k.seq)).setCell ⟨w.heap.size, 6, none⟩ (.slice A2 n2 c2)).setCell ⟨w.heap.size, 7, none⟩ (.slice B2 m2 d2)).setCell ⟨w.heap.size, 8, none⟩ (.int .i64 k.mask)).setCell ⟨w.heap.size, 9, none⟩ (.int .i64 k.cost)) := ⟨_, rfl⟩
  have ho : Only w.heap.size (w.heap.size + 1) wx1 U5 := by rw [hU5]; exact (((((((((((Only.refl _ _ _).set (p := ⟨w.heap.size, 0, none⟩) (Nat.le_refl _) (Nat.lt_succ_self _) _).set (p := ⟨w.heap.size, 1, none⟩) (Nat.le_refl _) (Nat.lt_succ_self _) _).set (p := ⟨w.heap.size, 2, none⟩) (Nat.le_refl _) (Nat.lt_succ_self _) _).set (p := ⟨w.heap.size, 3, none⟩) (Nat.le_refl _) (Nat.lt_succ_self _) _).set (p := ⟨w.heap.size, 4, none⟩) (Nat.le_refl _) (Nat.lt_succ_self _) _).set (p := ⟨w.heap.size, 5, none⟩) (Nat.le_refl _) (Nat.lt_succ_self _) _).set (p := ⟨w.heap.size, 6, none⟩) (Nat.le_refl _) (Nat.lt_succ_self _) _).set (p := ⟨w.heap.size, 7, none⟩) (Nat.le_refl _) (Nat.lt_succ_self _) _).set (p := ⟨w.heap.size, 8, none⟩) (Nat.le_refl _) (Nat.lt_succ_self _) _).set (p := ⟨w.heap.size, 9, none⟩) (Nat.le_refl _) (Nat.lt_succ_self _) _)
  replace HX1 : Kept w.heap.size (w.heap.size + 1) (BoxK w.heap.size 29 #[.int .i64 k.age, .int .i64 k.options, .int .i64 k.typ, .int .i64 k.id, .int .i64 k.adv, .int .i64 k.seq, .slice A2 n2 c2, .slice B2 m2 d2, .int .i64 k.mask, .int .i64 k.cost]) U5 := by rw [hU5]; exact Kept.box ((((((((((HX1.bx.puts 0 (.int .i64 k.age) (cs' := #[.int .i64 k.age, .int .i64 0, .int .i64 0, .int .i64 0, .int .i64 0, .int .i64 0, .slice none 0 0, .slice none 0 0, .int .i64 0, .int .i64 0]) rfl).puts 1 (.int .i64 k.options) (cs' := #[.int .i64 k.age, .int .i64 k.options, .int .i64 0, .int .i64 0, .int .i64 0, .int .i64 0, .slice none 0 0, .slice none 0 0, .int .i64 0, .int .i64 0]) rfl).puts 2 (.int .i64 k.typ) (cs' := #[.int .i64 k.age, .int .i64 k.options, .int .i64 k.typ, .int .i64 0, .int .i64 0, .int .i64 0, .slice none 0 0, .slice none 0 0, .int .i64 0, .int .i64 0]) rfl).puts 3 (.int .i64 k.id) (cs' := #[.int .i64 k.age, .int .i64 k.options, .int .i64 k.typ, .int .i64 k.id, .int .i64 0, .int .i64 0, .slice none 0 0, .slice none 0 0, .int .i64 0, .int .i64 0]) rfl).puts 4 (.int .i64 k.adv) (cs' := #[.int .i64 k.age, .int .i64 k.options, .int .i64 k.typ, .int .i64 k.id, .int .i64 k.adv, .int .i64 0, .slice none 0 0, .slice none 0 0, .int .i64 0, .int .i64 0]) rfl).puts 5 (.int .i64 k.seq) (cs' := #[.int .i64 k.age, .int .i64 k.options, .int .i64 k.typ, .int .i64 k.id, .int .i64 k.adv, .int .i64 k.seq, .slice none 0 0, .slice none 0 0, .int .i64 0, .int .i64 0]) rfl).puts 6 (.slice A2 n2 c2) (cs' := #[.int .i64 k.age, .int .i64 k.options, .int .i64 k.typ, .int .i64 k.id, .int .i64 k.adv, .int .i64 k.seq, .slice A2 n2 c2, .slice none 0 0, .int .i64 0, .int .i64 0]) rfl).puts 7 (.slice B2 m2 d2) (cs' := #[.int .i64 k.age, .int .i64 k.options, .int .i64 k.typ, .int .i64 k.id, .int .i64 k.adv, .int .i64 k.seq, .slice A2 n2 c2, .slice B2 m2 d2, .int .i64 0, .int .i64 0]) rfl).puts 8 (.int .i64 k.mask) (cs' := #[.int .i64 k.age, .int .i64 k.options, .int .i64 k.typ, .int .i64 k.id, .int .i64 k.adv, .int .i64 k.seq, .slice A2 n2 c2, .slice B2 m2 d2, .int .i64 k.mask, .int .i64 0]) rfl).puts 9 (.int .i64 k.cost) (cs' := #[.int .i64 k.age, .int .i64 k.options, .int .i64 k.typ, .int .i64 k.id, .int .i64 k.adv, .int .i64 k.seq, .slice A2 n2 c2, .slice B2 m2 d2, .int .i64 k.mask, .int .i64 k.cost]) rfl)
  replace HS := HS.only ho (by have := Y7.out; omega)
  replace HX2 := HX2.only ho (by have := Y7.out; omega)
  replace HA := HA.only ho (by have := Y7.out; omega)
  replace HR := HR.only ho (by have := Y7.out; omega)
  have Z5 : Hid (U5.heap.size = wx1.heap.size) := Lib.hid (by rw [hU5]; simp [World.setCell]); clear ho
  have Y8 := Lib.hid (And.intro Y7.out Z5.out); clear Y7 Z5
  have q_0 := HX1.look 0
  have q_1 := HX1.look 1
  have q_2 := HX1.look 2
  have q_3 := HX1.look 3
  have q_4 := HX1.look 4
  have q_5 := HX1.look 5
  have q_6 := HX1.look 6
  have q_7 := HX1.look 7
  have q_8 := HX1.look 8
  have q_9 := HX1.look 9
  have fin : ∀ e, e = Ending.returned (.agg (lsaCells k A2 B2 n2 c2 m2 d2)) → (BentOut w g A0 n0 c0 cs (K + 45) e U5) := by rintro _ rfl; exact ⟨_, _, _, _, _, _, _, rfl, ⟨⟨HA.sl.mono (lo' := w.heap.size) (hi' := U5.heap.size) (by have := Y8.out; omega) (by have := Y8.out; omega), HR.sl.mono (by have := Y8.out; omega) (by have := Y8.out; omega)⟩, Nat.le_refl _⟩, by omega, by omega, HS.more (by omega)⟩
  subst hU5
  exact bodyPost_ret (v := .agg (lsaCells k A2 B2 n2 c2 m2 d2)) (by simp [results, Try.results53, go_sem, lsaCells, q_0, q_1, q_2, q_3, q_4, q_5, q_6, q_7, q_8, q_9]) rfl (fin _ rfl)


end Go.Proofs.Ytamclkjofojhmaa

