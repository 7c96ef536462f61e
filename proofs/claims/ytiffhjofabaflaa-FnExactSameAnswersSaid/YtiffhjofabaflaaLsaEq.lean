/-
  eqLsa finds two like advertisements alike. No statement is proved here.
-/
import Derived.Test.YtiffhjofabaflaaLsa
namespace Go.Proofs.Ytiffhjofabaflaa
open Go.RowKit

set_option maxHeartbeats 3200000 in
theorem eqLsa_yes (l : LsaM) (q q' : Bool) (lo hi lo' hi' : Nat) (A B A' B' : Option Addr) (n c m d c' d' : Nat) (w : World) (ha : LsaIn q lo hi w A n B m l) (hc : LsaIn q' lo' hi' w A' n B' m l) (hh : hi ≤ w.heap.size) (hh' : hi' ≤ w.heap.size) (hn : n ≤ 1048576) (hm : m ≤ 1048576) :
    Calls Try.prog 166 #[.agg #[.int .i64 l.age, .int .i64 l.options, .int .i64 l.typ, .int .i64 l.id, .int .i64 l.adv, .int .i64 l.seq, .slice A n c, .slice B m d, .int .i64 l.mask, .int .i64 l.cost], .agg #[.int .i64 l.age, .int .i64 l.options, .int .i64 l.typ, .int .i64 l.id, .int .i64 l.adv, .int .i64 l.seq, .slice A' n c', .slice B' m d', .int .i64 l.mask, .int .i64 l.cost]] w fun e w' => e = .returned (.bool true) ∧ Below w.heap.size w w' := by
  have hV : Below w.heap.size w ((w.alloc (.cells #[.int .i64 l.age, .int .i64 l.options, .int .i64 l.typ, .int .i64 l.id, .int .i64 l.adv, .int .i64 l.seq, .slice A n c, .slice B m d, .int .i64 l.mask, .int .i64 l.cost] 123)).alloc (.cells #[.int .i64 l.age, .int .i64 l.options, .int .i64 l.typ, .int .i64 l.id, .int .i64 l.adv, .int .i64 l.seq, .slice A' n c', .slice B' m d', .int .i64 l.mask, .int .i64 l.cost] 123)) := ((Below.refl _ _).alloc (Nat.le_refl _) _).alloc (by simp) _
  have HA0 := Lib.hid (ha.below hV hh)
  have HC0 := Lib.hid (hc.below hV hh')
  have HB0 := Lib.hid hV
  clear ha hc hV
  go_enter Try.func166, Try.ntmps166
  go_wp2_with fail
  obtain ⟨V0, hV0⟩ : ∃ W : World, W = (w.alloc (.cells #[.int .i64 l.age, .int .i64 l.options, .int .i64 l.typ, .int .i64 l.id, .int .i64 l.adv, .int .i64 l.seq, .slice A n c, .slice B m d, .int .i64 l.mask, .int .i64 l.cost] 123)).alloc (.cells #[.int .i64 l.age, .int .i64 l.options, .int .i64 l.typ, .int .i64 l.id, .int .i64 l.adv, .int .i64 l.seq, .slice A' n c', .slice B' m d', .int .i64 l.mask, .int .i64 l.cost] 123) := ⟨_, rfl⟩
  have e1 : (w.alloc (.cells #[.int .i64 l.age, .int .i64 l.options, .int .i64 l.typ, .int .i64 l.id, .int .i64 l.adv, .int .i64 l.seq, .slice A n c, .slice B m d, .int .i64 l.mask, .int .i64 l.cost] 123)).heap.size = w.heap.size + 1 := by simp
  have HX0 : Hid (Box V0 w.heap.size 123 #[.int .i64 l.age, .int .i64 l.options, .int .i64 l.typ, .int .i64 l.id, .int .i64 l.adv, .int .i64 l.seq, .slice A n c, .slice B m d, .int .i64 l.mask, .int .i64 l.cost]) := by rw [hV0]; exact (Box.made _ _ _).below ((Below.refl _ _).alloc (Nat.le_refl _) _)
  have HY0 : Hid (Box V0 (w.heap.size + 1) 123 #[.int .i64 l.age, .int .i64 l.options, .int .i64 l.typ, .int .i64 l.id, .int .i64 l.adv, .int .i64 l.seq, .slice A' n c', .slice B' m d', .int .i64 l.mask, .int .i64 l.cost]) := by rw [hV0, ← e1]; exact Box.made _ _ _
  rw [← hV0] at HA0 HC0 HB0 ⊢
  clear hV0 e1
  refine (eqKey_yes _ _ _ _).mono ?_
  rintro e w1 ⟨rfl, hb1⟩
  have HX1 := Lib.hid (HX0.out.below hb1)
  have HY1 := Lib.hid (HY0.out.below hb1)
  have HA1 := Lib.hid (HA0.out.below hb1 (Nat.le_trans hh HB0.out.size))
  have HC1 := Lib.hid (HC0.out.below hb1 (Nat.le_trans hh' HB0.out.size))
  have HB1 := Lib.hid (below_step HB0.out hb1)
  clear hb1 HX0 HY0 HA0 HC0 HB0
  have x0 := HX1.out.look 0
  have y0 := HY1.out.look 0
  have x1 := HX1.out.look 1
  have y1 := HY1.out.look 1
  have x2 := HX1.out.look 2
  have y2 := HY1.out.look 2
  have x3 := HX1.out.look 3
  have y3 := HY1.out.look 3
  have x4 := HX1.out.look 4
  have y4 := HY1.out.look 4
  have x5 := HX1.out.look 5
  have y5 := HY1.out.look 5
  have x6 := HX1.out.look 6
  have y6 := HY1.out.look 6
  have x7 := HX1.out.look 7
  have y7 := HY1.out.look 7
  have x8 := HX1.out.look 8
  have y8 := HY1.out.look 8
  have x9 := HX1.out.look 9
  have y9 := HY1.out.look 9
  go_wp2_with fail
  clear x0 y0 x1 y1 x2 y2 x3 y3 x4 y4 x5 y5 x6 y6 x7 y7 x8 y8 x9 y9
  refine (eqLinkS_yes _ _ _ _ _ _ _ _ _ _ _ l.links _ HA1.out.links HC1.out.links (Nat.le_trans hh HB1.out.size) (Nat.le_trans hh' HB1.out.size) hn).mono ?_
  rintro e w2 ⟨rfl, hb2⟩
  have HX2 := Lib.hid (HX1.out.below hb2)
  have HY2 := Lib.hid (HY1.out.below hb2)
  have HA2 := Lib.hid (HA1.out.below hb2 (Nat.le_trans hh HB1.out.size))
  have HC2 := Lib.hid (HC1.out.below hb2 (Nat.le_trans hh' HB1.out.size))
  have HB2 := Lib.hid (below_step HB1.out hb2)
  clear hb2 HX1 HY1 HA1 HC1 HB1
  have x0 := HX2.out.look 0
  have y0 := HY2.out.look 0
  have x1 := HX2.out.look 1
  have y1 := HY2.out.look 1
  have x2 := HX2.out.look 2
  have y2 := HY2.out.look 2
  have x3 := HX2.out.look 3
  have y3 := HY2.out.look 3
  have x4 := HX2.out.look 4
  have y4 := HY2.out.look 4
  have x5 := HX2.out.look 5
  have y5 := HY2.out.look 5
  have x6 := HX2.out.look 6
  have y6 := HY2.out.look 6
  have x7 := HX2.out.look 7
  have y7 := HY2.out.look 7
  have x8 := HX2.out.look 8
  have y8 := HY2.out.look 8
  have x9 := HX2.out.look 9
  have y9 := HY2.out.look 9
  go_wp2_with fail
  clear x0 y0 x1 y1 x2 y2 x3 y3 x4 y4 x5 y5 x6 y6 x7 y7 x8 y8 x9 y9
  refine (eqInt64S_yes _ _ _ _ _ _ _ _ _ _ _ l.routers _ HA2.out.routers HC2.out.routers hm).mono ?_
  rintro e w3 ⟨rfl, hb3⟩
  have HX3 := Lib.hid (HX2.out.below hb3)
  have HY3 := Lib.hid (HY2.out.below hb3)
  have HA3 := Lib.hid (HA2.out.below hb3 (Nat.le_trans hh HB2.out.size))
  have HC3 := Lib.hid (HC2.out.below hb3 (Nat.le_trans hh' HB2.out.size))
  have HB3 := Lib.hid (below_step HB2.out hb3)
  clear hb3 HX2 HY2 HA2 HC2 HB2
  have x0 := HX3.out.look 0
  have y0 := HY3.out.look 0
  have x1 := HX3.out.look 1
  have y1 := HY3.out.look 1
  have x2 := HX3.out.look 2
  have y2 := HY3.out.look 2
  have x3 := HX3.out.look 3
  have y3 := HY3.out.look 3
  have x4 := HX3.out.look 4
  have y4 := HY3.out.look 4
  have x5 := HX3.out.look 5
  have y5 := HY3.out.look 5
  have x6 := HX3.out.look 6
  have y6 := HY3.out.look 6
  have x7 := HX3.out.look 7
  have y7 := HY3.out.look 7
  have x8 := HX3.out.look 8
  have y8 := HY3.out.look 8
  have x9 := HX3.out.look 9
  have y9 := HY3.out.look 9
  go_wp2
  go_ret
  exact ⟨rfl, HB3.out⟩

end Go.Proofs.Ytiffhjofabaflaa
