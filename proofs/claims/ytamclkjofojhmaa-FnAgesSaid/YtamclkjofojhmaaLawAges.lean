/-
  The walk of the law FnAges: to age by parts is to age by the whole.
-/
import Derived.Test.YtamclkjofojhmaaDrawsAge
import Derived.Test.YtamclkjofojhmaaAgeMath
import Derived.Test.YtamclkjofojhmaaLw
namespace Go.Proofs.Ytamclkjofojhmaa
open Go.RowKit
set_option linter.unusedVariables false

theorem sameLsas_self (x : LsaM) (q q' : Bool) (lo hi lo' hi' : Nat) (A B A' B' : Option Addr) (n c m d n' c' m' d' : Nat) (w : World) (hx : LsaAt q lo hi w A n B m x) (hy : LsaAt q' lo' hi' w A' n' B' m' x) (hn : n ≤ 1048576) (hm : m ≤ 1048576) (hn' : n' ≤ 1048576) (hm' : m' ≤ 1048576) :
    Calls Try.prog 23 #[.agg (lsaCells x A B n c m d), .agg (lsaCells x A' B' n' c' m' d')] w fun e w' => e = .returned (.bool true) ∧ Below w.heap.size w w' :=
  (sameLsas_any x x q q' lo hi lo' hi' A B A' B' n c m d n' c' m' d' w hx.in_ hy.in_ hx.le hy.le hn hm hn' hm').mono fun e w' h => ⟨by rw [h.1]; exact ret_bool (decide_eq_true rfl), h.2⟩
theorem lwAt_b (A : Option Addr) (n c : Nat) (cs : List Int) (m : Nat) (w : World) (ha : BIn w A n cs) (hb : Bytes cs) (hn : n ≤ 1048576) (hm0 : 0 < m) (hm : m ≤ 1000000) :
    Calls Try.prog 26 #[.slice A n c, .int .i64 2, .int .i64 m] w fun e w' => ∃ v : Int, e = .returned (.int .i64 v) ∧ 0 ≤ v ∧ v < m ∧ Below w.heap.size w w' :=
  (lwAt_two A n c cs m w ha hb hn hm0 hm).mono fun e w' ⟨v, h1, h2, k, h3⟩ => ⟨v, h1, h2.1, h2.2, by rw [h3]; exact below_drewN (Below.refl _ _) k⟩
theorem fieldR0 (W : World) (r : Int) (x : LsaM) (E F : Option Addr) (k d m d2 : Nat) : (Instr.field 36 (.agg (resCells r x E F k d m d2)) 0).run Try.prog W = .ok (.int .i64 r) W := by kernel_rfl
theorem fieldR1 (W : World) (r : Int) (x : LsaM) (E F : Option Addr) (k d m d2 : Nat) : (Instr.field 36 (.agg (resCells r x E F k d m d2)) 1).run Try.prog W = .ok (.agg (lsaCells x E F k d m d2)) W := by kernel_rfl
attribute [local go_sem high] fieldR0 fieldR1

set_option maxRecDepth 100000 in
set_option maxHeartbeats 6400000 in
theorem law_Ages (A0 : Option Addr) (n0 c0 : Nat) (cs : List Int) (w : World) (ha : BIn w A0 n0 cs) (hb : Bytes cs) (hm : n0 ≤ maxLen) :
    Calls Try.prog 5 #[.slice A0 n0 c0] w fun e w' => e = .returned (.bool true) ∧ Below w.heap.size w w' := by
  unfold maxLen at hm
  by_cases hbig : 1048576 < n0
  · have h1 : (1048576 : Int) < n0 := by omega
    go_enter Try.func5, Try.ntmps5
    go_wp2
    go_ret
    exact ⟨rfl, Below.refl _ _⟩
  have hn : n0 ≤ 1048576 := by omega
  clear hm hbig
  have HB := Lib.hid (Below.refl w.heap.size w)
  have HD := ha.hold
  have HBY := Lib.hid hb
  clear ha hb
  go_enter Try.func5, Try.ntmps5
  go_wp2_with fail
  refine (lwBig_no A0 n0 c0 _ hn).mono ?_
  rintro e w1 ⟨rfl, rfl⟩
  go_wp2_with fail
  refine (drawAge_any A0 n0 c0 cs _ HD.out HBY.out hn).mono ?_
  rintro e w2 ⟨l, A, B, n, c, m, d, t, rfl, hl, hn1, hm1, ht0, ht1, hb⟩
  have Z1 := Lib.hid hb.size
  replace HD := HD.below hb
  replace HB := Lib.hid (below_step HB.out hb)
  clear hb
  have HL := hl.kept; clear hl
  obtain ⟨r, hr⟩ : ∃ z, ageC l t = z := ⟨_, rfl⟩
  have HRr := Lib.hid hr; clear hr
  obtain ⟨x, hr⟩ : ∃ z, ageM l t = z := ⟨_, rfl⟩
  have HRx := Lib.hid hr; clear hr
  go_wp2_with fail
  refine Calls.name ?_
  intro U3 hU3
  have hb : Below w2.heap.size w2 U3 := by rw [hU3]; exact ((Below.refl _ _).alloc (Nat.le_refl _) _)
  have zz : Hid (w2.heap.size + 1 = U3.heap.size) := Lib.hid (by rw [hU3]; simp)
  have HX1 : Kept w2.heap.size (w2.heap.size + 1) (BoxK w2.heap.size 29 #[.int .i64 l.age, .int .i64 l.options, .int .i64 l.typ, .int .i64 l.id, .int .i64 l.adv, .int .i64 l.seq, .slice A n c, .slice B m d, .int .i64 l.mask, .int .i64 l.cost]) U3 := by rw [hU3]; exact Kept.box (Box.made_at _ _ _ rfl)
  replace HD := HD.below hb
  replace HL := HL.below hb
  replace HB := Lib.hid (below_step HB.out hb)
  clear hb
  have Z2 := zz; clear zz
  have Y1 := Lib.hid (And.intro Z1.out Z2.out); clear Z1 Z2
  clear hU3
  refine (age_any l true _ _ A B n c m d t _ HL.lsa (by omega) (by omega)).mono ?_
  rw [HRr.out, HRx.out]
  rintro e w4 ⟨E0, F0, j0, b0, s0, t0, rfl, ht, hj0, hs0, hb⟩
  have Z3 := Lib.hid hb.size
  have Y2 := Lib.hid (And.intro Y1.out Z3.out); clear Y1 Z3
  replace HD := HD.below hb
  replace HL := HL.below hb
  replace HX1 := HX1.below hb
  replace HB := Lib.hid (below_step HB.out hb)
  clear hb
  have HO0 := ht.kept; clear ht
  have l4_0 := HX1.bx.lt
  go_wp2_with fail
  clear l4_0
  refine Calls.name ?_
  intro U5 hU5
  have hb : Below w4.heap.size w4 U5 := by rw [hU5]; exact ((Below.refl _ _).alloc (Nat.le_refl _) _)
  have zz : Hid (w4.heap.size + 1 = U5.heap.size) := Lib.hid (by rw [hU5]; simp)
  have HX2 : Kept w4.heap.size (w4.heap.size + 1) (BoxK w4.heap.size 36 #[.int .i64 r, .int .i64 x.age, .int .i64 x.options, .int .i64 x.typ, .int .i64 x.id, .int .i64 x.adv, .int .i64 x.seq, .slice E0 j0 b0, .slice F0 s0 t0, .int .i64 x.mask, .int .i64 x.cost]) U5 := by rw [hU5]; exact Kept.box (Box.made_at _ _ _ rfl)
  replace HD := HD.below hb
  replace HL := HL.below hb
  replace HX1 := HX1.below hb
  replace HO0 := HO0.below hb
  replace HB := Lib.hid (below_step HB.out hb)
  clear hb
  have Z4 := zz; clear zz
  have Y3 := Lib.hid (And.intro Y2.out Z4.out); clear Y2 Z4
  clear hU5
  refine (drawFlush_any A0 n0 c0 cs _ HD.out HBY.out hn).mono ?_
  rintro e w6 ⟨k, A3, B3, n3, c3, m3, d3, rfl, hl, hn3, hm3, hb⟩
  have Z5 := Lib.hid hb.size
  have Y4 := Lib.hid (And.intro Y3.out Z5.out); clear Y3 Z5
  replace HD := HD.below hb
  replace HL := HL.below hb
  replace HX1 := HX1.below hb
  replace HO0 := HO0.below hb
  replace HX2 := HX2.below hb
  replace HB := Lib.hid (below_step HB.out hb)
  clear hb
  have HK := hl.kept; clear hl
  obtain ⟨fr, hr⟩ : ∃ z, ageC k 3600 = z := ⟨_, rfl⟩
  have HRfr := Lib.hid hr; clear hr
  obtain ⟨fx, hr⟩ : ∃ z, ageM k 3600 = z := ⟨_, rfl⟩
  have HRfx := Lib.hid hr; clear hr
  have l5_0 := HX1.bx.lt
  have l5_1 := HX2.bx.lt
  go_wp2_with fail
  clear l5_0 l5_1
  refine Calls.name ?_
  intro U7 hU7
  have hb : Below w6.heap.size w6 U7 := by rw [hU7]; exact ((Below.refl _ _).alloc (Nat.le_refl _) _)
  have zz : Hid (w6.heap.size + 1 = U7.heap.size) := Lib.hid (by rw [hU7]; simp)
  have HX3 : Kept w6.heap.size (w6.heap.size + 1) (BoxK w6.heap.size 29 #[.int .i64 k.age, .int .i64 k.options, .int .i64 k.typ, .int .i64 k.id, .int .i64 k.adv, .int .i64 k.seq, .slice A3 n3 c3, .slice B3 m3 d3, .int .i64 k.mask, .int .i64 k.cost]) U7 := by rw [hU7]; exact Kept.box (Box.made_at _ _ _ rfl)
  replace HD := HD.below hb
  replace HL := HL.below hb
  replace HX1 := HX1.below hb
  replace HO0 := HO0.below hb
  replace HX2 := HX2.below hb
  replace HK := HK.below hb
  replace HB := Lib.hid (below_step HB.out hb)
  clear hb
  have Z6 := zz; clear zz
  have Y5 := Lib.hid (And.intro Y4.out Z6.out); clear Y4 Z6
  clear hU7
  refine (flush_any k true _ _ A3 B3 n3 c3 m3 d3 _ HK.lsa (by omega) (by omega)).mono ?_
  rw [HRfr.out, HRfx.out]
  rintro e w8 ⟨E1, F1, j1, b1, s1, t1, rfl, ht, hj1, hs1, hb⟩
  have Z7 := Lib.hid hb.size
  have Y6 := Lib.hid (And.intro Y5.out Z7.out); clear Y5 Z7
  replace HD := HD.below hb
  replace HL := HL.below hb
  replace HX1 := HX1.below hb
  replace HO0 := HO0.below hb
  replace HX2 := HX2.below hb
  replace HK := HK.below hb
  replace HX3 := HX3.below hb
  replace HB := Lib.hid (below_step HB.out hb)
  clear hb
  have HO1 := ht.kept; clear ht
  have l6_0 := HX1.bx.lt
  have l6_1 := HX2.bx.lt
  have l6_2 := HX3.bx.lt
  go_wp2_with fail
  clear l6_0 l6_1 l6_2
  have hrr : (r != r) = false := by simp
  have hff : (fr != fr) = false := by simp
  refine Code.wp_name ?_
  intro U9 hU9
  have hb : Below w8.heap.size w8 U9 := by rw [hU9]; exact ((Below.refl _ _).alloc (Nat.le_refl _) _)
  have zz : Hid (w8.heap.size + 1 = U9.heap.size) := Lib.hid (by rw [hU9]; simp)
  have HX4 : Kept w8.heap.size (w8.heap.size + 1) (BoxK w8.heap.size 36 #[.int .i64 fr, .int .i64 fx.age, .int .i64 fx.options, .int .i64 fx.typ, .int .i64 fx.id, .int .i64 fx.adv, .int .i64 fx.seq, .slice E1 j1 b1, .slice F1 s1 t1, .int .i64 fx.mask, .int .i64 fx.cost]) U9 := by rw [hU9]; exact Kept.box (Box.made_at _ _ _ rfl)
  replace HD := HD.below hb
  replace HL := HL.below hb
  replace HX1 := HX1.below hb
  replace HO0 := HO0.below hb
  replace HX2 := HX2.below hb
  replace HK := HK.below hb
  replace HX3 := HX3.below hb
  replace HO1 := HO1.below hb
  replace HB := Lib.hid (below_step HB.out hb)
  clear hb
  have Z8 := zz; clear zz
  have Y7 := Lib.hid (And.intro Y6.out Z8.out); clear Y6 Z8
  clear hU9
  have SB : Hid (∀ W, Hid (Below U9.heap.size U9 W) → (fun W => W.cell? ⟨w2.heap.size, 0, none⟩ = some (.int .i64 l.age) ∧ W.cell? ⟨w2.heap.size, 1, none⟩ = some (.int .i64 l.options) ∧ W.cell? ⟨w2.heap.size, 2, none⟩ = some (.int .i64 l.typ) ∧ W.cell? ⟨w2.heap.size, 3, none⟩ = some (.int .i64 l.id) ∧ W.cell? ⟨w2.heap.size, 4, none⟩ = some (.int .i64 l.adv) ∧ W.cell? ⟨w2.heap.size, 5, none⟩ = some (.int .i64 l.seq) ∧ W.cell? ⟨w2.heap.size, 6, none⟩ = some (.slice A n c) ∧ W.cell? ⟨w2.heap.size, 7, none⟩ = some (.slice B m d) ∧ W.cell? ⟨w2.heap.size, 8, none⟩ = some (.int .i64 l.mask) ∧ W.cell? ⟨w2.heap.size, 9, none⟩ = some (.int .i64 l.cost) ∧ W.cell? ⟨w4.heap.size, 0, none⟩ = some (.int .i64 r) ∧ W.cell? ⟨w4.heap.size, 1, none⟩ = some (.int .i64 x.age) ∧ W.cell? ⟨w4.heap.size, 2, none⟩ = some (.int .i64 x.options) ∧ W.cell? ⟨w4.heap.size, 3, none⟩ = some (.int .i64 x.typ) ∧ W.cell? ⟨w4.heap.size, 4, none⟩ = some (.int .i64 x.id) ∧ W.cell? ⟨w4.heap.size, 5, none⟩ = some (.int .i64 x.adv) ∧ W.cell? ⟨w4.heap.size, 6, none⟩ = some (.int .i64 x.seq) ∧ W.cell? ⟨w4.heap.size, 7, none⟩ = some (.slice E0 j0 b0) ∧ W.cell? ⟨w4.heap.size, 8, none⟩ = some (.slice F0 s0 t0) ∧ W.cell? ⟨w4.heap.size, 9, none⟩ = some (.int .i64 x.mask) ∧ W.cell? ⟨w4.heap.size, 10, none⟩ = some (.int .i64 x.cost) ∧ W.cell? ⟨w6.heap.size, 0, none⟩ = some (.int .i64 k.age) ∧ W.cell? ⟨w6.heap.size, 1, none⟩ = some (.int .i64 k.options) ∧ W.cell? ⟨w6.heap.size, 2, none⟩ = some (.int .i64 k.typ) ∧ W.cell? ⟨w6.heap.size, 3, none⟩ = some (.int .i64 k.id) ∧ W.cell? ⟨w6.heap.size, 4, none⟩ = some (.int .i64 k.adv) ∧ W.cell? ⟨w6.heap.size, 5, none⟩ = some (.int .i64 k.seq) ∧ W.cell? ⟨w6.heap.size, 6, none⟩ = some (.slice A3 n3 c3) ∧ W.cell? ⟨w6.heap.size, 7, none⟩ = some (.slice B3 m3 d3) ∧ W.cell? ⟨w6.heap.size, 8, none⟩ = some (.int .i64 k.mask) ∧ W.cell? ⟨w6.heap.size, 9, none⟩ = some (.int .i64 k.cost) ∧ W.cell? ⟨w8.heap.size, 0, none⟩ = some (.int .i64 fr) ∧ W.cell? ⟨w8.heap.size, 1, none⟩ = some (.int .i64 fx.age) ∧ W.cell? ⟨w8.heap.size, 2, none⟩ = some (.int .i64 fx.options) ∧ W.cell? ⟨w8.heap.size, 3, none⟩ = some (.int .i64 fx.typ) ∧ W.cell? ⟨w8.heap.size, 4, none⟩ = some (.int .i64 fx.id) ∧ W.cell? ⟨w8.heap.size, 5, none⟩ = some (.int .i64 fx.adv) ∧ W.cell? ⟨w8.heap.size, 6, none⟩ = some (.int .i64 fx.seq) ∧ W.cell? ⟨w8.heap.size, 7, none⟩ = some (.slice E1 j1 b1) ∧ W.cell? ⟨w8.heap.size, 8, none⟩ = some (.slice F1 s1 t1) ∧ W.cell? ⟨w8.heap.size, 9, none⟩ = some (.int .i64 fx.mask) ∧ W.cell? ⟨w8.heap.size, 10, none⟩ = some (.int .i64 fx.cost)) W) := fun W h => ⟨(HX1.below h.out).look 0, (HX1.below h.out).look 1, (HX1.below h.out).look 2, (HX1.below h.out).look 3, (HX1.below h.out).look 4, (HX1.below h.out).look 5, (HX1.below h.out).look 6, (HX1.below h.out).look 7, (HX1.below h.out).look 8, (HX1.below h.out).look 9, (HX2.below h.out).look 0, (HX2.below h.out).look 1, (HX2.below h.out).look 2, (HX2.below h.out).look 3, (HX2.below h.out).look 4, (HX2.below h.out).look 5, (HX2.below h.out).look 6, (HX2.below h.out).look 7, (HX2.below h.out).look 8, (HX2.below h.out).look 9, (HX2.below h.out).look 10, (HX3.below h.out).look 0, (HX3.below h.out).look 1, (HX3.below h.out).look 2, (HX3.below h.out).look 3, (HX3.below h.out).look 4, (HX3.below h.out).look 5, (HX3.below h.out).look 6, (HX3.below h.out).look 7, (HX3.below h.out).look 8, (HX3.below h.out).look 9, (HX4.below h.out).look 0, (HX4.below h.out).look 1, (HX4.below h.out).look 2, (HX4.below h.out).look 3, (HX4.below h.out).look 4, (HX4.below h.out).look 5, (HX4.below h.out).look 6, (HX4.below h.out).look 7, (HX4.below h.out).look 8, (HX4.below h.out).look 9, (HX4.below h.out).look 10⟩
  have V0 : Hid (Below U9.heap.size U9 U9.drew) := (Below.refl _ _).drew
  go_region_held3 (fun W => W.cell? ⟨w2.heap.size, 0, none⟩ = some (.int .i64 l.age) ∧ W.cell? ⟨w2.heap.size, 1, none⟩ = some (.int .i64 l.options) ∧ W.cell? ⟨w2.heap.size, 2, none⟩ = some (.int .i64 l.typ) ∧ W.cell? ⟨w2.heap.size, 3, none⟩ = some (.int .i64 l.id) ∧ W.cell? ⟨w2.heap.size, 4, none⟩ = some (.int .i64 l.adv) ∧ W.cell? ⟨w2.heap.size, 5, none⟩ = some (.int .i64 l.seq) ∧ W.cell? ⟨w2.heap.size, 6, none⟩ = some (.slice A n c) ∧ W.cell? ⟨w2.heap.size, 7, none⟩ = some (.slice B m d) ∧ W.cell? ⟨w2.heap.size, 8, none⟩ = some (.int .i64 l.mask) ∧ W.cell? ⟨w2.heap.size, 9, none⟩ = some (.int .i64 l.cost) ∧ W.cell? ⟨w4.heap.size, 0, none⟩ = some (.int .i64 r) ∧ W.cell? ⟨w4.heap.size, 1, none⟩ = some (.int .i64 x.age) ∧ W.cell? ⟨w4.heap.size, 2, none⟩ = some (.int .i64 x.options) ∧ W.cell? ⟨w4.heap.size, 3, none⟩ = some (.int .i64 x.typ) ∧ W.cell? ⟨w4.heap.size, 4, none⟩ = some (.int .i64 x.id) ∧ W.cell? ⟨w4.heap.size, 5, none⟩ = some (.int .i64 x.adv) ∧ W.cell? ⟨w4.heap.size, 6, none⟩ = some (.int .i64 x.seq) ∧ W.cell? ⟨w4.heap.size, 7, none⟩ = some (.slice E0 j0 b0) ∧ W.cell? ⟨w4.heap.size, 8, none⟩ = some (.slice F0 s0 t0) ∧ W.cell? ⟨w4.heap.size, 9, none⟩ = some (.int .i64 x.mask) ∧ W.cell? ⟨w4.heap.size, 10, none⟩ = some (.int .i64 x.cost) ∧ W.cell? ⟨w6.heap.size, 0, none⟩ = some (.int .i64 k.age) ∧ W.cell? ⟨w6.heap.size, 1, none⟩ = some (.int .i64 k.options) ∧ W.cell? ⟨w6.heap.size, 2, none⟩ = some (.int .i64 k.typ) ∧ W.cell? ⟨w6.heap.size, 3, none⟩ = some (.int .i64 k.id) ∧ W.cell? ⟨w6.heap.size, 4, none⟩ = some (.int .i64 k.adv) ∧ W.cell? ⟨w6.heap.size, 5, none⟩ = some (.int .i64 k.seq) ∧ W.cell? ⟨w6.heap.size, 6, none⟩ = some (.slice A3 n3 c3) ∧ W.cell? ⟨w6.heap.size, 7, none⟩ = some (.slice B3 m3 d3) ∧ W.cell? ⟨w6.heap.size, 8, none⟩ = some (.int .i64 k.mask) ∧ W.cell? ⟨w6.heap.size, 9, none⟩ = some (.int .i64 k.cost) ∧ W.cell? ⟨w8.heap.size, 0, none⟩ = some (.int .i64 fr) ∧ W.cell? ⟨w8.heap.size, 1, none⟩ = some (.int .i64 fx.age) ∧ W.cell? ⟨w8.heap.size, 2, none⟩ = some (.int .i64 fx.options) ∧ W.cell? ⟨w8.heap.size, 3, none⟩ = some (.int .i64 fx.typ) ∧ W.cell? ⟨w8.heap.size, 4, none⟩ = some (.int .i64 fx.id) ∧ W.cell? ⟨w8.heap.size, 5, none⟩ = some (.int .i64 fx.adv) ∧ W.cell? ⟨w8.heap.size, 6, none⟩ = some (.int .i64 fx.seq) ∧ W.cell? ⟨w8.heap.size, 7, none⟩ = some (.slice E1 j1 b1) ∧ W.cell? ⟨w8.heap.size, 8, none⟩ = some (.slice F1 s1 t1) ∧ W.cell? ⟨w8.heap.size, 9, none⟩ = some (.int .i64 fx.mask) ∧ W.cell? ⟨w8.heap.size, 10, none⟩ = some (.int .i64 fx.cost)) (exact SB.out _ (by assumption))
    (first | (go_at_call 38; ((with_reducible refine (specAge_any l true _ _ A B n c m d t _ (HL.below V0.out).lsa (by omega) (by omega)).mono ?_); rw [HRr.out, HRx.out]; rintro e u1_0 ⟨E2, F2, j2, b2, s2, t2, rfl, ht, hj2, hs2, hb⟩; have V1 := Lib.hid (below_step V0.out hb); clear hb; clear ht)) | (go_at_call 38; ((with_reducible refine (specAge_any l true _ _ A B n c m d t _ (HL.below V1.out).lsa (by omega) (by omega)).mono ?_); rw [HRr.out, HRx.out]; rintro e u1_1 ⟨E4, F4, j4, b4, s4, t4, rfl, ht, hj4, hs4, hb⟩; have V2 := Lib.hid (below_step V1.out hb); clear hb; have HS4 := ht.kept; clear ht)) | (go_at_call 23; ((with_reducible refine (sameLsas_self x true true _ _ _ _ E0 F0 E4 F4 j0 b0 s0 t0 j4 b4 s4 t4 _ (HO0.below V2.out).two.at_ HS4.two.at_ hj0 hs0 hj4 hs4).mono ?_); rintro e u1_2 ⟨rfl, hb⟩; have V3 := Lib.hid (below_step V2.out hb); clear hb)) | (go_at_call 39; ((with_reducible refine (specFlush_any k true _ _ A3 B3 n3 c3 m3 d3 _ (HK.below V3.out).lsa (by omega) (by omega)).mono ?_); rw [HRfr.out, HRfx.out]; rintro e u1_3 ⟨E6, F6, j6, b6, s6, t6, rfl, ht, hj6, hs6, hb⟩; have V4 := Lib.hid (below_step V3.out hb); clear hb; clear ht)))
  have hb := V4.out
  clear SB V0 V1 V2 V3 V4
  have Z9 := Lib.hid hb.size
  have Y8 := Lib.hid (And.intro Y7.out Z9.out); clear Y7 Z9
  replace HD := HD.below hb
  replace HL := HL.below hb
  replace HX1 := HX1.below hb
  replace HO0 := HO0.below hb
  replace HX2 := HX2.below hb
  replace HK := HK.below hb
  replace HX3 := HX3.below hb
  replace HO1 := HO1.below hb
  replace HX4 := HX4.below hb
  replace HB := Lib.hid (below_step HB.out hb)
  clear hb
  clear HS4 hrr hff
  by_cases hf : fr = 0
  · have hf1 : (fr == 0) = true := by rw [hf]; rfl
    have hf2 : (fx.age != 3600) = false := by rw [← HRfx.out, ageM_yes (HRfr.out.trans hf), show ({ k with age := min (k.age + min 3600 3600) 3600 } : LsaM).age = 3600 from by show min (k.age + min 3600 3600) 3600 = 3600; have := (sound_of k (age_fault k 3600 (HRfr.out.trans hf)).1).age; omega]; rfl
    clear hf
    by_cases hr0 : r = 0
    · have hr1 : (r != 0) = false := by rw [hr0]; rfl
      have hAF := age_fault l t (HRr.out.trans hr0)
      rw [HRx.out] at hAF
      obtain ⟨_, hq1, hq2, hq3⟩ := hAF
      have HFX := Lib.hid hq2; clear hq2
      have HR0 := Lib.hid (HRr.out.trans hr0); clear hr0
      have c7_0 := HX2.look 0
      have c7_1 := HX4.look 0
      have c7_2 := HX4.look 1
      have l7_0 := HX1.bx.lt
      have l7_1 := HX2.bx.lt
      have l7_2 := HX3.bx.lt
      have l7_3 := HX4.bx.lt
      go_wp2_with fail
      clear c7_0 c7_1 c7_2 l7_0 l7_1 l7_2 l7_3
      refine (lwAt_b A0 n0 c0 cs 100 _ HD.out HBY.out hn (by omega) (by omega)).mono ?_
      rintro e w10 ⟨v, rfl, hv0, hv1, hb⟩
      have Z10 := Lib.hid hb.size
      have Y9 := Lib.hid (And.intro Y8.out Z10.out); clear Y8 Z10
      replace HD := HD.below hb
      replace HL := HL.below hb
      replace HX1 := HX1.below hb
      replace HO0 := HO0.below hb
      replace HX2 := HX2.below hb
      replace HK := HK.below hb
      replace HX3 := HX3.below hb
      replace HO1 := HO1.below hb
      replace HX4 := HX4.below hb
      replace HB := Lib.hid (below_step HB.out hb)
      clear hb
      clear hr1
      by_cases hvt : t < v
      · have hAP := age_parts l t t HR0.out (by omega) (by omega)
        rw [Int.sub_self] at hAP
        rw [HRx.out] at hAP
        obtain ⟨hp1, hp2, hp3⟩ := hAP
        obtain ⟨x1, hx1⟩ : ∃ z, ageM l t = z := ⟨_, rfl⟩
        have hx2 : x = x1 := HRx.out.symm.trans hx1
        rw [hx2] at hp2 hp3
        have HP1 := Lib.hid hp1; have HP2 := Lib.hid hp2; have HP3 := Lib.hid (hp3.trans hx2.symm); have HPX := Lib.hid hx1; clear hp1 hp2 hp3 hx1 hx2
        have c8_0 := HX1.look 0
        have c8_1 := HX1.look 1
        have c8_2 := HX1.look 2
        have c8_3 := HX1.look 3
        have c8_4 := HX1.look 4
        have c8_5 := HX1.look 5
        have c8_6 := HX1.look 6
        have c8_7 := HX1.look 7
        have c8_8 := HX1.look 8
        have c8_9 := HX1.look 9
        have l8_0 := HX1.bx.lt
        have l8_1 := HX2.bx.lt
        have l8_2 := HX3.bx.lt
        have l8_3 := HX4.bx.lt
        go_wp2_with fail
        clear c8_0 c8_1 c8_2 c8_3 c8_4 c8_5 c8_6 c8_7 c8_8 c8_9 l8_0 l8_1 l8_2 l8_3
        refine (age_any l true _ _ A B n c m d t _ HL.lsa (by omega) (by omega)).mono ?_
        rw [HP1.out, HPX.out]
        rintro e w11 ⟨E7, F7, j7, b7, s7, t7, rfl, ht, hj7, hs7, hb⟩
        have Z11 := Lib.hid hb.size
        have Y10 := Lib.hid (And.intro Y9.out Z11.out); clear Y9 Z11
        replace HD := HD.below hb
        replace HL := HL.below hb
        replace HX1 := HX1.below hb
        replace HO0 := HO0.below hb
        replace HX2 := HX2.below hb
        replace HK := HK.below hb
        replace HX3 := HX3.below hb
        replace HO1 := HO1.below hb
        replace HX4 := HX4.below hb
        replace HB := Lib.hid (below_step HB.out hb)
        clear hb
        have HO7 := ht.kept; clear ht
        skip
        have l9_0 := HX1.bx.lt
        have l9_1 := HX2.bx.lt
        have l9_2 := HX3.bx.lt
        have l9_3 := HX4.bx.lt
        go_wp2_with fail
        clear l9_0 l9_1 l9_2 l9_3
        refine Calls.name ?_
        intro U12 hU12
        have hb : Below w11.heap.size w11 U12 := by rw [hU12]; exact ((Below.refl _ _).alloc (Nat.le_refl _) _)
        have zz : Hid (w11.heap.size + 1 = U12.heap.size) := Lib.hid (by rw [hU12]; simp)
        have HX5 : Kept w11.heap.size (w11.heap.size + 1) (BoxK w11.heap.size 36 #[.int .i64 0, .int .i64 x1.age, .int .i64 x1.options, .int .i64 x1.typ, .int .i64 x1.id, .int .i64 x1.adv, .int .i64 x1.seq, .slice E7 j7 b7, .slice F7 s7 t7, .int .i64 x1.mask, .int .i64 x1.cost]) U12 := by rw [hU12]; exact Kept.box (Box.made_at _ _ _ rfl)
        replace HD := HD.below hb
        replace HL := HL.below hb
        replace HX1 := HX1.below hb
        replace HO0 := HO0.below hb
        replace HX2 := HX2.below hb
        replace HK := HK.below hb
        replace HX3 := HX3.below hb
        replace HO1 := HO1.below hb
        replace HX4 := HX4.below hb
        replace HO7 := HO7.below hb
        replace HB := Lib.hid (below_step HB.out hb)
        clear hb
        have Z12 := zz; clear zz
        have Y11 := Lib.hid (And.intro Y10.out Z12.out); clear Y10 Z12
        clear hU12
        refine (age_any x1 true _ _ E7 F7 j7 b7 s7 t7 (0) _ HO7.two.at_ hj7 hs7).mono ?_
        rw [HP2.out, HP3.out]
        rintro e w13 ⟨E8, F8, j8, b8, s8, t8, rfl, ht, hj8, hs8, hb⟩
        have Z13 := Lib.hid hb.size
        have Y12 := Lib.hid (And.intro Y11.out Z13.out); clear Y11 Z13
        replace HD := HD.below hb
        replace HL := HL.below hb
        replace HX1 := HX1.below hb
        replace HO0 := HO0.below hb
        replace HX2 := HX2.below hb
        replace HK := HK.below hb
        replace HX3 := HX3.below hb
        replace HO1 := HO1.below hb
        replace HX4 := HX4.below hb
        replace HO7 := HO7.below hb
        replace HX5 := HX5.below hb
        replace HB := Lib.hid (below_step HB.out hb)
        clear hb
        have HO8 := ht.kept; clear ht
        have c10_0 := HX2.look 1
        have c10_1 := HX2.look 2
        have c10_2 := HX2.look 3
        have c10_3 := HX2.look 4
        have c10_4 := HX2.look 5
        have c10_5 := HX2.look 6
        have c10_6 := HX2.look 7
        have c10_7 := HX2.look 8
        have c10_8 := HX2.look 9
        have c10_9 := HX2.look 10
        have c10_10 := HX5.look 0
        have l10_0 := HX1.bx.lt
        have l10_1 := HX2.bx.lt
        have l10_2 := HX3.bx.lt
        have l10_3 := HX4.bx.lt
        have l10_4 := HX5.bx.lt
        go_wp2_with fail
        clear c10_0 c10_1 c10_2 c10_3 c10_4 c10_5 c10_6 c10_7 c10_8 c10_9 c10_10 l10_0 l10_1 l10_2 l10_3 l10_4
        refine Calls.name ?_
        intro U14 hU14
        have hb : Below w13.heap.size w13 U14 := by rw [hU14]; exact ((Below.refl _ _).alloc (Nat.le_refl _) _)
        have zz : Hid (w13.heap.size + 1 = U14.heap.size) := Lib.hid (by rw [hU14]; simp)
        have HX6 : Kept w13.heap.size (w13.heap.size + 1) (BoxK w13.heap.size 36 #[.int .i64 0, .int .i64 x.age, .int .i64 x.options, .int .i64 x.typ, .int .i64 x.id, .int .i64 x.adv, .int .i64 x.seq, .slice E8 j8 b8, .slice F8 s8 t8, .int .i64 x.mask, .int .i64 x.cost]) U14 := by rw [hU14]; exact Kept.box (Box.made_at _ _ _ rfl)
        replace HD := HD.below hb
        replace HL := HL.below hb
        replace HX1 := HX1.below hb
        replace HO0 := HO0.below hb
        replace HX2 := HX2.below hb
        replace HK := HK.below hb
        replace HX3 := HX3.below hb
        replace HO1 := HO1.below hb
        replace HX4 := HX4.below hb
        replace HO7 := HO7.below hb
        replace HX5 := HX5.below hb
        replace HO8 := HO8.below hb
        replace HB := Lib.hid (below_step HB.out hb)
        clear hb
        have Z14 := zz; clear zz
        have Y13 := Lib.hid (And.intro Y12.out Z14.out); clear Y12 Z14
        clear hU14
        refine (sameLsas_self x true true _ _ _ _ E8 F8 E0 F0 j8 b8 s8 t8 j0 b0 s0 t0 _ HO8.two.at_ HO0.two.at_ hj8 hs8 hj0 hs0).mono ?_
        rintro e w15 ⟨rfl, hb⟩
        have Z15 := Lib.hid hb.size
        have Y14 := Lib.hid (And.intro Y13.out Z15.out); clear Y13 Z15
        replace HD := HD.below hb
        replace HL := HL.below hb
        replace HX1 := HX1.below hb
        replace HO0 := HO0.below hb
        replace HX2 := HX2.below hb
        replace HK := HK.below hb
        replace HX3 := HX3.below hb
        replace HO1 := HO1.below hb
        replace HX4 := HX4.below hb
        replace HO7 := HO7.below hb
        replace HX5 := HX5.below hb
        replace HO8 := HO8.below hb
        replace HX6 := HX6.below hb
        replace HB := Lib.hid (below_step HB.out hb)
        clear hb
        have c11_0 := HX2.look 1
        have c11_1 := HX2.look 2
        have c11_2 := HX2.look 3
        have c11_3 := HX2.look 4
        have c11_4 := HX2.look 5
        have c11_5 := HX2.look 6
        have c11_6 := HX2.look 7
        have c11_7 := HX2.look 8
        have c11_8 := HX2.look 9
        have c11_9 := HX2.look 10
        have l11_0 := HX1.bx.lt
        have l11_1 := HX2.bx.lt
        have l11_2 := HX3.bx.lt
        have l11_3 := HX4.bx.lt
        have l11_4 := HX5.bx.lt
        have l11_5 := HX6.bx.lt
        go_wp2_with fail
        clear c11_0 c11_1 c11_2 c11_3 c11_4 c11_5 c11_6 c11_7 c11_8 c11_9 l11_0 l11_1 l11_2 l11_3 l11_4 l11_5
        refine (lsaFault_any x true _ _ E0 F0 j0 b0 s0 t0 _ HO0.two.at_ hj0 hs0).mono ?_
        rw [HFX.out]
        rintro e w16 ⟨rfl, hb⟩
        have Z16 := Lib.hid hb.size
        have Y15 := Lib.hid (And.intro Y14.out Z16.out); clear Y14 Z16
        replace HD := HD.below hb
        replace HL := HL.below hb
        replace HX1 := HX1.below hb
        replace HO0 := HO0.below hb
        replace HX2 := HX2.below hb
        replace HK := HK.below hb
        replace HX3 := HX3.below hb
        replace HO1 := HO1.below hb
        replace HX4 := HX4.below hb
        replace HO7 := HO7.below hb
        replace HX5 := HX5.below hb
        replace HO8 := HO8.below hb
        replace HX6 := HX6.below hb
        replace HB := Lib.hid (below_step HB.out hb)
        clear hb
        have c12_0 := HX1.look 0
        have c12_1 := HX2.look 1
        have l12_0 := HX1.bx.lt
        have l12_1 := HX2.bx.lt
        have l12_2 := HX3.bx.lt
        have l12_3 := HX4.bx.lt
        have l12_4 := HX5.bx.lt
        have l12_5 := HX6.bx.lt
        go_wp2
        clear c12_0 c12_1 l12_0 l12_1 l12_2 l12_3 l12_4 l12_5
        go_ret
        exact ⟨rfl, HB.out⟩
      · have hAP := age_parts l t v HR0.out (by omega) (by omega)
        rw [HRx.out] at hAP
        obtain ⟨hp1, hp2, hp3⟩ := hAP
        obtain ⟨x1, hx1⟩ : ∃ z, ageM l v = z := ⟨_, rfl⟩
        rw [hx1] at hp2 hp3
        have HP1 := Lib.hid hp1; have HP2 := Lib.hid hp2; have HP3 := Lib.hid hp3; have HPX := Lib.hid hx1; clear hp1 hp2 hp3 hx1
        have c8_0 := HX1.look 0
        have c8_1 := HX1.look 1
        have c8_2 := HX1.look 2
        have c8_3 := HX1.look 3
        have c8_4 := HX1.look 4
        have c8_5 := HX1.look 5
        have c8_6 := HX1.look 6
        have c8_7 := HX1.look 7
        have c8_8 := HX1.look 8
        have c8_9 := HX1.look 9
        have l8_0 := HX1.bx.lt
        have l8_1 := HX2.bx.lt
        have l8_2 := HX3.bx.lt
        have l8_3 := HX4.bx.lt
        go_wp2_with fail
        clear c8_0 c8_1 c8_2 c8_3 c8_4 c8_5 c8_6 c8_7 c8_8 c8_9 l8_0 l8_1 l8_2 l8_3
        refine (age_any l true _ _ A B n c m d v _ HL.lsa (by omega) (by omega)).mono ?_
        rw [HP1.out, HPX.out]
        rintro e w11 ⟨E7, F7, j7, b7, s7, t7, rfl, ht, hj7, hs7, hb⟩
        have Z11 := Lib.hid hb.size
        have Y10 := Lib.hid (And.intro Y9.out Z11.out); clear Y9 Z11
        replace HD := HD.below hb
        replace HL := HL.below hb
        replace HX1 := HX1.below hb
        replace HO0 := HO0.below hb
        replace HX2 := HX2.below hb
        replace HK := HK.below hb
        replace HX3 := HX3.below hb
        replace HO1 := HO1.below hb
        replace HX4 := HX4.below hb
        replace HB := Lib.hid (below_step HB.out hb)
        clear hb
        have HO7 := ht.kept; clear ht
        have l9_0 := HX1.bx.lt
        have l9_1 := HX2.bx.lt
        have l9_2 := HX3.bx.lt
        have l9_3 := HX4.bx.lt
        go_wp2_with fail
        clear l9_0 l9_1 l9_2 l9_3
        refine Calls.name ?_
        intro U12 hU12
        have hb : Below w11.heap.size w11 U12 := by rw [hU12]; exact ((Below.refl _ _).alloc (Nat.le_refl _) _)
        have zz : Hid (w11.heap.size + 1 = U12.heap.size) := Lib.hid (by rw [hU12]; simp)
        have HX5 : Kept w11.heap.size (w11.heap.size + 1) (BoxK w11.heap.size 36 #[.int .i64 0, .int .i64 x1.age, .int .i64 x1.options, .int .i64 x1.typ, .int .i64 x1.id, .int .i64 x1.adv, .int .i64 x1.seq, .slice E7 j7 b7, .slice F7 s7 t7, .int .i64 x1.mask, .int .i64 x1.cost]) U12 := by rw [hU12]; exact Kept.box (Box.made_at _ _ _ rfl)
        replace HD := HD.below hb
        replace HL := HL.below hb
        replace HX1 := HX1.below hb
        replace HO0 := HO0.below hb
        replace HX2 := HX2.below hb
        replace HK := HK.below hb
        replace HX3 := HX3.below hb
        replace HO1 := HO1.below hb
        replace HX4 := HX4.below hb
        replace HO7 := HO7.below hb
        replace HB := Lib.hid (below_step HB.out hb)
        clear hb
        have Z12 := zz; clear zz
        have Y11 := Lib.hid (And.intro Y10.out Z12.out); clear Y10 Z12
        clear hU12
        refine (age_any x1 true _ _ E7 F7 j7 b7 s7 t7 (t - v) _ HO7.two.at_ hj7 hs7).mono ?_
        rw [HP2.out, HP3.out]
        rintro e w13 ⟨E8, F8, j8, b8, s8, t8, rfl, ht, hj8, hs8, hb⟩
        have Z13 := Lib.hid hb.size
        have Y12 := Lib.hid (And.intro Y11.out Z13.out); clear Y11 Z13
        replace HD := HD.below hb
        replace HL := HL.below hb
        replace HX1 := HX1.below hb
        replace HO0 := HO0.below hb
        replace HX2 := HX2.below hb
        replace HK := HK.below hb
        replace HX3 := HX3.below hb
        replace HO1 := HO1.below hb
        replace HX4 := HX4.below hb
        replace HO7 := HO7.below hb
        replace HX5 := HX5.below hb
        replace HB := Lib.hid (below_step HB.out hb)
        clear hb
        have HO8 := ht.kept; clear ht
        have c10_0 := HX2.look 1
        have c10_1 := HX2.look 2
        have c10_2 := HX2.look 3
        have c10_3 := HX2.look 4
        have c10_4 := HX2.look 5
        have c10_5 := HX2.look 6
        have c10_6 := HX2.look 7
        have c10_7 := HX2.look 8
        have c10_8 := HX2.look 9
        have c10_9 := HX2.look 10
        have c10_10 := HX5.look 0
        have l10_0 := HX1.bx.lt
        have l10_1 := HX2.bx.lt
        have l10_2 := HX3.bx.lt
        have l10_3 := HX4.bx.lt
        have l10_4 := HX5.bx.lt
        go_wp2_with fail
        clear c10_0 c10_1 c10_2 c10_3 c10_4 c10_5 c10_6 c10_7 c10_8 c10_9 c10_10 l10_0 l10_1 l10_2 l10_3 l10_4
        refine Calls.name ?_
        intro U14 hU14
        have hb : Below w13.heap.size w13 U14 := by rw [hU14]; exact ((Below.refl _ _).alloc (Nat.le_refl _) _)
        have zz : Hid (w13.heap.size + 1 = U14.heap.size) := Lib.hid (by rw [hU14]; simp)
        have HX6 : Kept w13.heap.size (w13.heap.size + 1) (BoxK w13.heap.size 36 #[.int .i64 0, .int .i64 x.age, .int .i64 x.options, .int .i64 x.typ, .int .i64 x.id, .int .i64 x.adv, .int .i64 x.seq, .slice E8 j8 b8, .slice F8 s8 t8, .int .i64 x.mask, .int .i64 x.cost]) U14 := by rw [hU14]; exact Kept.box (Box.made_at _ _ _ rfl)
        replace HD := HD.below hb
        replace HL := HL.below hb
        replace HX1 := HX1.below hb
        replace HO0 := HO0.below hb
        replace HX2 := HX2.below hb
        replace HK := HK.below hb
        replace HX3 := HX3.below hb
        replace HO1 := HO1.below hb
        replace HX4 := HX4.below hb
        replace HO7 := HO7.below hb
        replace HX5 := HX5.below hb
        replace HO8 := HO8.below hb
        replace HB := Lib.hid (below_step HB.out hb)
        clear hb
        have Z14 := zz; clear zz
        have Y13 := Lib.hid (And.intro Y12.out Z14.out); clear Y12 Z14
        clear hU14
        refine (sameLsas_self x true true _ _ _ _ E8 F8 E0 F0 j8 b8 s8 t8 j0 b0 s0 t0 _ HO8.two.at_ HO0.two.at_ hj8 hs8 hj0 hs0).mono ?_
        rintro e w15 ⟨rfl, hb⟩
        have Z15 := Lib.hid hb.size
        have Y14 := Lib.hid (And.intro Y13.out Z15.out); clear Y13 Z15
        replace HD := HD.below hb
        replace HL := HL.below hb
        replace HX1 := HX1.below hb
        replace HO0 := HO0.below hb
        replace HX2 := HX2.below hb
        replace HK := HK.below hb
        replace HX3 := HX3.below hb
        replace HO1 := HO1.below hb
        replace HX4 := HX4.below hb
        replace HO7 := HO7.below hb
        replace HX5 := HX5.below hb
        replace HO8 := HO8.below hb
        replace HX6 := HX6.below hb
        replace HB := Lib.hid (below_step HB.out hb)
        clear hb
        have c11_0 := HX2.look 1
        have c11_1 := HX2.look 2
        have c11_2 := HX2.look 3
        have c11_3 := HX2.look 4
        have c11_4 := HX2.look 5
        have c11_5 := HX2.look 6
        have c11_6 := HX2.look 7
        have c11_7 := HX2.look 8
        have c11_8 := HX2.look 9
        have c11_9 := HX2.look 10
        have l11_0 := HX1.bx.lt
        have l11_1 := HX2.bx.lt
        have l11_2 := HX3.bx.lt
        have l11_3 := HX4.bx.lt
        have l11_4 := HX5.bx.lt
        have l11_5 := HX6.bx.lt
        go_wp2_with fail
        clear c11_0 c11_1 c11_2 c11_3 c11_4 c11_5 c11_6 c11_7 c11_8 c11_9 l11_0 l11_1 l11_2 l11_3 l11_4 l11_5
        refine (lsaFault_any x true _ _ E0 F0 j0 b0 s0 t0 _ HO0.two.at_ hj0 hs0).mono ?_
        rw [HFX.out]
        rintro e w16 ⟨rfl, hb⟩
        have Z16 := Lib.hid hb.size
        have Y15 := Lib.hid (And.intro Y14.out Z16.out); clear Y14 Z16
        replace HD := HD.below hb
        replace HL := HL.below hb
        replace HX1 := HX1.below hb
        replace HO0 := HO0.below hb
        replace HX2 := HX2.below hb
        replace HK := HK.below hb
        replace HX3 := HX3.below hb
        replace HO1 := HO1.below hb
        replace HX4 := HX4.below hb
        replace HO7 := HO7.below hb
        replace HX5 := HX5.below hb
        replace HO8 := HO8.below hb
        replace HX6 := HX6.below hb
        replace HB := Lib.hid (below_step HB.out hb)
        clear hb
        have c12_0 := HX1.look 0
        have c12_1 := HX2.look 1
        have l12_0 := HX1.bx.lt
        have l12_1 := HX2.bx.lt
        have l12_2 := HX3.bx.lt
        have l12_3 := HX4.bx.lt
        have l12_4 := HX5.bx.lt
        have l12_5 := HX6.bx.lt
        go_wp2
        clear c12_0 c12_1 l12_0 l12_1 l12_2 l12_3 l12_4 l12_5
        go_ret
        exact ⟨rfl, HB.out⟩
    · have hr1 : (r != 0) = true := by rw [bne_iff_ne]; exact hr0
      have c7_0 := HX2.look 0
      have c7_1 := HX4.look 0
      have c7_2 := HX4.look 1
      have l7_0 := HX1.bx.lt
      have l7_1 := HX2.bx.lt
      have l7_2 := HX3.bx.lt
      have l7_3 := HX4.bx.lt
      go_wp2
      clear c7_0 c7_1 c7_2 l7_0 l7_1 l7_2 l7_3
      go_ret
      exact ⟨rfl, HB.out⟩
  · have hf1 : (fr == 0) = false := by rw [beq_eq_false_iff_ne]; exact hf
    clear hf
    by_cases hr0 : r = 0
    · have hr1 : (r != 0) = false := by rw [hr0]; rfl
      have hAF := age_fault l t (HRr.out.trans hr0)
      rw [HRx.out] at hAF
      obtain ⟨_, hq1, hq2, hq3⟩ := hAF
      have HFX := Lib.hid hq2; clear hq2
      have HR0 := Lib.hid (HRr.out.trans hr0); clear hr0
      have c7_0 := HX2.look 0
      have c7_1 := HX4.look 0
      have l7_0 := HX1.bx.lt
      have l7_1 := HX2.bx.lt
      have l7_2 := HX3.bx.lt
      have l7_3 := HX4.bx.lt
      go_wp2_with fail
      clear c7_0 c7_1 l7_0 l7_1 l7_2 l7_3
      refine (lwAt_b A0 n0 c0 cs 100 _ HD.out HBY.out hn (by omega) (by omega)).mono ?_
      rintro e w10 ⟨v, rfl, hv0, hv1, hb⟩
      have Z10 := Lib.hid hb.size
      have Y9 := Lib.hid (And.intro Y8.out Z10.out); clear Y8 Z10
      replace HD := HD.below hb
      replace HL := HL.below hb
      replace HX1 := HX1.below hb
      replace HO0 := HO0.below hb
      replace HX2 := HX2.below hb
      replace HK := HK.below hb
      replace HX3 := HX3.below hb
      replace HO1 := HO1.below hb
      replace HX4 := HX4.below hb
      replace HB := Lib.hid (below_step HB.out hb)
      clear hb
      clear hr1
      by_cases hvt : t < v
      · have hAP := age_parts l t t HR0.out (by omega) (by omega)
        rw [Int.sub_self] at hAP
        rw [HRx.out] at hAP
        obtain ⟨hp1, hp2, hp3⟩ := hAP
        obtain ⟨x1, hx1⟩ : ∃ z, ageM l t = z := ⟨_, rfl⟩
        have hx2 : x = x1 := HRx.out.symm.trans hx1
        rw [hx2] at hp2 hp3
        have HP1 := Lib.hid hp1; have HP2 := Lib.hid hp2; have HP3 := Lib.hid (hp3.trans hx2.symm); have HPX := Lib.hid hx1; clear hp1 hp2 hp3 hx1 hx2
        have c8_0 := HX1.look 0
        have c8_1 := HX1.look 1
        have c8_2 := HX1.look 2
        have c8_3 := HX1.look 3
        have c8_4 := HX1.look 4
        have c8_5 := HX1.look 5
        have c8_6 := HX1.look 6
        have c8_7 := HX1.look 7
        have c8_8 := HX1.look 8
        have c8_9 := HX1.look 9
        have l8_0 := HX1.bx.lt
        have l8_1 := HX2.bx.lt
        have l8_2 := HX3.bx.lt
        have l8_3 := HX4.bx.lt
        go_wp2_with fail
        clear c8_0 c8_1 c8_2 c8_3 c8_4 c8_5 c8_6 c8_7 c8_8 c8_9 l8_0 l8_1 l8_2 l8_3
        refine (age_any l true _ _ A B n c m d t _ HL.lsa (by omega) (by omega)).mono ?_
        rw [HP1.out, HPX.out]
        rintro e w11 ⟨E7, F7, j7, b7, s7, t7, rfl, ht, hj7, hs7, hb⟩
        have Z11 := Lib.hid hb.size
        have Y10 := Lib.hid (And.intro Y9.out Z11.out); clear Y9 Z11
        replace HD := HD.below hb
        replace HL := HL.below hb
        replace HX1 := HX1.below hb
        replace HO0 := HO0.below hb
        replace HX2 := HX2.below hb
        replace HK := HK.below hb
        replace HX3 := HX3.below hb
        replace HO1 := HO1.below hb
        replace HX4 := HX4.below hb
        replace HB := Lib.hid (below_step HB.out hb)
        clear hb
        have HO7 := ht.kept; clear ht
        skip
        have l9_0 := HX1.bx.lt
        have l9_1 := HX2.bx.lt
        have l9_2 := HX3.bx.lt
        have l9_3 := HX4.bx.lt
        go_wp2_with fail
        clear l9_0 l9_1 l9_2 l9_3
        refine Calls.name ?_
        intro U12 hU12
        have hb : Below w11.heap.size w11 U12 := by rw [hU12]; exact ((Below.refl _ _).alloc (Nat.le_refl _) _)
        have zz : Hid (w11.heap.size + 1 = U12.heap.size) := Lib.hid (by rw [hU12]; simp)
        have HX5 : Kept w11.heap.size (w11.heap.size + 1) (BoxK w11.heap.size 36 #[.int .i64 0, .int .i64 x1.age, .int .i64 x1.options, .int .i64 x1.typ, .int .i64 x1.id, .int .i64 x1.adv, .int .i64 x1.seq, .slice E7 j7 b7, .slice F7 s7 t7, .int .i64 x1.mask, .int .i64 x1.cost]) U12 := by rw [hU12]; exact Kept.box (Box.made_at _ _ _ rfl)
        replace HD := HD.below hb
        replace HL := HL.below hb
        replace HX1 := HX1.below hb
        replace HO0 := HO0.below hb
        replace HX2 := HX2.below hb
        replace HK := HK.below hb
        replace HX3 := HX3.below hb
        replace HO1 := HO1.below hb
        replace HX4 := HX4.below hb
        replace HO7 := HO7.below hb
        replace HB := Lib.hid (below_step HB.out hb)
        clear hb
        have Z12 := zz; clear zz
        have Y11 := Lib.hid (And.intro Y10.out Z12.out); clear Y10 Z12
        clear hU12
        refine (age_any x1 true _ _ E7 F7 j7 b7 s7 t7 (0) _ HO7.two.at_ hj7 hs7).mono ?_
        rw [HP2.out, HP3.out]
        rintro e w13 ⟨E8, F8, j8, b8, s8, t8, rfl, ht, hj8, hs8, hb⟩
        have Z13 := Lib.hid hb.size
        have Y12 := Lib.hid (And.intro Y11.out Z13.out); clear Y11 Z13
        replace HD := HD.below hb
        replace HL := HL.below hb
        replace HX1 := HX1.below hb
        replace HO0 := HO0.below hb
        replace HX2 := HX2.below hb
        replace HK := HK.below hb
        replace HX3 := HX3.below hb
        replace HO1 := HO1.below hb
        replace HX4 := HX4.below hb
        replace HO7 := HO7.below hb
        replace HX5 := HX5.below hb
        replace HB := Lib.hid (below_step HB.out hb)
        clear hb
        have HO8 := ht.kept; clear ht
        have c10_0 := HX2.look 1
        have c10_1 := HX2.look 2
        have c10_2 := HX2.look 3
        have c10_3 := HX2.look 4
        have c10_4 := HX2.look 5
        have c10_5 := HX2.look 6
        have c10_6 := HX2.look 7
        have c10_7 := HX2.look 8
        have c10_8 := HX2.look 9
        have c10_9 := HX2.look 10
        have c10_10 := HX5.look 0
        have l10_0 := HX1.bx.lt
        have l10_1 := HX2.bx.lt
        have l10_2 := HX3.bx.lt
        have l10_3 := HX4.bx.lt
        have l10_4 := HX5.bx.lt
        go_wp2_with fail
        clear c10_0 c10_1 c10_2 c10_3 c10_4 c10_5 c10_6 c10_7 c10_8 c10_9 c10_10 l10_0 l10_1 l10_2 l10_3 l10_4
        refine Calls.name ?_
        intro U14 hU14
        have hb : Below w13.heap.size w13 U14 := by rw [hU14]; exact ((Below.refl _ _).alloc (Nat.le_refl _) _)
        have zz : Hid (w13.heap.size + 1 = U14.heap.size) := Lib.hid (by rw [hU14]; simp)
        have HX6 : Kept w13.heap.size (w13.heap.size + 1) (BoxK w13.heap.size 36 #[.int .i64 0, .int .i64 x.age, .int .i64 x.options, .int .i64 x.typ, .int .i64 x.id, .int .i64 x.adv, .int .i64 x.seq, .slice E8 j8 b8, .slice F8 s8 t8, .int .i64 x.mask, .int .i64 x.cost]) U14 := by rw [hU14]; exact Kept.box (Box.made_at _ _ _ rfl)
        replace HD := HD.below hb
        replace HL := HL.below hb
        replace HX1 := HX1.below hb
        replace HO0 := HO0.below hb
        replace HX2 := HX2.below hb
        replace HK := HK.below hb
        replace HX3 := HX3.below hb
        replace HO1 := HO1.below hb
        replace HX4 := HX4.below hb
        replace HO7 := HO7.below hb
        replace HX5 := HX5.below hb
        replace HO8 := HO8.below hb
        replace HB := Lib.hid (below_step HB.out hb)
        clear hb
        have Z14 := zz; clear zz
        have Y13 := Lib.hid (And.intro Y12.out Z14.out); clear Y12 Z14
        clear hU14
        refine (sameLsas_self x true true _ _ _ _ E8 F8 E0 F0 j8 b8 s8 t8 j0 b0 s0 t0 _ HO8.two.at_ HO0.two.at_ hj8 hs8 hj0 hs0).mono ?_
        rintro e w15 ⟨rfl, hb⟩
        have Z15 := Lib.hid hb.size
        have Y14 := Lib.hid (And.intro Y13.out Z15.out); clear Y13 Z15
        replace HD := HD.below hb
        replace HL := HL.below hb
        replace HX1 := HX1.below hb
        replace HO0 := HO0.below hb
        replace HX2 := HX2.below hb
        replace HK := HK.below hb
        replace HX3 := HX3.below hb
        replace HO1 := HO1.below hb
        replace HX4 := HX4.below hb
        replace HO7 := HO7.below hb
        replace HX5 := HX5.below hb
        replace HO8 := HO8.below hb
        replace HX6 := HX6.below hb
        replace HB := Lib.hid (below_step HB.out hb)
        clear hb
        have c11_0 := HX2.look 1
        have c11_1 := HX2.look 2
        have c11_2 := HX2.look 3
        have c11_3 := HX2.look 4
        have c11_4 := HX2.look 5
        have c11_5 := HX2.look 6
        have c11_6 := HX2.look 7
        have c11_7 := HX2.look 8
        have c11_8 := HX2.look 9
        have c11_9 := HX2.look 10
        have l11_0 := HX1.bx.lt
        have l11_1 := HX2.bx.lt
        have l11_2 := HX3.bx.lt
        have l11_3 := HX4.bx.lt
        have l11_4 := HX5.bx.lt
        have l11_5 := HX6.bx.lt
        go_wp2_with fail
        clear c11_0 c11_1 c11_2 c11_3 c11_4 c11_5 c11_6 c11_7 c11_8 c11_9 l11_0 l11_1 l11_2 l11_3 l11_4 l11_5
        refine (lsaFault_any x true _ _ E0 F0 j0 b0 s0 t0 _ HO0.two.at_ hj0 hs0).mono ?_
        rw [HFX.out]
        rintro e w16 ⟨rfl, hb⟩
        have Z16 := Lib.hid hb.size
        have Y15 := Lib.hid (And.intro Y14.out Z16.out); clear Y14 Z16
        replace HD := HD.below hb
        replace HL := HL.below hb
        replace HX1 := HX1.below hb
        replace HO0 := HO0.below hb
        replace HX2 := HX2.below hb
        replace HK := HK.below hb
        replace HX3 := HX3.below hb
        replace HO1 := HO1.below hb
        replace HX4 := HX4.below hb
        replace HO7 := HO7.below hb
        replace HX5 := HX5.below hb
        replace HO8 := HO8.below hb
        replace HX6 := HX6.below hb
        replace HB := Lib.hid (below_step HB.out hb)
        clear hb
        have c12_0 := HX1.look 0
        have c12_1 := HX2.look 1
        have l12_0 := HX1.bx.lt
        have l12_1 := HX2.bx.lt
        have l12_2 := HX3.bx.lt
        have l12_3 := HX4.bx.lt
        have l12_4 := HX5.bx.lt
        have l12_5 := HX6.bx.lt
        go_wp2
        clear c12_0 c12_1 l12_0 l12_1 l12_2 l12_3 l12_4 l12_5
        go_ret
        exact ⟨rfl, HB.out⟩
      · have hAP := age_parts l t v HR0.out (by omega) (by omega)
        rw [HRx.out] at hAP
        obtain ⟨hp1, hp2, hp3⟩ := hAP
        obtain ⟨x1, hx1⟩ : ∃ z, ageM l v = z := ⟨_, rfl⟩
        rw [hx1] at hp2 hp3
        have HP1 := Lib.hid hp1; have HP2 := Lib.hid hp2; have HP3 := Lib.hid hp3; have HPX := Lib.hid hx1; clear hp1 hp2 hp3 hx1
        have c8_0 := HX1.look 0
        have c8_1 := HX1.look 1
        have c8_2 := HX1.look 2
        have c8_3 := HX1.look 3
        have c8_4 := HX1.look 4
        have c8_5 := HX1.look 5
        have c8_6 := HX1.look 6
        have c8_7 := HX1.look 7
        have c8_8 := HX1.look 8
        have c8_9 := HX1.look 9
        have l8_0 := HX1.bx.lt
        have l8_1 := HX2.bx.lt
        have l8_2 := HX3.bx.lt
        have l8_3 := HX4.bx.lt
        go_wp2_with fail
        clear c8_0 c8_1 c8_2 c8_3 c8_4 c8_5 c8_6 c8_7 c8_8 c8_9 l8_0 l8_1 l8_2 l8_3
        refine (age_any l true _ _ A B n c m d v _ HL.lsa (by omega) (by omega)).mono ?_
        rw [HP1.out, HPX.out]
        rintro e w11 ⟨E7, F7, j7, b7, s7, t7, rfl, ht, hj7, hs7, hb⟩
        have Z11 := Lib.hid hb.size
        have Y10 := Lib.hid (And.intro Y9.out Z11.out); clear Y9 Z11
        replace HD := HD.below hb
        replace HL := HL.below hb
        replace HX1 := HX1.below hb
        replace HO0 := HO0.below hb
        replace HX2 := HX2.below hb
        replace HK := HK.below hb
        replace HX3 := HX3.below hb
        replace HO1 := HO1.below hb
        replace HX4 := HX4.below hb
        replace HB := Lib.hid (below_step HB.out hb)
        clear hb
        have HO7 := ht.kept; clear ht
        have l9_0 := HX1.bx.lt
        have l9_1 := HX2.bx.lt
        have l9_2 := HX3.bx.lt
        have l9_3 := HX4.bx.lt
        go_wp2_with fail
        clear l9_0 l9_1 l9_2 l9_3
        refine Calls.name ?_
        intro U12 hU12
        have hb : Below w11.heap.size w11 U12 := by rw [hU12]; exact ((Below.refl _ _).alloc (Nat.le_refl _) _)
        have zz : Hid (w11.heap.size + 1 = U12.heap.size) := Lib.hid (by rw [hU12]; simp)
        have HX5 : Kept w11.heap.size (w11.heap.size + 1) (BoxK w11.heap.size 36 #[.int .i64 0, .int .i64 x1.age, .int .i64 x1.options, .int .i64 x1.typ, .int .i64 x1.id, .int .i64 x1.adv, .int .i64 x1.seq, .slice E7 j7 b7, .slice F7 s7 t7, .int .i64 x1.mask, .int .i64 x1.cost]) U12 := by rw [hU12]; exact Kept.box (Box.made_at _ _ _ rfl)
        replace HD := HD.below hb
        replace HL := HL.below hb
        replace HX1 := HX1.below hb
        replace HO0 := HO0.below hb
        replace HX2 := HX2.below hb
        replace HK := HK.below hb
        replace HX3 := HX3.below hb
        replace HO1 := HO1.below hb
        replace HX4 := HX4.below hb
        replace HO7 := HO7.below hb
        replace HB := Lib.hid (below_step HB.out hb)
        clear hb
        have Z12 := zz; clear zz
        have Y11 := Lib.hid (And.intro Y10.out Z12.out); clear Y10 Z12
        clear hU12
        refine (age_any x1 true _ _ E7 F7 j7 b7 s7 t7 (t - v) _ HO7.two.at_ hj7 hs7).mono ?_
        rw [HP2.out, HP3.out]
        rintro e w13 ⟨E8, F8, j8, b8, s8, t8, rfl, ht, hj8, hs8, hb⟩
        have Z13 := Lib.hid hb.size
        have Y12 := Lib.hid (And.intro Y11.out Z13.out); clear Y11 Z13
        replace HD := HD.below hb
        replace HL := HL.below hb
        replace HX1 := HX1.below hb
        replace HO0 := HO0.below hb
        replace HX2 := HX2.below hb
        replace HK := HK.below hb
        replace HX3 := HX3.below hb
        replace HO1 := HO1.below hb
        replace HX4 := HX4.below hb
        replace HO7 := HO7.below hb
        replace HX5 := HX5.below hb
        replace HB := Lib.hid (below_step HB.out hb)
        clear hb
        have HO8 := ht.kept; clear ht
        have c10_0 := HX2.look 1
        have c10_1 := HX2.look 2
        have c10_2 := HX2.look 3
        have c10_3 := HX2.look 4
        have c10_4 := HX2.look 5
        have c10_5 := HX2.look 6
        have c10_6 := HX2.look 7
        have c10_7 := HX2.look 8
        have c10_8 := HX2.look 9
        have c10_9 := HX2.look 10
        have c10_10 := HX5.look 0
        have l10_0 := HX1.bx.lt
        have l10_1 := HX2.bx.lt
        have l10_2 := HX3.bx.lt
        have l10_3 := HX4.bx.lt
        have l10_4 := HX5.bx.lt
        go_wp2_with fail
        clear c10_0 c10_1 c10_2 c10_3 c10_4 c10_5 c10_6 c10_7 c10_8 c10_9 c10_10 l10_0 l10_1 l10_2 l10_3 l10_4
        refine Calls.name ?_
        intro U14 hU14
        have hb : Below w13.heap.size w13 U14 := by rw [hU14]; exact ((Below.refl _ _).alloc (Nat.le_refl _) _)
        have zz : Hid (w13.heap.size + 1 = U14.heap.size) := Lib.hid (by rw [hU14]; simp)
        have HX6 : Kept w13.heap.size (w13.heap.size + 1) (BoxK w13.heap.size 36 #[.int .i64 0, .int .i64 x.age, .int .i64 x.options, .int .i64 x.typ, .int .i64 x.id, .int .i64 x.adv, .int .i64 x.seq, .slice E8 j8 b8, .slice F8 s8 t8, .int .i64 x.mask, .int .i64 x.cost]) U14 := by rw [hU14]; exact Kept.box (Box.made_at _ _ _ rfl)
        replace HD := HD.below hb
        replace HL := HL.below hb
        replace HX1 := HX1.below hb
        replace HO0 := HO0.below hb
        replace HX2 := HX2.below hb
        replace HK := HK.below hb
        replace HX3 := HX3.below hb
        replace HO1 := HO1.below hb
        replace HX4 := HX4.below hb
        replace HO7 := HO7.below hb
        replace HX5 := HX5.below hb
        replace HO8 := HO8.below hb
        replace HB := Lib.hid (below_step HB.out hb)
        clear hb
        have Z14 := zz; clear zz
        have Y13 := Lib.hid (And.intro Y12.out Z14.out); clear Y12 Z14
        clear hU14
        refine (sameLsas_self x true true _ _ _ _ E8 F8 E0 F0 j8 b8 s8 t8 j0 b0 s0 t0 _ HO8.two.at_ HO0.two.at_ hj8 hs8 hj0 hs0).mono ?_
        rintro e w15 ⟨rfl, hb⟩
        have Z15 := Lib.hid hb.size
        have Y14 := Lib.hid (And.intro Y13.out Z15.out); clear Y13 Z15
        replace HD := HD.below hb
        replace HL := HL.below hb
        replace HX1 := HX1.below hb
        replace HO0 := HO0.below hb
        replace HX2 := HX2.below hb
        replace HK := HK.below hb
        replace HX3 := HX3.below hb
        replace HO1 := HO1.below hb
        replace HX4 := HX4.below hb
        replace HO7 := HO7.below hb
        replace HX5 := HX5.below hb
        replace HO8 := HO8.below hb
        replace HX6 := HX6.below hb
        replace HB := Lib.hid (below_step HB.out hb)
        clear hb
        have c11_0 := HX2.look 1
        have c11_1 := HX2.look 2
        have c11_2 := HX2.look 3
        have c11_3 := HX2.look 4
        have c11_4 := HX2.look 5
        have c11_5 := HX2.look 6
        have c11_6 := HX2.look 7
        have c11_7 := HX2.look 8
        have c11_8 := HX2.look 9
        have c11_9 := HX2.look 10
        have l11_0 := HX1.bx.lt
        have l11_1 := HX2.bx.lt
        have l11_2 := HX3.bx.lt
        have l11_3 := HX4.bx.lt
        have l11_4 := HX5.bx.lt
        have l11_5 := HX6.bx.lt
        go_wp2_with fail
        clear c11_0 c11_1 c11_2 c11_3 c11_4 c11_5 c11_6 c11_7 c11_8 c11_9 l11_0 l11_1 l11_2 l11_3 l11_4 l11_5
        refine (lsaFault_any x true _ _ E0 F0 j0 b0 s0 t0 _ HO0.two.at_ hj0 hs0).mono ?_
        rw [HFX.out]
        rintro e w16 ⟨rfl, hb⟩
        have Z16 := Lib.hid hb.size
        have Y15 := Lib.hid (And.intro Y14.out Z16.out); clear Y14 Z16
        replace HD := HD.below hb
        replace HL := HL.below hb
        replace HX1 := HX1.below hb
        replace HO0 := HO0.below hb
        replace HX2 := HX2.below hb
        replace HK := HK.below hb
        replace HX3 := HX3.below hb
        replace HO1 := HO1.below hb
        replace HX4 := HX4.below hb
        replace HO7 := HO7.below hb
        replace HX5 := HX5.below hb
        replace HO8 := HO8.below hb
        replace HX6 := HX6.below hb
        replace HB := Lib.hid (below_step HB.out hb)
        clear hb
        have c12_0 := HX1.look 0
        have c12_1 := HX2.look 1
        have l12_0 := HX1.bx.lt
        have l12_1 := HX2.bx.lt
        have l12_2 := HX3.bx.lt
        have l12_3 := HX4.bx.lt
        have l12_4 := HX5.bx.lt
        have l12_5 := HX6.bx.lt
        go_wp2
        clear c12_0 c12_1 l12_0 l12_1 l12_2 l12_3 l12_4 l12_5
        go_ret
        exact ⟨rfl, HB.out⟩
    · have hr1 : (r != 0) = true := by rw [bne_iff_ne]; exact hr0
      have c7_0 := HX2.look 0
      have c7_1 := HX4.look 0
      have l7_0 := HX1.bx.lt
      have l7_1 := HX2.bx.lt
      have l7_2 := HX3.bx.lt
      have l7_3 := HX4.bx.lt
      go_wp2
      clear c7_0 c7_1 l7_0 l7_1 l7_2 l7_3
      go_ret
      exact ⟨rfl, HB.out⟩


end Go.Proofs.Ytamclkjofojhmaa
