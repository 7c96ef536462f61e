/-
  eqEntry, eqEntryS, eqBase: like ones are found alike. No statement is proved here.
-/
import Derived.Test.YtiffhjofabaflaaEntSz
namespace Go.Proofs.Ytiffhjofabaflaa
open Go.RowKit
set_option linter.unusedVariables false

set_option maxRecDepth 100000 in
set_option maxHeartbeats 1600000 in
theorem eqEntry_yes (l : LsaM) (q1 q2 : Bool) (l1 h1 l2 h2 : Nat) (A B A2 B2 : Option Addr) (n c m d c2 d2 : Nat) (t : Int) (w : World) (hl : LsaAt q1 l1 h1 w A n B m l) (hk : LsaAt q2 l2 h2 w A2 n B2 m l) (hn : n ≤ 1048576) (hm : m ≤ 1048576) :
    Calls Try.prog 241 #[.agg (entCells l t A B n c m d), .agg (entCells l t A2 B2 n c2 m d2)] w fun e w' => e = .returned (.bool true) ∧ Below w.heap.size w w' := by
  have HB := Lib.hid (Below.refl w.heap.size w)
  have HL := hl.kept
  have HK := hk.kept
  have Z0 := Lib.hid hl.le
  have Z00 := Lib.hid hk.le
  clear hl hk
  go_enter Try.func241, Try.ntmps241
  go_wp2_with fail
  refine Calls.name ?_
  intro U1 hU1
  have hb : Below w.heap.size w U1 := by rw [hU1]; exact (((Below.refl _ _).alloc (Nat.le_refl _) _).alloc (by simp <;> omega) _)
  have zz : Hid (w.heap.size + 2 = U1.heap.size) := Lib.hid (by rw [hU1]; simp)
  have HX1 : Kept w.heap.size (w.heap.size + 1) (BoxK w.heap.size 280 #[.int .i64 l.age, .int .i64 l.options, .int .i64 l.typ, .int .i64 l.id, .int .i64 l.adv, .int .i64 l.seq, .slice A n c, .slice B m d, .int .i64 l.mask, .int .i64 l.cost, .int .i64 t]) U1 := by rw [hU1]; exact Kept.box ((Box.made_at _ _ _ rfl).over _)
  have HX2 : Kept (w.heap.size + 1) (w.heap.size + 1 + 1) (BoxK (w.heap.size + 1) 280 #[.int .i64 l.age, .int .i64 l.options, .int .i64 l.typ, .int .i64 l.id, .int .i64 l.adv, .int .i64 l.seq, .slice A2 n c2, .slice B2 m d2, .int .i64 l.mask, .int .i64 l.cost, .int .i64 t]) U1 := by rw [hU1]; exact Kept.box (Box.made_at _ _ _ (by simp <;> omega))
  replace HL := HL.below hb
  replace HK := HK.below hb
  replace HB := Lib.hid (below_step HB.out hb)
  clear hb
  have Z1 := zz; clear zz
  clear hU1
  refine (eqLsa_at l q1 q2 l1 h1 l2 h2 A B A2 B2 n c m d c2 d2 _ HL.lsa HK.lsa hn hm).mono ?_
  rintro e w2 ⟨rfl, hb⟩
  have Z2 := Lib.hid hb.size
  replace HL := HL.below hb
  replace HK := HK.below hb
  replace HX1 := HX1.below hb
  replace HX2 := HX2.below hb
  replace HB := Lib.hid (below_step HB.out hb)
  clear hb
  have c2_0 := HX1.look 10
  have c2_1 := HX2.look 10
  have l2_0 := HX1.bx.lt
  have l2_1 := HX2.bx.lt
  go_wp2
  clear c2_0 c2_1 l2_0 l2_1
  go_ret
  exact ⟨rfl, HB.out⟩

set_option maxRecDepth 100000 in
set_option maxHeartbeats 3200000 in
theorem eqEntryS_yes (q1 q2 : Bool) (l1 h1 l2 h2 : Nat) (A B : Option Addr) (n c d : Nat) (ys : List Ent) (w : World) (ha : Rep.ent.Sl q1 l1 h1 w A n ys) (hb : Rep.ent.Sl q2 l2 h2 w B n ys) (hh1 : h1 ≤ w.heap.size) (hh2 : h2 ≤ w.heap.size) (hn : n ≤ 1048576) (hm : ∀ y ∈ ys, y.l.links.length ≤ 1048576 ∧ y.l.routers.length ≤ 1048576) :
    Calls Try.prog 219 #[.slice A n c, .slice B n d] w fun e w' => e = .returned (.bool true) ∧ Below w.heap.size w w' := by
  have HM := Lib.hid hm
  clear hm
  go_enter Try.func219, Try.ntmps219
  go_wp2
  go_loopw [5] (fun i wr => ∃ k : Nat, k ≤ n ∧ i = .int .i64 k ∧ Hid (Below w.heap.size w wr)) (fun i _ => n - (intOf i).toNat)
  case atStart => exact ⟨0, Nat.zero_le _, rfl, Below.refl _ _⟩
  case round =>
    obtain ⟨k, hk, rfl, HB⟩ := hrel
    by_cases hlt : k < n
    · obtain ⟨b, o, y, E, F, m, c1, m', d1, rfl, hya, hyl, a0, a1, a2, a3, a4, a5, a6, a7, a8, a9, a10⟩ := Rep.ent_at (ha.below HB.out hh1) hlt
      obtain ⟨b2, o2, y2, E2, F2, m2, c2, m2', d2, rfl, hya2, hyl2, e0, e1, e2, e3, e4, e5, e6, e7, e8, e9, e10⟩ := Rep.ent_at (hb.below HB.out hh2) hlt
      obtain rfl : y2 = y := by rw [hya] at hya2; injection hya2 with e; exact e.symm
      obtain rfl : m2 = m := by rw [← hyl.links.1, ← hyl2.links.1]
      obtain rfl : m2' = m' := by rw [← hyl.routers.1, ← hyl2.routers.1]
      have hlt' : (k : Int) < n := by omega
      have hym := HM.out y2 (List.mem_of_getElem? hya)
      rw [show y2.l.links.length = m2 from hyl.links.1, show y2.l.routers.length = m2' from hyl.routers.1] at hym
      have HY1 := (show LsaAt q1 l1 h1 wr E m2 F m2' y2.l from ⟨hyl, Nat.le_trans hh1 HB.out.size⟩).kept
      have HY2 := (show LsaAt q2 l2 h2 wr E2 m2 F2 m2' y2.l from ⟨hyl2, Nat.le_trans hh2 HB.out.size⟩).kept
      clear hya hya2 hyl hyl2
      have SB : Hid (∀ W, Hid (Below wr.heap.size wr W) → (fun W => W.cell? ⟨b, o + k * 11, none⟩ = some (.int .i64 y2.l.age) ∧ W.cell? ⟨b, o + k * 11 + 1, none⟩ = some (.int .i64 y2.l.options) ∧ W.cell? ⟨b, o + k * 11 + 2, none⟩ = some (.int .i64 y2.l.typ) ∧ W.cell? ⟨b, o + k * 11 + 3, none⟩ = some (.int .i64 y2.l.id) ∧ W.cell? ⟨b, o + k * 11 + 4, none⟩ = some (.int .i64 y2.l.adv) ∧ W.cell? ⟨b, o + k * 11 + 5, none⟩ = some (.int .i64 y2.l.seq) ∧ W.cell? ⟨b, o + k * 11 + 6, none⟩ = some (.slice E m2 c1) ∧ W.cell? ⟨b, o + k * 11 + 7, none⟩ = some (.slice F m2' d1) ∧ W.cell? ⟨b, o + k * 11 + 8, none⟩ = some (.int .i64 y2.l.mask) ∧ W.cell? ⟨b, o + k * 11 + 9, none⟩ = some (.int .i64 y2.l.cost) ∧ W.cell? ⟨b, o + k * 11 + 10, none⟩ = some (.int .i64 y2.at_) ∧ W.cell? ⟨b2, o2 + k * 11, none⟩ = some (.int .i64 y2.l.age) ∧ W.cell? ⟨b2, o2 + k * 11 + 1, none⟩ = some (.int .i64 y2.l.options) ∧ W.cell? ⟨b2, o2 + k * 11 + 2, none⟩ = some (.int .i64 y2.l.typ) ∧ W.cell? ⟨b2, o2 + k * 11 + 3, none⟩ = some (.int .i64 y2.l.id) ∧ W.cell? ⟨b2, o2 + k * 11 + 4, none⟩ = some (.int .i64 y2.l.adv) ∧ W.cell? ⟨b2, o2 + k * 11 + 5, none⟩ = some (.int .i64 y2.l.seq) ∧ W.cell? ⟨b2, o2 + k * 11 + 6, none⟩ = some (.slice E2 m2 c2) ∧ W.cell? ⟨b2, o2 + k * 11 + 7, none⟩ = some (.slice F2 m2' d2) ∧ W.cell? ⟨b2, o2 + k * 11 + 8, none⟩ = some (.int .i64 y2.l.mask) ∧ W.cell? ⟨b2, o2 + k * 11 + 9, none⟩ = some (.int .i64 y2.l.cost) ∧ W.cell? ⟨b2, o2 + k * 11 + 10, none⟩ = some (.int .i64 y2.at_)) W) := fun W h => ⟨(h.out.cell (World.block_lt_of_cell? wr _ a0)).trans a0, (h.out.cell (World.block_lt_of_cell? wr _ a1)).trans a1, (h.out.cell (World.block_lt_of_cell? wr _ a2)).trans a2, (h.out.cell (World.block_lt_of_cell? wr _ a3)).trans a3, (h.out.cell (World.block_lt_of_cell? wr _ a4)).trans a4, (h.out.cell (World.block_lt_of_cell? wr _ a5)).trans a5, (h.out.cell (World.block_lt_of_cell? wr _ a6)).trans a6, (h.out.cell (World.block_lt_of_cell? wr _ a7)).trans a7, (h.out.cell (World.block_lt_of_cell? wr _ a8)).trans a8, (h.out.cell (World.block_lt_of_cell? wr _ a9)).trans a9, (h.out.cell (World.block_lt_of_cell? wr _ a10)).trans a10, (h.out.cell (World.block_lt_of_cell? wr _ e0)).trans e0, (h.out.cell (World.block_lt_of_cell? wr _ e1)).trans e1, (h.out.cell (World.block_lt_of_cell? wr _ e2)).trans e2, (h.out.cell (World.block_lt_of_cell? wr _ e3)).trans e3, (h.out.cell (World.block_lt_of_cell? wr _ e4)).trans e4, (h.out.cell (World.block_lt_of_cell? wr _ e5)).trans e5, (h.out.cell (World.block_lt_of_cell? wr _ e6)).trans e6, (h.out.cell (World.block_lt_of_cell? wr _ e7)).trans e7, (h.out.cell (World.block_lt_of_cell? wr _ e8)).trans e8, (h.out.cell (World.block_lt_of_cell? wr _ e9)).trans e9, (h.out.cell (World.block_lt_of_cell? wr _ e10)).trans e10⟩
      have V0 : Hid (Below wr.heap.size wr wr.drew) := (Below.refl _ _).drew
      clear a0 a1 a2 a3 a4 a5 a6 a7 a8 a9 a10 e0 e1 e2 e3 e4 e5 e6 e7 e8 e9 e10
      go_wp2
      go_region_held3 (fun W => W.cell? ⟨b, o + k * 11, none⟩ = some (.int .i64 y2.l.age) ∧ W.cell? ⟨b, o + k * 11 + 1, none⟩ = some (.int .i64 y2.l.options) ∧ W.cell? ⟨b, o + k * 11 + 2, none⟩ = some (.int .i64 y2.l.typ) ∧ W.cell? ⟨b, o + k * 11 + 3, none⟩ = some (.int .i64 y2.l.id) ∧ W.cell? ⟨b, o + k * 11 + 4, none⟩ = some (.int .i64 y2.l.adv) ∧ W.cell? ⟨b, o + k * 11 + 5, none⟩ = some (.int .i64 y2.l.seq) ∧ W.cell? ⟨b, o + k * 11 + 6, none⟩ = some (.slice E m2 c1) ∧ W.cell? ⟨b, o + k * 11 + 7, none⟩ = some (.slice F m2' d1) ∧ W.cell? ⟨b, o + k * 11 + 8, none⟩ = some (.int .i64 y2.l.mask) ∧ W.cell? ⟨b, o + k * 11 + 9, none⟩ = some (.int .i64 y2.l.cost) ∧ W.cell? ⟨b, o + k * 11 + 10, none⟩ = some (.int .i64 y2.at_) ∧ W.cell? ⟨b2, o2 + k * 11, none⟩ = some (.int .i64 y2.l.age) ∧ W.cell? ⟨b2, o2 + k * 11 + 1, none⟩ = some (.int .i64 y2.l.options) ∧ W.cell? ⟨b2, o2 + k * 11 + 2, none⟩ = some (.int .i64 y2.l.typ) ∧ W.cell? ⟨b2, o2 + k * 11 + 3, none⟩ = some (.int .i64 y2.l.id) ∧ W.cell? ⟨b2, o2 + k * 11 + 4, none⟩ = some (.int .i64 y2.l.adv) ∧ W.cell? ⟨b2, o2 + k * 11 + 5, none⟩ = some (.int .i64 y2.l.seq) ∧ W.cell? ⟨b2, o2 + k * 11 + 6, none⟩ = some (.slice E2 m2 c2) ∧ W.cell? ⟨b2, o2 + k * 11 + 7, none⟩ = some (.slice F2 m2' d2) ∧ W.cell? ⟨b2, o2 + k * 11 + 8, none⟩ = some (.int .i64 y2.l.mask) ∧ W.cell? ⟨b2, o2 + k * 11 + 9, none⟩ = some (.int .i64 y2.l.cost) ∧ W.cell? ⟨b2, o2 + k * 11 + 10, none⟩ = some (.int .i64 y2.at_)) (exact SB.out _ (by assumption))
        (first | (go_at_call 241; refine (eqEntry_yes y2.l q1 q2 l1 h1 l2 h2 E F E2 F2 m2 c1 m2' d1 c2 d2 y2.at_ _ (HY1.below V0.out).lsa (HY2.below V0.out).lsa hym.1 hym.2).mono ?_; rintro e u ⟨rfl, hbu⟩; have U0 := Lib.hid (below_step V0.out hbu); clear hbu))
      have HU := Lib.hid (below_step HB.out U0.out)
      clear SB V0 U0 HB
      go_wp2
      go_roundw
      case rel => exact ⟨k + 1, by omega, by go_num, HU⟩
      case measure => simp [intOf]; omega
    · go_wp2
      go_ret
      exact ⟨rfl, HB.out⟩

set_option maxRecDepth 100000 in
set_option maxHeartbeats 1600000 in
theorem eqBase_yes (q1 q2 : Bool) (l1 h1 l2 h2 : Nat) (A B : Option Addr) (n c d : Nat) (ys : List Ent) (now : Int) (w : World) (ha : Rep.ent.Sl q1 l1 h1 w A n ys) (hb : Rep.ent.Sl q2 l2 h2 w B n ys) (hh1 : h1 ≤ w.heap.size) (hh2 : h2 ≤ w.heap.size) (hn : n ≤ 1048576) (hm : ∀ y ∈ ys, y.l.links.length ≤ 1048576 ∧ y.l.routers.length ≤ 1048576) :
    Calls Try.prog 167 #[.agg #[.int .i64 now, .slice A n c], .agg #[.int .i64 now, .slice B n d]] w fun e w' => e = .returned (.bool true) ∧ Below w.heap.size w w' := by
  have HB := Lib.hid (Below.refl w.heap.size w)
  have HA := Rep.Sl.kept ha hh1
  have HC := Rep.Sl.kept hb hh2
  have HM := Lib.hid hm
  clear ha hb hm
  go_enter Try.func167, Try.ntmps167
  go_wp2_with fail
  refine Calls.name ?_
  intro U1 hU1
  have hb : Below w.heap.size w U1 := by rw [hU1]; exact (((Below.refl _ _).alloc (Nat.le_refl _) _).alloc (by simp <;> omega) _)
  have zz : Hid (w.heap.size + 2 = U1.heap.size) := Lib.hid (by rw [hU1]; simp)
  have HX1 : Kept w.heap.size (w.heap.size + 1) (BoxK w.heap.size 126 #[.int .i64 now, .slice A n c]) U1 := by rw [hU1]; exact Kept.box ((Box.made_at _ _ _ rfl).over _)
  have HX2 : Kept (w.heap.size + 1) (w.heap.size + 1 + 1) (BoxK (w.heap.size + 1) 126 #[.int .i64 now, .slice B n d]) U1 := by rw [hU1]; exact Kept.box (Box.made_at _ _ _ (by simp <;> omega))
  replace HA := HA.below hb
  replace HC := HC.below hb
  replace HB := Lib.hid (below_step HB.out hb)
  clear hb
  have Z1 := zz; clear zz
  clear hU1
  refine (eqEntryS_yes q1 q2 l1 h1 l2 h2 A B n c d ys _ HA.sl HC.sl HA.le HC.le hn HM.out).mono ?_
  rintro e w2 ⟨rfl, hb⟩
  have Z2 := Lib.hid hb.size
  replace HA := HA.below hb
  replace HC := HC.below hb
  replace HX1 := HX1.below hb
  replace HX2 := HX2.below hb
  replace HB := Lib.hid (below_step HB.out hb)
  clear hb
  have l2_0 := HX1.bx.lt
  have l2_1 := HX2.bx.lt
  go_wp2
  clear l2_0 l2_1
  go_ret
  exact ⟨rfl, HB.out⟩


end Go.Proofs.Ytiffhjofabaflaa
