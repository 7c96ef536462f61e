/-
  What is drawn for queues, and what is put into them. No statement is proved here.
-/
import Derived.Test.YtiffhjofabaflaaDr
import Derived.Test.YtiffhjofabaflaaQDrain
import Derived.Test.YtiffhjofabaflaaSpecQueueFault
import Derived.Maps.AppendAt
namespace Go.Proofs.Ytiffhjofabaflaa
open Go.RowKit
set_option linter.unusedVariables false

set_option maxRecDepth 100000 in
set_option maxHeartbeats 1600000 in
theorem l4Key_any (g : Nat) (A0 : Option Addr) (n0 c0 : Nat) (cs : List Int) (K : Nat) (w : World) (hs : Dr w g A0 n0 c0 cs K w) (hK : K ≤ 90000) :
    Calls Try.prog 95 #[.pointer (some ⟨g, 0, none⟩)] w fun e w' => ∃ a b c, e = .returned (.agg #[.int .i64 a, .int .i64 b, .int .i64 c]) ∧ (1 ≤ a ∧ a ≤ 3) ∧ (0 ≤ b ∧ b < 6) ∧ (0 ≤ c ∧ c < 3) ∧ Dr w g A0 n0 c0 cs (K + 3) w' := by
  have HS := hs
  have Zg : Hid (g < w.heap.size) := Lib.hid hs.lt
  clear hs
  go_enter Try.func95, Try.ntmps95
  go_wp2_with fail
  refine Calls.name ?_
  intro U1 hU1
  have hb : Below w.heap.size w U1 := by rw [hU1]; exact (((Below.refl _ _).alloc (Nat.le_refl _) _).alloc (by simp <;> omega) _)
  have zz : Hid (w.heap.size + 2 = U1.heap.size) := Lib.hid (by rw [hU1]; simp)
  have HX1 : Kept w.heap.size (w.heap.size + 1) (BoxK w.heap.size 34 #[.int .i64 0, .int .i64 0, .int .i64 0]) U1 := by rw [hU1]; exact Kept.box ((Box.made_at _ _ _ rfl).over _)
  have HX2 : Kept (w.heap.size + 1) (w.heap.size + 1 + 1) (BoxK (w.heap.size + 1) 2 #[.int .i64 1, .int .i64 2, .int .i64 3]) U1 := by rw [hU1]; exact Kept.box (Box.made_at _ _ _ (by simp <;> omega))
  replace HS := HS.below hb
  clear hb
  have Z1 := zz; clear zz
  have Y1 := Lib.hid (And.intro Zg.out Z1.out); clear Zg Z1
  clear hU1
  refine (dPick (w.heap.size + 1) 3 [1, 2, 3] HS.here (by omega) HX2.bx rfl rfl (by omega) (by omega) (by have := Y1.out; omega)).mono ?_
  rintro e w2 ⟨va, rfl, hv, hs⟩
  have ho := hs.fr
  have Z2 := Lib.hid ho.size
  have Y2 := Lib.hid (And.intro Y1.out Z2.out); clear Y1 Z2
  clear HX2
  replace HX1 := HX1.only ho (by have := Y2.out; omega)
  replace HS := HS.next hs; clear ho hs
  have HVva : Hid (1 ≤ va ∧ va ≤ 3) := Lib.hid (by simp only [List.mem_cons, List.not_mem_nil, or_false] at hv; omega)
  clear hv
  have l2_0 := HX1.bx.lt
  go_wp2_with fail
  clear l2_0
  refine (dNext 6 HS.here (by omega) (by omega) (by omega)).mono ?_
  rintro e w3 ⟨vb, rfl, hvb0, hvb1, hs⟩
  have ho := hs.fr
  have Z3 := Lib.hid ho.size
  have Y3 := Lib.hid (And.intro Y2.out Z3.out); clear Y2 Z3
  replace HX1 := HX1.only ho (by have := Y3.out; omega)
  replace HS := HS.next hs; clear ho hs
  have l3_0 := HX1.bx.lt
  go_wp2_with fail
  clear l3_0
  refine (dNext 3 HS.here (by omega) (by omega) (by omega)).mono ?_
  rintro e w4 ⟨vc, rfl, hvc0, hvc1, hs⟩
  have ho := hs.fr
  have Z4 := Lib.hid ho.size
  have Y4 := Lib.hid (And.intro Y3.out Z4.out); clear Y3 Z4
  replace HX1 := HX1.only ho (by have := Y4.out; omega)
  replace HS := HS.next hs; clear ho hs
  have c4_0 := HX1.look 0
  have c4_1 := HX1.look 1
  have c4_2 := HX1.look 2
  have f4_0 := HX1.free 0
  have f4_1 := HX1.free 1
  have f4_2 := HX1.free 2
  have l4_0 := HX1.bx.lt
  go_wp2
  clear c4_0 c4_1 c4_2 f4_0 f4_1 f4_2 l4_0
  obtain ⟨U5, hU5⟩ : ∃ W : World, W = (((w4.setCell ⟨w.heap.size, 0, none⟩ (.int .i64 va)).setCell ⟨w.heap.size, 1, none⟩ (.int .i64 vb)).setCell ⟨w.heap.size, 2, none⟩ (.int .i64 vc)) := ⟨_, rfl⟩
  have ho : Only w.heap.size (w.heap.size + 1) w4 U5 := by rw [hU5]; exact ((((Only.refl _ _ _).set (p := ⟨w.heap.size, 0, none⟩) (Nat.le_refl _) (Nat.lt_succ_self _) _).set (p := ⟨w.heap.size, 1, none⟩) (Nat.le_refl _) (Nat.lt_succ_self _) _).set (p := ⟨w.heap.size, 2, none⟩) (Nat.le_refl _) (Nat.lt_succ_self _) _)
  replace HX1 : Kept w.heap.size (w.heap.size + 1) (BoxK w.heap.size 34 #[.int .i64 va, .int .i64 vb, .int .i64 vc]) U5 := by rw [hU5]; exact Kept.box (((HX1.bx.puts 0 (.int .i64 va) (cs' := #[.int .i64 va, .int .i64 0, .int .i64 0]) rfl).puts 1 (.int .i64 vb) (cs' := #[.int .i64 va, .int .i64 vb, .int .i64 0]) rfl).puts 2 (.int .i64 vc) (cs' := #[.int .i64 va, .int .i64 vb, .int .i64 vc]) rfl)
  replace HS := HS.only ho (by have := Y4.out; omega)
  have Z5 : Hid (U5.heap.size = w4.heap.size) := Lib.hid (by rw [hU5]; simp [World.setCell]); clear ho
  have Y5 := Lib.hid (And.intro Y4.out Z5.out); clear Y4 Z5
  have q_0 := HX1.look 0
  have q_1 := HX1.look 1
  have q_2 := HX1.look 2
  have fin : ∀ e, e = Ending.returned (.agg #[.int .i64 va, .int .i64 vb, .int .i64 vc]) → (∃ a b c, e = .returned (.agg #[.int .i64 a, .int .i64 b, .int .i64 c]) ∧ (1 ≤ a ∧ a ≤ 3) ∧ (0 ≤ b ∧ b < 6) ∧ (0 ≤ c ∧ c < 3) ∧ Dr w g A0 n0 c0 cs (K + 3) U5) := by rintro _ rfl; exact ⟨va, vb, vc, rfl, HVva.out, ⟨hvb0, hvb1⟩, ⟨hvc0, hvc1⟩, HS.more (by omega)⟩
  subst hU5
  exact bodyPost_ret (v := .agg #[.int .i64 va, .int .i64 vb, .int .i64 vc]) (by simp [results, Try.results95, go_sem, q_0, q_1, q_2]) rfl (fin _ rfl)

theorem BIn.hold {w : World} {A : Option Addr} {n : Nat} {zs : List Int} (h : BIn w A n zs) : Kept 0 w.heap.size (fun w => BIn w A n zs) w :=
  ⟨Nat.le_refl _, fun w' k => ⟨h.1, fun hn => by
    obtain ⟨b, o, e, hc⟩ := h.2 hn
    have hb : b < w.heap.size := World.block_lt_of_cell? w _ (hc 0 hn)
    exact ⟨b, o, e, fun i hi => (World.cell?_of_block (k b (Nat.zero_le _) hb)).trans (hc i hi)⟩⟩⟩

set_option maxRecDepth 100000 in
set_option maxHeartbeats 6400000 in
theorem drawNewWheel_any (A0 : Option Addr) (n0 c0 : Nat) (cs : List Int) (w : World) (ha : BIn w A0 n0 cs) (hb : Bytes cs) (hn : n0 ≤ 1048576) :
    Calls Try.prog 32 #[.slice A0 n0 c0] w fun e w' => ∃ a, e = .returned (.int .i64 a) ∧ (-1 ≤ a ∧ a ≤ 1000001) ∧ Below w.heap.size w w' := by
  have HB := Lib.hid (Below.refl w.heap.size w)
  have HD := ha.hold
  have HBY := Lib.hid hb
  clear ha hb
  go_enter Try.func32, Try.ntmps32
  go_wp2_with fail
  refine (dSource A0 n0 c0 cs _ HD.out HBY.out hn).mono ?_
  rintro e w1 ⟨rfl, hs, hb⟩
  have Z1 := Lib.hid hb.size
  replace HD := HD.below hb
  replace HB := Lib.hid (below_step HB.out hb)
  clear hb
  have HS := hs; clear hs
  have Z2 := Lib.hid HS.lt
  have Y1 := Lib.hid (And.intro Z1.out Z2.out); clear Z1 Z2
  go_wp2_with fail
  refine Calls.name ?_
  intro U2 hU2
  have hb : Below w1.heap.size w1 U2 := by rw [hU2]; exact ((Below.refl _ _).alloc (Nat.le_refl _) _)
  have zz : Hid (w1.heap.size + 1 = U2.heap.size) := Lib.hid (by rw [hU2]; simp)
  have HX1 : Kept w1.heap.size (w1.heap.size + 1) (BoxK w1.heap.size 2 #[.int .i64 0, .int .i64 7, .int .i64 1000000, .int .i64 1000001, .int .i64 (-1)]) U2 := by rw [hU2]; exact Kept.box (Box.made_at _ _ _ rfl)
  replace HD := HD.below hb
  replace HS := HS.below hb
  replace HB := Lib.hid (below_step HB.out hb)
  clear hb
  have Z3 := zz; clear zz
  have Y2 := Lib.hid (And.intro Y1.out Z3.out); clear Y1 Z3
  clear hU2
  refine (dPick w1.heap.size 5 [0, 7, 1000000, 1000001, -1] HS.here (by omega) HX1.bx rfl rfl (by omega) (by omega) (by have := Y2.out; omega)).mono ?_
  rintro e w3 ⟨va, rfl, hv, hs⟩
  have ho := hs.fr
  have Z4 := Lib.hid ho.size
  have Y3 := Lib.hid (And.intro Y2.out Z4.out); clear Y2 Z4
  clear HX1
  replace HD := HD.only ho (by have := Y3.out; omega)
  replace HB := Lib.hid (Below.only HB.out ho (by have := Y3.out; omega) HB.out.size)
  replace HS := HS.next hs; clear ho hs
  have HVva : Hid (-1 ≤ va ∧ va ≤ 1000001) := Lib.hid (by simp only [List.mem_cons, List.not_mem_nil, or_false] at hv; omega)
  clear hv
  go_wp2
  go_ret
  exact ⟨va, rfl, HVva.out, HB.out⟩

set_option maxRecDepth 100000 in
set_option maxHeartbeats 6400000 in
theorem drawPlaceOf_any (A0 : Option Addr) (n0 c0 : Nat) (cs : List Int) (w : World) (ha : BIn w A0 n0 cs) (hb : Bytes cs) (hn : n0 ≤ 1048576) :
    Calls Try.prog 30 #[.slice A0 n0 c0] w fun e w' => ∃ a b, e = .returned (.tuple #[.int .i64 a, .int .i64 b]) ∧ (-1 ≤ a ∧ a ≤ 1000001) ∧ (-1 ≤ b ∧ b ≤ 1000513) ∧ Below w.heap.size w w' := by
  have HB := Lib.hid (Below.refl w.heap.size w)
  have HD := ha.hold
  have HBY := Lib.hid hb
  clear ha hb
  go_enter Try.func30, Try.ntmps30
  go_wp2_with fail
  refine (dSource A0 n0 c0 cs _ HD.out HBY.out hn).mono ?_
  rintro e w1 ⟨rfl, hs, hb⟩
  have Z1 := Lib.hid hb.size
  replace HD := HD.below hb
  replace HB := Lib.hid (below_step HB.out hb)
  clear hb
  have HS := hs; clear hs
  have Z2 := Lib.hid HS.lt
  have Y1 := Lib.hid (And.intro Z1.out Z2.out); clear Z1 Z2
  go_wp2_with fail
  refine Calls.name ?_
  intro U2 hU2
  have hb : Below w1.heap.size w1 U2 := by rw [hU2]; exact ((Below.refl _ _).alloc (Nat.le_refl _) _)
  have zz : Hid (w1.heap.size + 1 = U2.heap.size) := Lib.hid (by rw [hU2]; simp)
  have HX1 : Kept w1.heap.size (w1.heap.size + 1) (BoxK w1.heap.size 2 #[.int .i64 0, .int .i64 5, .int .i64 7, .int .i64 63, .int .i64 500, .int .i64 511, .int .i64 1000000, .int .i64 1000001, .int .i64 (-1)]) U2 := by rw [hU2]; exact Kept.box (Box.made_at _ _ _ rfl)
  replace HD := HD.below hb
  replace HS := HS.below hb
  replace HB := Lib.hid (below_step HB.out hb)
  clear hb
  have Z3 := zz; clear zz
  have Y2 := Lib.hid (And.intro Y1.out Z3.out); clear Y1 Z3
  clear hU2
  refine (dPick w1.heap.size 9 [0, 5, 7, 63, 500, 511, 1000000, 1000001, -1] HS.here (by omega) HX1.bx rfl rfl (by omega) (by omega) (by have := Y2.out; omega)).mono ?_
  rintro e w3 ⟨va, rfl, hv, hs⟩
  have ho := hs.fr
  have Z4 := Lib.hid ho.size
  have Y3 := Lib.hid (And.intro Y2.out Z4.out); clear Y2 Z4
  clear HX1
  replace HD := HD.only ho (by have := Y3.out; omega)
  replace HB := Lib.hid (Below.only HB.out ho (by have := Y3.out; omega) HB.out.size)
  replace HS := HS.next hs; clear ho hs
  have HVva : Hid (-1 ≤ va ∧ va ≤ 1000001) := Lib.hid (by simp only [List.mem_cons, List.not_mem_nil, or_false] at hv; omega)
  clear hv
  have hva := HVva.out
  go_wp2_with fail
  refine Calls.name ?_
  intro U4 hU4
  have hb : Below w3.heap.size w3 U4 := by rw [hU4]; exact ((Below.refl _ _).alloc (Nat.le_refl _) _)
  have zz : Hid (w3.heap.size + 1 = U4.heap.size) := Lib.hid (by rw [hU4]; simp)
  have HX2 : Kept w3.heap.size (w3.heap.size + 1) (BoxK w3.heap.size 2 #[.int .i64 1, .int .i64 2, .int .i64 8, .int .i64 57, .int .i64 64, .int .i64 300, .int .i64 511, .int .i64 512, .int .i64 0]) U4 := by rw [hU4]; exact Kept.box (Box.made_at _ _ _ rfl)
  replace HD := HD.below hb
  replace HS := HS.below hb
  replace HB := Lib.hid (below_step HB.out hb)
  clear hb
  have Z5 := zz; clear zz
  have Y4 := Lib.hid (And.intro Y3.out Z5.out); clear Y3 Z5
  clear hU4
  refine (dPick w3.heap.size 9 [1, 2, 8, 57, 64, 300, 511, 512, 0] HS.here (by omega) HX2.bx rfl rfl (by omega) (by omega) (by have := Y4.out; omega)).mono ?_
  rintro e w5 ⟨vb, rfl, hv, hs⟩
  have ho := hs.fr
  have Z6 := Lib.hid ho.size
  have Y5 := Lib.hid (And.intro Y4.out Z6.out); clear Y4 Z6
  clear HX2
  replace HD := HD.only ho (by have := Y5.out; omega)
  replace HB := Lib.hid (Below.only HB.out ho (by have := Y5.out; omega) HB.out.size)
  replace HS := HS.next hs; clear ho hs
  have HVvb : Hid (0 ≤ vb ∧ vb ≤ 512) := Lib.hid (by simp only [List.mem_cons, List.not_mem_nil, or_false] at hv; omega)
  clear hv
  have hvb := HVvb.out
  go_wp2
  go_ret2
  exact ⟨va, va + vb, rfl, HVva.out, (by omega), HB.out⟩


end Go.Proofs.Ytiffhjofabaflaa

namespace Go.Proofs.Ytiffhjofabaflaa
open Go.RowKit
set_option linter.unusedVariables false

theorem ups_pw {zs : List Int} : ups zs ↔ zs.Pairwise (· < ·) := by
  constructor
  · intro h
    rw [List.pairwise_iff_getElem]
    have step : ∀ (d i : Nat) (hi : i < zs.length) (hj : i + d + 1 < zs.length), zs[i] < zs[i + d + 1] := by
      intro d
      induction d with
      | zero =>
        intro i hi hj
        have := h i (by omega)
        simpa [List.getD, hi, hj] using this
      | succ d ih =>
        intro i hi hj
        have h1 := ih i hi (by omega)
        have h2 := h (i + d + 1) (by omega)
        have h3 : zs[i + d + 1] < zs[i + d + 1 + 1] := by simpa [List.getD, (show i + d + 1 < zs.length by omega), (show i + d + 1 + 1 < zs.length by omega)] using h2
        have h4 : zs[i] < zs[i + d + 1 + 1] := by omega
        exact h4
    intro i j hi hj hij
    have := step (j - i - 1) i hi (by omega)
    have e : i + (j - i - 1) + 1 = j := by omega
    simp only [e] at this
    exact this
  · intro h i hi
    rw [List.pairwise_iff_getElem] at h
    have := h i (i + 1) (by omega) (by omega) (by omega)
    simpa [List.getD, (show i < zs.length by omega), (show i + 1 < zs.length by omega)] using this

/-- What is wrong with an item for these items. -/
def fit (ys : List Tmr) (x : Tmr) : Int := if ¬ (1 ≤ x.due ∧ x.due ≤ 100000) then 3 else if ¬ ups (revs ys ++ [x.due]) then 1 else 0
/-- The mark and the items when an item is put in. -/
def putM (cap : Int) (mk : Bool) (ys : List Tmr) (x : Tmr) : Bool := if ((without ys x).length : Int) = cap then true else mk
def putY (cap : Int) (ys : List Tmr) (x : Tmr) : List Tmr := if ((without ys x).length : Int) = cap then [x] else without ys x ++ [x]
/-- Code, mark and items when a list is put in. -/
def pushL (cap : Int) : List Tmr → Bool → List Tmr → Int × Bool × List Tmr
  | [], mk, ys => (0, mk, ys)
  | x :: r, mk, ys => if fit ys x = 0 then pushL cap r (putM cap mk ys x) (putY cap ys x) else (fit ys x, false, [])
theorem pushL_drop {cap : Int} {xs : List Tmr} {j : Nat} {x : Tmr} (h : xs[j]? = some x) (mk : Bool) (ys : List Tmr) :
    pushL cap (xs.drop j) mk ys = if fit ys x = 0 then pushL cap (xs.drop (j + 1)) (putM cap mk ys x) (putY cap ys x) else (fit ys x, false, []) := by
  have hj := (List.getElem?_eq_some_iff.1 h).1
  rw [List.drop_eq_getElem_cons hj, (List.getElem?_eq_some_iff.1 h).2]
  rfl
/-- What stays so: there are not more than Cap, and they rise. -/
def PInv (cap : Int) (ys : List Tmr) : Prop := (1 ≤ cap ∧ cap ≤ 8) ∧ (ys.length : Int) ≤ cap ∧ ups (revs ys)
theorem PInv.le {cap : Int} {ys : List Tmr} (h : PInv cap ys) : ys.length ≤ 8 := by have := h.1.2; have := h.2.1; omega
theorem PInv.of_qf {cap : Int} {ys : List Tmr} (h : qf cap ys = 0) : PInv cap ys := ⟨(qf_ok h).1, (qf_ok h).2.1, (qf_ok h).2.2.2.2.1⟩
theorem fit_cases (ys : List Tmr) (x : Tmr) : fit ys x = 0 ∨ fit ys x = 1 ∨ fit ys x = 3 := by
  unfold fit
  split
  · exact .inr (.inr rfl)
  · split
    · exact .inr (.inl rfl)
    · exact .inl rfl
theorem fit_ok {ys : List Tmr} {x : Tmr} (h : fit ys x = 0) : (1 ≤ x.due ∧ x.due ≤ 100000) ∧ ups (revs ys ++ [x.due]) := by
  unfold fit at h
  split at h
  · omega
  · split at h
    · omega
    · rename_i h1 h2
      exact ⟨Classical.byContradiction h1, Classical.byContradiction h2⟩
theorem PInv.put {cap : Int} {ys : List Tmr} {x : Tmr} (h : PInv cap ys) (hf : fit ys x = 0) : PInv cap (putY cap ys x) := by
  have hw := without_le ys x
  have h2 := h.2.1
  refine ⟨h.1, ?_, ?_⟩
  · unfold putY
    split
    · have := h.1.1; simp; omega
    · rw [List.length_append]; simp only [List.length_cons, List.length_nil]; omega
  · unfold putY
    split
    · intro i hi; simp [revs] at hi
    · have hu := ups_pw.1 (fit_ok hf).2
      rw [ups_pw]
      refine List.Pairwise.sublist ?_ hu
      show (revs (without ys x ++ [x])).Sublist _
      unfold revs
      rw [List.map_append]
      exact List.Sublist.append (List.Sublist.map _ List.filter_sublist) (List.Sublist.refl _)
theorem pushL_bd (cap : Int) : ∀ (xs : List Tmr) (mk : Bool) (ys : List Tmr), PInv cap ys → (pushL cap xs mk ys).2.2.length ≤ 8
  | [], mk, ys, h => h.le
  | x :: r, mk, ys, h => by
    unfold pushL
    split
    · rename_i hf; exact pushL_bd cap r _ _ (h.put hf)
    · simp
/-- What PushAll answers: code, Cap, Marks, Items. -/
def paC (cap : Int) (mk : Bool) (ys xs : List Tmr) : Int := if qf cap ys = 0 then (if 100 < xs.length then 2 else (pushL cap xs mk ys).1) else qf cap ys
def paX (cap : Int) (mk : Bool) (ys xs : List Tmr) : Int := if paC cap mk ys xs = 0 then cap else 0
def paP (cap : Int) (mk : Bool) (ys xs : List Tmr) : Bool := if qf cap ys = 0 then (if 100 < xs.length then false else (pushL cap xs mk ys).2.1) else false
def paU (cap : Int) (mk : Bool) (ys xs : List Tmr) : List Tmr := if qf cap ys = 0 then (if 100 < xs.length then [] else (pushL cap xs mk ys).2.2) else []
def paT (ys : List Tmr) : Bool := false
def paZ (ys : List Tmr) : List Tmr := []
theorem pa_bd (cap : Int) (mk : Bool) (ys xs : List Tmr) : (paU cap mk ys xs).length ≤ 1048576 ∧ (paZ ys).length ≤ 1048576 := by
  refine ⟨?_, by simp [paZ]⟩
  unfold paU
  split
  · rename_i h
    split
    · simp
    · have := pushL_bd cap xs mk ys (PInv.of_qf h); omega
  · simp

end Go.Proofs.Ytiffhjofabaflaa

namespace Go.Proofs.Ytiffhjofabaflaa
open Go.RowKit
set_option linter.unusedVariables false

theorem step_appI0 {α : Type} {size bytes : Nat} {f : α → List Value} {ts t : TypeId} {z : Value} {ops : Array Oper} {o : Oper} {a : Act} {Q : Exit → Act → World → Prop} {w : World} {B : Nat} {A E : Option Addr} {n c m d : Nat} {zs ys : List α} {K : Act → World → Prop} {E' : Prop} (hf : ∀ a, (f a).length = size) (hone : ∀ a, ∀ u ∈ f a, u.oneCell' = true) (hu : Try.prog.underlying ts = some (.slice t))
    (hinfo : (Try.prog.info? t).map (fun i => (i.zero, i.size, i.bytes)) = some (some z, size, bytes)) (hzc : z.cells.size = size) (hsz : 0 < size) (hby : bytes ≤ 1048576)
    (hgd : o.guard = none) (s x : Operand) (ho : o.op = .call { callee := .builtin .append, args := #[s, x], argTypes := #[ts, ts] })
    (hs : a.eval s = .slice A n c) (hown : OwnF t size f w B A n c zs) (hx : a.eval x = .slice E m d) (hE : InF size f w E m ys) (hl : n + m ≤ 1048576) (hB : B ≤ w.heap.size)
    (h : ∀ A' c' w', OwnF t size f w' B A' (n + m) c' (zs ++ ys) → w.grownBy w' (A.map (·.block)) → K (a.put o.dst (.slice A' (n + m) c')) w') :
    if Region.wanted o (yielded ops a.tmps) = true then Oper.wp Try.prog o a w K Q else E' := by
  rw [if_pos (by simp [Region.wanted, hgd])]
  exact wp_appF0 hf hone hu hinfo hzc hsz hby s x ho hs hown hx hE hl hB h

/-- Items from the j-th on, with the block that they take. -/
theorem items_from {t : TypeId} {w : World} {B g n c : Nat} {ys : List Tmr} (h : OwnF t 4 tcell w B (some ⟨g, 0, none⟩) n c ys) (j : Nat) : ∃ bs, Rep.timer.FSl w (some ⟨g, j * 4, none⟩) (n - j) (ys.drop j) bs ∧ bs.Nodup ∧ ∀ x ∈ bs, x = g := by
  rcases Nat.eq_zero_or_pos (n - j) with h0 | h0
  · exact ⟨[], .inl ⟨h0, List.eq_nil_of_length_eq_zero (by rw [List.length_drop, h.1]; exact h0), rfl⟩, List.nodup_nil, fun x hx => by cases hx⟩
  · refine ⟨[g], .inr ⟨h0, g, rfl, by rw [List.length_drop, h.1], fun _ => ⟨g, j * 4, rfl, Nat.le_refl _, Nat.lt_succ_self _, fun _ i => World.ownsRow.frozenAt h.2 i, fun i a ha => ⟨tcell a, rfl, fun k u hk => ?_⟩⟩⟩, by simp, fun x hx => by simpa using hx⟩
    have hk4 : k < 4 := by have := (List.getElem?_eq_some_iff.1 hk).1; simpa [tcell] using this
    have hil := (List.getElem?_eq_some_iff.1 ha).1
    rw [List.length_drop] at hil
    rw [List.getElem?_drop] at ha
    have := World.ownsRow.cellAt h.2 ((j + i) * 4 + k) (by have := h.1; omega)
    show w.cell? ⟨g, j * 4 + i * 4 + k, none⟩ = some u
    rw [show j * 4 + i * 4 + k = (j + i) * 4 + k by omega, this, flat_get tcell_len ys (j + i) a ha k hk4, hk]

set_option maxRecDepth 100000 in
set_option maxHeartbeats 1600000 in
theorem l6Copy_any (cap : Int) (mk : Bool) (g : Nat) (q : Bool) (lo hi : Nat) (A : Option Addr) (n c : Nat) (ys : List Tmr) (w : World) (hg : Box w g 59 #[.int .i64 cap, .bool mk, .slice A n c]) (ha : Rep.timer.Sl q lo hi w A n ys) (hh : hi ≤ w.heap.size) (hn : n ≤ 1000) :
    Calls Try.prog 131 #[.pointer (some ⟨g, 0, none⟩)] w fun e w' => ∃ E d, e = .returned (.agg #[.int .i64 cap, .bool mk, .slice E n d]) ∧ Kept w.heap.size w'.heap.size (OwnFK 66 4 tcell w.heap.size w'.heap.size E n d ys) w' ∧ Below w.heap.size w w' := by
  obtain ⟨V, hV⟩ : ∃ V : World, V = w.alloc (.cells #[.int .i64 0, .bool false, .slice none 0 0] 59) := ⟨_, rfl⟩
  have hbV : Below w.heap.size w V := by rw [hV]; exact (Below.refl _ _).alloc (Nat.le_refl _) _
  have HX : Hid (Box V w.heap.size 59 #[.int .i64 0, .bool false, .slice none 0 0]) := Lib.hid (by rw [hV]; exact Box.made _ _ _)
  have HG := Lib.hid (hg.below hbV)
  have HZ : Hid (w.heap.size + 1 = V.heap.size ∧ g < w.heap.size) := Lib.hid ⟨by rw [hV]; simp, hg.lt⟩
  have HB := Lib.hid hbV
  have hbE : Below V.heap.size V (V.alloc (.cells #[] 66)).drew := ((Below.refl _ _).alloc (Nat.le_refl _) _).drew
  have HBE := Lib.hid hbE
  have HIN : Hid (InF 4 tcell (V.alloc (.cells #[] 66)).drew A n ys) := Lib.hid (Rep.timer_inF ((ha.below hbV hh).below hbE (Nat.le_trans hh hbV.size)))
  have HEM : Hid (OwnF 66 4 tcell (V.alloc (.cells #[] 66)).drew V.heap.size (some ⟨V.heap.size, 0, none⟩) 0 0 []) := Lib.hid (emptyF 66 4 tcell V)
  have c0 := HG.out.look 0
  have c1 := HG.out.look 1
  have c2 := HG.out.look 2
  have hgl := HG.out.lt
  clear hg ha hbV hbE
  go_enter Try.func131, Try.ntmps131
  go_upto_region 1 with (fail)
  rw [← hV]
  clear hV
  go_region_law (first | ((show (if Region.wanted (Oper.mk (some 16) _ _ _ _ _) _ = true then _ else _)); refine step_appI0 tcell_len tcell_one Try.underlying57 itemInfo rfl (by decide) (by decide) (by rfl) (.tmp 11) (.tmp 15) (by rfl) (B := V.heap.size) (by rfl) HEM.out (by rfl) HIN.out (by omega) HBE.out.size ?_; intro E d u1 ho hgr; have HO := Lib.hid ho; have HU : Hid (Below V.heap.size V u1) := Lib.hid (HBE.out.grown hgr HBE.out.size (fun r hr => by injection hr with hr; exact Nat.le_of_eq hr)); have HX1 := Lib.hid (HX.out.below HU.out); have HG1 := Lib.hid (HG.out.below HU.out); have x0 := HX1.out.look 0; have x1 := HX1.out.look 1; have x2 := HX1.out.look 2; have y0 := HX1.out.free 0; have y1 := HX1.out.free 1; have y2 := HX1.out.free 2; have xl := HX1.out.lt; have k0 := HG1.out.look 0; have k1 := HG1.out.look 1; have k2 := HG1.out.look 2; clear ho hgr))
  all_goals
    have HO2 : Hid (OwnF 66 4 tcell u1 V.heap.size E n d ys) := Lib.hid (by have h := HO.out; rwa [Nat.zero_add, List.nil_append] at h)
    obtain ⟨X, hX⟩ : ∃ X : World, X = (((u1.setCell ⟨w.heap.size, 0, none⟩ (.int .i64 cap)).setCell ⟨w.heap.size, 1, none⟩ (.bool mk)).setCell ⟨w.heap.size, 2, none⟩ (.slice E n d)) := ⟨_, rfl⟩
    have ho3 : Only w.heap.size (w.heap.size + 1) u1 X := by rw [hX]; exact (((Only.refl _ _ _).set (p := ⟨w.heap.size, 0, none⟩) (Nat.le_refl _) (Nat.lt_succ_self _) _).set (p := ⟨w.heap.size, 1, none⟩) (Nat.le_refl _) (Nat.lt_succ_self _) _).set (p := ⟨w.heap.size, 2, none⟩) (Nat.le_refl _) (Nat.lt_succ_self _) _
    have HX3 : Hid (Box X w.heap.size 59 #[.int .i64 cap, .bool mk, .slice E n d]) := Lib.hid (by rw [hX]; exact ((HX1.out.puts 0 (.int .i64 cap) (cs' := #[.int .i64 cap, .bool false, .slice none 0 0]) rfl).puts 1 (.bool mk) (cs' := #[.int .i64 cap, .bool mk, .slice none 0 0]) rfl).puts 2 (.slice E n d) (cs' := #[.int .i64 cap, .bool mk, .slice E n d]) rfl)
    have HO3 : Hid (OwnF 66 4 tcell X w.heap.size E n d ys) := Lib.hid ((HO2.out.aside (Only.grown_ ho3) (fun r hr e => by injection e with e; have := (HO2.out.block r hr).1; have := HZ.out.1; omega)).mono HB.out.size)
    have HB3 : Hid (Below w.heap.size w X) := Lib.hid (Below.only (below_step HB.out HU.out) ho3 (Nat.le_refl _) (Nat.le_of_lt xl))
    clear c0 c1 c2 hgl x0 x1 x2 y0 y1 y2 xl k0 k1 k2 ho3
    go_wp2
    have q0 := HX3.out.look 0
    have q1 := HX3.out.look 1
    have q2 := HX3.out.look 2
    subst hX
    exact bodyPost_ret (v := .agg #[.int .i64 cap, .bool mk, .slice E n d]) (by simp [results, Try.results131, go_sem, q0, q1, q2]) rfl ⟨E, d, rfl, HO3.out.kept rfl, HB3.out⟩

end Go.Proofs.Ytiffhjofabaflaa

namespace Go.Proofs.Ytiffhjofabaflaa
open Go.RowKit
set_option linter.unusedVariables false

theorem ups_snoc {zs : List Int} {v l : Int} {p : Nat} (hu : ups zs) (hl : zs[p]? = some l) (hp : p + 1 = zs.length) : ups (zs ++ [v]) ↔ l < v := by
  have hpl := (List.getElem?_eq_some_iff.1 hl).1
  have hpe := (List.getElem?_eq_some_iff.1 hl).2
  rw [ups_pw, List.pairwise_append]
  constructor
  · intro h
    exact h.2.2 l (List.mem_of_getElem? hl) v (by simp)
  · intro h
    refine ⟨ups_pw.1 hu, by simp, fun a ha b hb => ?_⟩
    simp only [List.mem_singleton] at hb
    subst hb
    obtain ⟨i, hi, rfl⟩ := List.getElem_of_mem ha
    by_cases hip : i = p
    · subst hip; rw [hpe]; exact h
    · have := (List.pairwise_iff_getElem.1 (ups_pw.1 hu)) i p hi hpl (by omega)
      rw [hpe] at this; omega
theorem fit_0 {ys : List Tmr} {x : Tmr} (hy : ys = []) (h : 1 ≤ x.due ∧ x.due ≤ 100000) : fit ys x = 0 := by
  subst hy
  unfold fit
  rw [if_neg (fun h' => h' h), if_neg]
  intro h'
  exact h' (fun i hi => by simp [revs] at hi)
theorem fit_last {ys : List Tmr} {x l : Tmr} {p : Nat} (hu : ups (revs ys)) (hl : ys[p]? = some l) (hp : p + 1 = ys.length) (h : 1 ≤ x.due ∧ x.due ≤ 100000) : fit ys x = if x.due ≤ l.due then 1 else 0 := by
  have e := ups_snoc (v := x.due) hu (show (revs ys)[p]? = some l.due by simp [revs, hl]) (by rw [revs_len]; exact hp)
  unfold fit
  rw [if_neg (fun h' => h' h)]
  by_cases hle : x.due ≤ l.due
  · rw [if_pos hle, if_pos (fun h' => by have := e.1 h'; omega)]
  · rw [if_neg hle, if_neg (fun h' => h' (e.2 (by omega)))]

set_option maxRecDepth 100000 in
set_option maxHeartbeats 1600000 in
theorem l6Fits_any (cap : Int) (mk : Bool) (g b o : Nat) (q : Bool) (lo hi : Nat) (A : Option Addr) (n c : Nat) (ys : List Tmr) (x : Tmr) (w : World) (hg : Box w g 59 #[.int .i64 cap, .bool mk, .slice A n c]) (ha : Rep.timer.Sl q lo hi w A n ys) (hn : n ≤ 1000) (hx : w.cell? ⟨b, o + 3, none⟩ = some (.int .i64 x.due)) (hu : ups (revs ys)) :
    Calls Try.prog 132 #[.pointer (some ⟨g, 0, none⟩), .pointer (some ⟨b, o, none⟩)] w fun e w' => e = .returned (.int .i64 (fit ys x)) ∧ ∃ m, w' = w.drewN m := by
  have hl := ha.1
  have g2 := hg.look 2
  have gl := hg.lt
  have HU := Lib.hid hu
  clear hu
  by_cases hin : 1 ≤ x.due ∧ x.due ≤ 100000
  · have HI := Lib.hid (allIn_one_yes hin.1 hin.2)
    have HIN := Lib.hid hin
    clear hin
    rcases Nat.eq_zero_or_pos n with h0 | h0
    · subst h0
      have HF := Lib.hid (fit_0 (List.eq_nil_of_length_eq_zero hl) HIN.out)
      clear ha hg
      go_enter Try.func132, Try.ntmps132
      go_wp2_with fail
      refine (l1In_any x.due 1 100000 _).mono ?_
      rw [HI.out]
      rintro e w2 ⟨rfl, rfl⟩
      go_wp2
      go_quiet (fail)
      go_wp2
      go_ret
      exact ⟨by rw [HF.out]; rfl, _, rfl⟩
    · obtain ⟨p, hp⟩ : ∃ p, p + 1 = n := ⟨n - 1, by omega⟩
      obtain ⟨b2, o2, l, rfl, hya, l0, l1, l2, l3⟩ := Rep.timer_at ha (show p < n by omega)
      have hw : IntKind.i64.wrap ((n : Int) - 1) = (p : Int) := by rw [IntWalk.i64_in _ (by omega)]; omega
      have hpn : (p : Int) < n := by omega
      have hnp : (0 : Int) < n := by omega
      have HF := Lib.hid (fit_last HU.out hya (by omega) HIN.out)
      clear ha hg hya l0 l1 l2 hp hl
      by_cases hle : x.due ≤ l.due
      · have HR : Hid (fit ys x = 1) := Lib.hid (by rw [HF.out, if_pos hle])
        clear HF
        go_enter Try.func132, Try.ntmps132
        go_wp2_with fail
        refine (l1In_any x.due 1 100000 _).mono ?_
        rw [HI.out]
        rintro e w2 ⟨rfl, rfl⟩
        go_wp2
        go_quiet (fail)
        go_wp2
        go_ret
        exact ⟨by rw [HR.out]; rfl, _, rfl⟩
      · have HR : Hid (fit ys x = 0) := Lib.hid (by rw [HF.out, if_neg hle])
        clear HF
        go_enter Try.func132, Try.ntmps132
        go_wp2_with fail
        refine (l1In_any x.due 1 100000 _).mono ?_
        rw [HI.out]
        rintro e w2 ⟨rfl, rfl⟩
        go_wp2
        go_quiet (fail)
        go_wp2
        go_ret
        exact ⟨by rw [HR.out]; rfl, _, rfl⟩
  · have HI := Lib.hid (allIn_one_no hin)
    have HF : Hid (fit ys x = 3) := Lib.hid (if_pos hin)
    clear hin ha hg
    go_enter Try.func132, Try.ntmps132
    go_wp2_with fail
    refine (l1In_any x.due 1 100000 _).mono ?_
    rw [HI.out]
    rintro e w2 ⟨rfl, rfl⟩
    go_wp2
    go_ret
    exact ⟨by rw [HF.out]; rfl, 0, rfl⟩

end Go.Proofs.Ytiffhjofabaflaa

namespace Go.Proofs.Ytiffhjofabaflaa
open Go.RowKit
set_option linter.unusedVariables false

section
attribute [local go_sem high] eql_keyT neq_keyT

set_option maxRecDepth 100000 in
set_option maxHeartbeats 6400000 in
theorem l6Push_any (cap : Int) (mk : Bool) (g : Nat) (q : Bool) (lo hi : Nat) (A : Option Addr) (n c : Nat) (ys : List Tmr) (x : Tmr) (w : World) (hg : Box w g 59 #[.int .i64 cap, .bool mk, .slice A n c]) (ha : Rep.timer.Sl q lo hi w A n ys) (hh : hi ≤ w.heap.size) (hn : n ≤ 1000) (hle : (ys.length : Int) ≤ cap) :
    Calls Try.prog 133 #[.pointer (some ⟨g, 0, none⟩), .agg #[.int .i64 x.typ, .int .i64 x.id, .int .i64 x.adv, .int .i64 x.due]] w fun e w' => ∃ E m d, e = .returned (.agg #[.int .i64 cap, .bool (putM cap mk ys x), .slice E m d]) ∧ Hid (OwnF 66 4 tcell w' w.heap.size E m d (putY cap ys x)) ∧ Below w.heap.size w w' := by
  have hl := ha.1
  obtain ⟨V, hV⟩ : ∃ V : World, V = (w.alloc (.cells #[.int .i64 x.typ, .int .i64 x.id, .int .i64 x.adv, .int .i64 x.due] 66)).alloc (.cells #[.int .i64 0, .bool false, .slice none 0 0] 59) := ⟨_, rfl⟩
  have hbV : Below w.heap.size w V := by rw [hV]; exact ((Below.refl _ _).alloc (Nat.le_refl _) _).alloc (by simp) _
  have HX : Hid (Box V w.heap.size 66 #[.int .i64 x.typ, .int .i64 x.id, .int .i64 x.adv, .int .i64 x.due]) := Lib.hid (by rw [hV]; exact (Box.made _ _ _).over _)
  have HR : Hid (Box V (w.heap.size + 1) 59 #[.int .i64 0, .bool false, .slice none 0 0]) := Lib.hid (by rw [hV]; exact Box.made_at _ _ _ (by simp))
  have HG := Lib.hid (hg.below hbV)
  have HA := (Rep.Sl.kept ha hh).below hbV
  have HB := Lib.hid hbV
  have HZ : Hid (w.heap.size + 2 = V.heap.size ∧ g < w.heap.size) := Lib.hid ⟨by rw [hV]; simp, hg.lt⟩
  have HAV : Hid (hi ≤ V.heap.size) := Lib.hid (Nat.le_trans hh hbV.size)
  clear hg ha hbV
  go_enter Try.func133, Try.ntmps133
  go_upto_region 1 with (fail)
  rw [← hV]
  clear hV
  have SB : Hid (∀ W, Hid (Below V.heap.size V W) → (fun W : World => W.cell? ⟨g, 0, none⟩ = some (.int .i64 cap) ∧ W.cell? ⟨g, 1, none⟩ = some (.bool mk)) W) := fun W h => ⟨(HG.out.below h.out).look 0, (HG.out.below h.out).look 1⟩
  have V0 : Hid (Below V.heap.size V V.drew) := (Below.refl _ _).drew
  have VA : ∀ o, Hid (Below V.heap.size V (V.alloc o).drew) := fun o => ((Below.refl _ _).alloc (Nat.le_refl _) o).drew
  go_cut [5] (fun s5 wx => s5 = .pointer (some ⟨V.heap.size, 0, none⟩) ∧ Hid (Box wx V.heap.size 59 #[.int .i64 cap, .bool mk, .slice none 0 0]) ∧ Hid (Below V.heap.size V wx))
  case first =>
    go_region_held3 (fun W : World => W.cell? ⟨g, 0, none⟩ = some (.int .i64 cap) ∧ W.cell? ⟨g, 1, none⟩ = some (.bool mk)) (first | (with_reducible exact SB.out _ V0) | (with_reducible exact SB.out _ (VA _)))
      (fail)
    all_goals (go_wp2_with fail; go_meet; exact ⟨rfl, Lib.hid (show Box (V.alloc _).drew V.heap.size 59 _ from Box.made _ _ _), VA _⟩)
  obtain ⟨rfl, HQ, HV1⟩ := hcut
  obtain ⟨w1, rfl⟩ : ∃ W : World, W = wc := ⟨_, rfl⟩
  clear SB V0 VA
  go_wp2
  go_loopw [6] (fun i wr => ∃ (k : Nat) (E : Option Addr) (m d : Nat), k ≤ n ∧ i = .int .i64 k ∧ Hid (Box wr V.heap.size 59 #[.int .i64 cap, .bool mk, .slice E m d]) ∧ Hid (OwnF 66 4 tcell wr (V.heap.size + 1) E m d (without (ys.take k) x)) ∧ Hid (Below V.heap.size V wr)) (fun i _ => n - (intOf i).toNat)
  case atStart => exact ⟨0, none, 0, 0, Nat.zero_le _, rfl, HQ, Lib.hid (OwnF.nil_ _ _ _ _ _), HV1⟩
  case round =>
    obtain ⟨k, E, m, d, hk, rfl, HQ, HO, HV1⟩ := hrel
    by_cases hlt : k < n
    · obtain ⟨b, o, a, rfl, hya, a0, a1, a2, a3⟩ := Rep.timer_at (HA.below HV1.out).sl hlt
      have hlt' : (k : Int) < n := by omega
      have hm : m ≤ n := by have h1 := HO.out.1; have h2 := without_le (ys.take k) x; rw [List.length_take] at h2; omega
      have HYA := Lib.hid hya
      have g2 := (HG.out.below HV1.out).look 2
      have gl := (HG.out.below HV1.out).lt
      have x0 := (HX.out.below HV1.out).look 0
      have x1 := (HX.out.below HV1.out).look 1
      have x2 := (HX.out.below HV1.out).look 2
      have xl := (HX.out.below HV1.out).lt
      clear hya
      cases hkt : keyT a x with
      | true =>
        have HW := Lib.hid (without_take_yes HYA.out hkt)
        go_wp2
        go_quiet (fail)
        go_wp2
        go_roundw
        case rel => exact ⟨k + 1, E, m, d, by omega, by go_num, HQ, by rw [HW.out]; exact HO, Lib.hid (below_drewN HV1.out _)⟩
        case measure => simp [intOf]; omega
      | false =>
        have HW := Lib.hid (without_take_no HYA.out hkt)
        go_wp2
        go_quiet (fail)
        go_upto_region 6 with (fail)
        refine Code.wp_name ?_
        intro u hu
        have HVu : Hid (Below V.heap.size V u) := Lib.hid (by rw [hu]; first | exact below_drewN HV1.out _ | exact HV1.out.drew)
        have HQu : Hid (Box u V.heap.size 59 #[.int .i64 cap, .bool mk, .slice E m d]) := Lib.hid (by rw [hu]; exact HQ.out)
        have HOu : Hid (OwnF 66 4 tcell u (V.heap.size + 1) E m d (without (ys.take k) x)) := Lib.hid (by rw [hu]; exact HO.out)
        have b0 : u.cell? ⟨b, o + k * 4, none⟩ = some (.int .i64 a.typ) := by rw [hu]; exact a0
        have b1 : u.cell? ⟨b, o + k * 4 + 1, none⟩ = some (.int .i64 a.id) := by rw [hu]; exact a1
        have b2 : u.cell? ⟨b, o + k * 4 + 2, none⟩ = some (.int .i64 a.adv) := by rw [hu]; exact a2
        have b3 : u.cell? ⟨b, o + k * 4 + 3, none⟩ = some (.int .i64 a.due) := by rw [hu]; exact a3
        have bl := World.block_lt_of_cell? _ _ b0
        clear a0 a1 a2 a3 g2 gl x0 x1 x2 xl hu HQ HO
        have g2 := (HG.out.below HVu.out).look 2
        have gl := (HG.out.below HVu.out).lt
        have q2 := HQu.out.look 2
        have ql := HQu.out.lt
        have hbE : Below u.heap.size u (u.alloc (.cells #[.int .i64 a.typ, .int .i64 a.id, .int .i64 a.adv, .int .i64 a.due] 66)).drew := ((Below.refl _ _).alloc (Nat.le_refl _) _).drew
        have HOL : Hid (OwnF 66 4 tcell (u.alloc (.cells #[.int .i64 a.typ, .int .i64 a.id, .int .i64 a.adv, .int .i64 a.due] 66)).drew (V.heap.size + 1) E m d (without (ys.take k) x)) := Lib.hid (HOu.out.below hbE)
        have HQL : Hid (Box (u.alloc (.cells #[.int .i64 a.typ, .int .i64 a.id, .int .i64 a.adv, .int .i64 a.due] 66)).drew V.heap.size 59 #[.int .i64 cap, .bool mk, .slice E m d]) := Lib.hid (HQu.out.below hbE)
        have HE : Hid (InF 4 tcell (u.alloc (.cells #[.int .i64 a.typ, .int .i64 a.id, .int .i64 a.adv, .int .i64 a.due] 66)).drew (some ⟨u.heap.size, 0, none⟩) 1 [a]) := Lib.hid ((show Box (u.alloc (.cells #[.int .i64 a.typ, .int .i64 a.id, .int .i64 a.adv, .int .i64 a.due] 66)).drew u.heap.size 66 #[.int .i64 a.typ, .int .i64 a.id, .int .i64 a.adv, .int .i64 a.due] from Box.made _ _ _).inF [a] rfl)
        have HBL : Hid (V.heap.size + 1 ≤ (u.alloc (.cells #[.int .i64 a.typ, .int .i64 a.id, .int .i64 a.adv, .int .i64 a.due] 66)).drew.heap.size) := Lib.hid (Nat.le_trans ql hbE.size)
        have HVL := Lib.hid (HVu.out.trans (hbE.mono HVu.out.size))
        have HNE : Hid (E.map (·.block) ≠ some V.heap.size) := Lib.hid (OwnF.ne_box HOu.out HQu.out (by decide))
        clear hbE
        go_region_law (first | ((show (if Region.wanted (Oper.mk (some 46) _ _ _ _ _) _ = true then _ else _)); refine step_appI0 tcell_len tcell_one Try.underlying57 itemInfo rfl (by decide) (by decide) (by rfl) (.tmp 37) (.tmp 45) (by rfl) (B := V.heap.size + 1) (by rfl) HOL.out (by rfl) HE.out (by omega) HBL.out ?_; intro E3 d3 u3 ho3 hgr; have HO3 := Lib.hid ho3; have HQ3 := Lib.hid (HQL.out.grown hgr HNE.out); have HV3 := Lib.hid (HVL.out.grown hgr (Nat.le_of_succ_le HBL.out) (fun r hr => by have := (HOL.out.block r hr).1; omega)); have k2 := HQ3.out.look 2; have kf := HQ3.out.free 2; have kl := HQ3.out.lt; clear ho3 hgr))
        all_goals
          obtain ⟨X, hX⟩ : ∃ X : World, X = u3.setCell ⟨V.heap.size, 2, none⟩ (.slice E3 (m + 1) d3) := ⟨_, rfl⟩
          have hgx : u3.grownBy X (some V.heap.size) := by rw [hX]; exact setCell_grown _ _ _
          have HQX : Hid (Box X V.heap.size 59 #[.int .i64 cap, .bool mk, .slice E3 (m + 1) d3]) := Lib.hid (by rw [hX]; exact HQ3.out.puts 2 (.slice E3 (m + 1) d3) rfl)
          have HOX := Lib.hid (HO3.out.aside hgx (fun r hr e => by injection e with e; have := (HO3.out.block r hr).1; omega))
          have HVX := Lib.hid (HV3.out.grown hgx (Nat.le_of_lt kl) (fun r hr => by injection hr with hr; omega))
          clear b0 b1 b2 b3 bl g2 gl q2 ql k2 kf kl hgx HO3 HQ3 HV3 HVu
          go_wp2
          rw [← hX]
          go_roundw
          case rel => exact ⟨k + 1, E3, m + 1, d3, by omega, by go_num, HQX, by rw [HW.out]; exact HOX, HVX⟩
          case measure => simp [intOf]; omega
    · have HWY : Hid (without (ys.take k) x = without ys x) := Lib.hid (by rw [List.take_of_length_le (by omega)])
      have HOY : Hid (OwnF 66 4 tcell wr (V.heap.size + 1) E m d (without ys x)) := Lib.hid (by rw [← HWY.out]; exact HO.out)
      have hm : m ≤ 1000 := by have h1 := HOY.out.1; have h2 := without_le ys x; omega
      have hmc : (m : Int) ≤ cap := by have h1 := HOY.out.1; have h2 := without_le ys x; omega
      have HML := Lib.hid HOY.out.1
      have g0 := (HG.out.below HV1.out).look 0
      have g2 := (HG.out.below HV1.out).look 2
      have gl := (HG.out.below HV1.out).lt
      have q2 := HQ.out.look 2
      have ql := HQ.out.lt
      clear HO HWY
      go_wp2
      go_quiet (fail)
      obtain ⟨u, hu⟩ : ∃ W : World, W = wr.drewN nq := ⟨_, rfl⟩
      rw [← hu]
      have HVu : Hid (Below V.heap.size V u) := Lib.hid (by rw [hu]; first | exact below_drewN HV1.out _ | exact HV1.out.drew)
      have HQu : Hid (Box u V.heap.size 59 #[.int .i64 cap, .bool mk, .slice E m d]) := Lib.hid (by rw [hu]; exact HQ.out)
      have HOu : Hid (OwnF 66 4 tcell u (V.heap.size + 1) E m d (without ys x)) := Lib.hid (by rw [hu]; exact HOY.out)
      clear hu HQ HOY HV1 g0 g2 gl q2 ql
      by_cases hfull : ((without ys x).length : Int) = cap
      · have HPM : Hid (putM cap mk ys x = true ∧ putY cap ys x = [] ++ [x]) := Lib.hid ⟨if_pos hfull, by unfold putY; rw [if_pos hfull]; rfl⟩
        have hcm : cap ≤ (m : Int) := by rw [HML.out] at hfull; omega
        clear hfull
        have q1 := HQu.out.look 1
        have q2 := HQu.out.look 2
        have f1 := HQu.out.free 1
        have f2 := HQu.out.free 2
        have ql := HQu.out.lt
        go_upto_region 10 with (fail)
        refine Code.wp_name ?_
        intro T hT
        obtain ⟨u', hu'⟩ : ∃ W : World, W = (u.setCell ⟨V.heap.size, 2, none⟩ (.slice (some ⟨u.heap.size, 0, none⟩) 0 0)).setCell ⟨V.heap.size, 1, none⟩ (.bool true) := ⟨_, rfl⟩
        have hT2 : T = u'.alloc (.cells #[] 66) := by rw [hT, hu']
        have hus : u'.heap.size = u.heap.size := by rw [hu']; simp [World.setCell]
        have hgu : u.grownBy u' (some V.heap.size) := by rw [hu']; exact grown_trans (setCell_grown _ _ _) (setCell_grown _ _ _)
        have HQ' : Hid (Box u' V.heap.size 59 #[.int .i64 cap, .bool true, .slice (some ⟨u.heap.size, 0, none⟩) 0 0]) := Lib.hid (by rw [hu']; exact (HQu.out.puts 2 (.slice (some ⟨u.heap.size, 0, none⟩) 0 0) (cs' := #[.int .i64 cap, .bool mk, .slice (some ⟨u.heap.size, 0, none⟩) 0 0]) rfl).puts 1 (.bool true) (cs' := #[.int .i64 cap, .bool true, .slice (some ⟨u.heap.size, 0, none⟩) 0 0]) rfl)
        have hbT : Below u'.heap.size u' T := by rw [hT2]; exact (Below.refl _ _).alloc (Nat.le_refl _) _
        have HQT := Lib.hid (HQ'.out.below hbT)
        have HOT : Hid (OwnF 66 4 tcell T (V.heap.size + 1) (some ⟨u.heap.size, 0, none⟩) 0 0 []) := Lib.hid (by rw [hT2, ← hus]; exact (emptyF 66 4 tcell u').mono (by rw [hus]; exact ql))
        have HVT : Hid (Below V.heap.size V T) := Lib.hid ((HVu.out.grown hgu HVu.out.size (fun r hr => by injection hr with hr; omega)).trans (hbT.mono (by rw [hus]; exact HVu.out.size)))
        clear hT hT2 hu' hus hgu hbT
        clear q1 q2 f1 f2 ql HQu HOu HVu
        have q0 := HQT.out.look 0
        have q1 := HQT.out.look 1
        have q2 := HQT.out.look 2
        have ql := HQT.out.lt
        have x0 := (HX.out.below HVT.out).look 0
        have x1 := (HX.out.below HVT.out).look 1
        have x2 := (HX.out.below HVT.out).look 2
        have x3 := (HX.out.below HVT.out).look 3
        have xl := (HX.out.below HVT.out).lt
        have HNE : Hid ((some ⟨u.heap.size, 0, none⟩ : Option Addr).map (·.block) ≠ some V.heap.size) := Lib.hid (OwnF.ne_box HOT.out HQT.out (by decide))
        have hbE : Below T.heap.size T (T.alloc (.cells #[.int .i64 x.typ, .int .i64 x.id, .int .i64 x.adv, .int .i64 x.due] 66)) := (Below.refl _ _).alloc (Nat.le_refl _) _
        have HOL : Hid (OwnF 66 4 tcell (T.alloc (.cells #[.int .i64 x.typ, .int .i64 x.id, .int .i64 x.adv, .int .i64 x.due] 66)) (V.heap.size + 1) (some ⟨u.heap.size, 0, none⟩) 0 0 []) := Lib.hid (HOT.out.below hbE)
        have HQL : Hid (Box (T.alloc (.cells #[.int .i64 x.typ, .int .i64 x.id, .int .i64 x.adv, .int .i64 x.due] 66)) V.heap.size 59 #[.int .i64 cap, .bool true, .slice (some ⟨u.heap.size, 0, none⟩) 0 0]) := Lib.hid (HQT.out.below hbE)
        have HE : Hid (InF 4 tcell (T.alloc (.cells #[.int .i64 x.typ, .int .i64 x.id, .int .i64 x.adv, .int .i64 x.due] 66)) (some ⟨T.heap.size, 0, none⟩) 1 [x]) := Lib.hid ((Box.made T 66 #[.int .i64 x.typ, .int .i64 x.id, .int .i64 x.adv, .int .i64 x.due]).inF [x] rfl)
        have HBL : Hid (V.heap.size + 1 ≤ (T.alloc (.cells #[.int .i64 x.typ, .int .i64 x.id, .int .i64 x.adv, .int .i64 x.due] 66)).heap.size) := Lib.hid (Nat.le_trans ql hbE.size)
        have HVL := Lib.hid (HVT.out.trans (hbE.mono HVT.out.size))
        clear hbE
        go_wp2_with (at_builtin; refine wpList_appF0 tcell_len tcell_one Try.underlying57 itemInfo rfl (by decide) (by decide) rfl (.tmp 60) (.tmp 62) rfl (B := V.heap.size + 1) rfl HOL.out rfl HE.out (by omega) HBL.out ?_; intro E3 d3 u3 ho3 hgr; have HO3 := Lib.hid ho3; have HQ3 := Lib.hid (HQL.out.grown hgr HNE.out); have HV3 := Lib.hid (HVL.out.grown hgr (Nat.le_of_succ_le HBL.out) (fun r hr => by have := (HOL.out.block r hr).1; omega)); have HR3 := Lib.hid (HR.out.below HV3.out); have k0 := HQ3.out.look 0; have k1 := HQ3.out.look 1; have k2 := HQ3.out.look 2; have kf := HQ3.out.free 2; have kl := HQ3.out.lt; have r0 := HR3.out.look 0; have r1 := HR3.out.look 1; have r2 := HR3.out.look 2; have p0 := HR3.out.free 0; have p1 := HR3.out.free 1; have p2 := HR3.out.free 2; have rl := HR3.out.lt; have hqr : ¬ V.heap.size = w.heap.size + 1 := (by have := HZ.out.1; omega); have hrq : ¬ w.heap.size + 1 = V.heap.size := (by have := HZ.out.1; omega); clear ho3 hgr q0 q1 q2 ql x0 x1 x2 x3 xl)
        obtain ⟨X1, hX1⟩ : ∃ X : World, X = u3.setCell ⟨V.heap.size, 2, none⟩ (.slice E3 (0 + 1) d3) := ⟨_, rfl⟩
        have hg1 : u3.grownBy X1 (some V.heap.size) := by rw [hX1]; exact setCell_grown _ _ _
        have HR4 := Lib.hid (HR3.out.grown hg1 (fun e => by injection e with e; have := HZ.out.1; omega))
        have HO4 := Lib.hid (HO3.out.aside hg1 (fun r hr e => by injection e with e; have := (HO3.out.block r hr).1; omega))
        have HV4 := Lib.hid (HV3.out.grown hg1 (Nat.le_of_lt kl) (fun r hr => by injection hr with hr; omega))
        obtain ⟨X, hX⟩ : ∃ X : World, X = ((X1.setCell ⟨w.heap.size + 1, 0, none⟩ (.int .i64 cap)).setCell ⟨w.heap.size + 1, 1, none⟩ (.bool true)).setCell ⟨w.heap.size + 1, 2, none⟩ (.slice E3 (0 + 1) d3) := ⟨_, rfl⟩
        have ho5 : Only (w.heap.size + 1) (w.heap.size + 1 + 1) X1 X := by rw [hX]; exact (((Only.refl _ _ _).set (p := ⟨w.heap.size + 1, 0, none⟩) (Nat.le_refl _) (Nat.lt_succ_self _) _).set (p := ⟨w.heap.size + 1, 1, none⟩) (Nat.le_refl _) (Nat.lt_succ_self _) _).set (p := ⟨w.heap.size + 1, 2, none⟩) (Nat.le_refl _) (Nat.lt_succ_self _) _
        have HRX : Hid (Box X (w.heap.size + 1) 59 #[.int .i64 cap, .bool true, .slice E3 (0 + 1) d3]) := Lib.hid (by rw [hX]; exact ((HR4.out.puts 0 (.int .i64 cap) (cs' := #[.int .i64 cap, .bool false, .slice none 0 0]) rfl).puts 1 (.bool true) (cs' := #[.int .i64 cap, .bool true, .slice none 0 0]) rfl).puts 2 (.slice E3 (0 + 1) d3) (cs' := #[.int .i64 cap, .bool true, .slice E3 (0 + 1) d3]) rfl)
        have HOX : Hid (OwnF 66 4 tcell X w.heap.size E3 (0 + 1) d3 (putY cap ys x)) := Lib.hid (by rw [HPM.out.2]; exact (HO4.out.aside (Only.grown_ ho5) (fun r hr e => by injection e with e; have := (HO4.out.block r hr).1; have := HZ.out.1; omega)).mono (by have := HZ.out.1; omega))
        have HBX : Hid (Below w.heap.size w X) := Lib.hid (Below.only (HB.out.trans (HV4.out.mono (by have := HZ.out.1; omega))) ho5 (Nat.le_succ _) (by have := HV4.out.size; have := HZ.out.1; omega))
        clear k0 k1 k2 kf kl r0 r1 r2 p0 p1 p2 rl hqr hrq hg1 ho5 HR4 HO4 HV4 HO3 HQ3 HV3 HR3
        try go_wp2
        have y0 := HRX.out.look 0
        have y1 := HRX.out.look 1
        have y2 := HRX.out.look 2
        subst hX hX1
        exact bodyPost_ret (v := .agg #[.int .i64 cap, .bool true, .slice E3 (0 + 1) d3]) (by simp [results, Try.results133, go_sem, y0, y1, y2]) rfl (by rw [HPM.out.1]; exact ⟨E3, 0 + 1, d3, rfl, HOX, HBX.out⟩)
      · have HPM : Hid (putM cap mk ys x = mk ∧ putY cap ys x = (without ys x) ++ [x]) := Lib.hid ⟨if_neg hfull, by unfold putY; rw [if_neg hfull]⟩
        have hcm : ¬ cap ≤ (m : Int) := by rw [HML.out] at hfull; omega
        clear hfull
        have q1 := HQu.out.look 1
        have q2 := HQu.out.look 2
        have f1 := HQu.out.free 1
        have f2 := HQu.out.free 2
        have ql := HQu.out.lt
        go_upto_region 10 with (fail)
        refine Code.wp_name ?_
        intro T hT
        have HQT : Hid (Box T V.heap.size 59 #[.int .i64 cap, .bool mk, .slice E m d]) := Lib.hid (by rw [hT]; exact HQu.out)
        have HOT : Hid (OwnF 66 4 tcell T (V.heap.size + 1) E m d (without ys x)) := Lib.hid (by rw [hT]; exact HOu.out)
        have HVT : Hid (Below V.heap.size V T) := Lib.hid (by rw [hT]; exact HVu.out)
        clear hT
        clear q1 q2 f1 f2 ql HQu HOu HVu
        have q0 := HQT.out.look 0
        have q1 := HQT.out.look 1
        have q2 := HQT.out.look 2
        have ql := HQT.out.lt
        have x0 := (HX.out.below HVT.out).look 0
        have x1 := (HX.out.below HVT.out).look 1
        have x2 := (HX.out.below HVT.out).look 2
        have x3 := (HX.out.below HVT.out).look 3
        have xl := (HX.out.below HVT.out).lt
        have HNE : Hid ((E : Option Addr).map (·.block) ≠ some V.heap.size) := Lib.hid (OwnF.ne_box HOT.out HQT.out (by decide))
        have hbE : Below T.heap.size T (T.alloc (.cells #[.int .i64 x.typ, .int .i64 x.id, .int .i64 x.adv, .int .i64 x.due] 66)) := (Below.refl _ _).alloc (Nat.le_refl _) _
        have HOL : Hid (OwnF 66 4 tcell (T.alloc (.cells #[.int .i64 x.typ, .int .i64 x.id, .int .i64 x.adv, .int .i64 x.due] 66)) (V.heap.size + 1) (E) m d (without ys x)) := Lib.hid (HOT.out.below hbE)
        have HQL : Hid (Box (T.alloc (.cells #[.int .i64 x.typ, .int .i64 x.id, .int .i64 x.adv, .int .i64 x.due] 66)) V.heap.size 59 #[.int .i64 cap, .bool mk, .slice (E) m d]) := Lib.hid (HQT.out.below hbE)
        have HE : Hid (InF 4 tcell (T.alloc (.cells #[.int .i64 x.typ, .int .i64 x.id, .int .i64 x.adv, .int .i64 x.due] 66)) (some ⟨T.heap.size, 0, none⟩) 1 [x]) := Lib.hid ((Box.made T 66 #[.int .i64 x.typ, .int .i64 x.id, .int .i64 x.adv, .int .i64 x.due]).inF [x] rfl)
        have HBL : Hid (V.heap.size + 1 ≤ (T.alloc (.cells #[.int .i64 x.typ, .int .i64 x.id, .int .i64 x.adv, .int .i64 x.due] 66)).heap.size) := Lib.hid (Nat.le_trans ql hbE.size)
        have HVL := Lib.hid (HVT.out.trans (hbE.mono HVT.out.size))
        clear hbE
        go_wp2_with (at_builtin; refine wpList_appF0 tcell_len tcell_one Try.underlying57 itemInfo rfl (by decide) (by decide) rfl (.tmp 60) (.tmp 62) rfl (B := V.heap.size + 1) rfl HOL.out rfl HE.out (by omega) HBL.out ?_; intro E3 d3 u3 ho3 hgr; have HO3 := Lib.hid ho3; have HQ3 := Lib.hid (HQL.out.grown hgr HNE.out); have HV3 := Lib.hid (HVL.out.grown hgr (Nat.le_of_succ_le HBL.out) (fun r hr => by have := (HOL.out.block r hr).1; omega)); have HR3 := Lib.hid (HR.out.below HV3.out); have k0 := HQ3.out.look 0; have k1 := HQ3.out.look 1; have k2 := HQ3.out.look 2; have kf := HQ3.out.free 2; have kl := HQ3.out.lt; have r0 := HR3.out.look 0; have r1 := HR3.out.look 1; have r2 := HR3.out.look 2; have p0 := HR3.out.free 0; have p1 := HR3.out.free 1; have p2 := HR3.out.free 2; have rl := HR3.out.lt; have hqr : ¬ V.heap.size = w.heap.size + 1 := (by have := HZ.out.1; omega); have hrq : ¬ w.heap.size + 1 = V.heap.size := (by have := HZ.out.1; omega); clear ho3 hgr q0 q1 q2 ql x0 x1 x2 x3 xl)
        obtain ⟨X1, hX1⟩ : ∃ X : World, X = u3.setCell ⟨V.heap.size, 2, none⟩ (.slice E3 (m + 1) d3) := ⟨_, rfl⟩
        have hg1 : u3.grownBy X1 (some V.heap.size) := by rw [hX1]; exact setCell_grown _ _ _
        have HR4 := Lib.hid (HR3.out.grown hg1 (fun e => by injection e with e; have := HZ.out.1; omega))
        have HO4 := Lib.hid (HO3.out.aside hg1 (fun r hr e => by injection e with e; have := (HO3.out.block r hr).1; omega))
        have HV4 := Lib.hid (HV3.out.grown hg1 (Nat.le_of_lt kl) (fun r hr => by injection hr with hr; omega))
        obtain ⟨X, hX⟩ : ∃ X : World, X = ((X1.setCell ⟨w.heap.size + 1, 0, none⟩ (.int .i64 cap)).setCell ⟨w.heap.size + 1, 1, none⟩ (.bool mk)).setCell ⟨w.heap.size + 1, 2, none⟩ (.slice E3 (m + 1) d3) := ⟨_, rfl⟩
        have ho5 : Only (w.heap.size + 1) (w.heap.size + 1 + 1) X1 X := by rw [hX]; exact (((Only.refl _ _ _).set (p := ⟨w.heap.size + 1, 0, none⟩) (Nat.le_refl _) (Nat.lt_succ_self _) _).set (p := ⟨w.heap.size + 1, 1, none⟩) (Nat.le_refl _) (Nat.lt_succ_self _) _).set (p := ⟨w.heap.size + 1, 2, none⟩) (Nat.le_refl _) (Nat.lt_succ_self _) _
        have HRX : Hid (Box X (w.heap.size + 1) 59 #[.int .i64 cap, .bool mk, .slice E3 (m + 1) d3]) := Lib.hid (by rw [hX]; exact ((HR4.out.puts 0 (.int .i64 cap) (cs' := #[.int .i64 cap, .bool false, .slice none 0 0]) rfl).puts 1 (.bool mk) (cs' := #[.int .i64 cap, .bool mk, .slice none 0 0]) rfl).puts 2 (.slice E3 (m + 1) d3) (cs' := #[.int .i64 cap, .bool mk, .slice E3 (m + 1) d3]) rfl)
        have HOX : Hid (OwnF 66 4 tcell X w.heap.size E3 (m + 1) d3 (putY cap ys x)) := Lib.hid (by rw [HPM.out.2]; exact (HO4.out.aside (Only.grown_ ho5) (fun r hr e => by injection e with e; have := (HO4.out.block r hr).1; have := HZ.out.1; omega)).mono (by have := HZ.out.1; omega))
        have HBX : Hid (Below w.heap.size w X) := Lib.hid (Below.only (HB.out.trans (HV4.out.mono (by have := HZ.out.1; omega))) ho5 (Nat.le_succ _) (by have := HV4.out.size; have := HZ.out.1; omega))
        clear k0 k1 k2 kf kl r0 r1 r2 p0 p1 p2 rl hqr hrq hg1 ho5 HR4 HO4 HV4 HO3 HQ3 HV3 HR3
        try go_wp2
        have y0 := HRX.out.look 0
        have y1 := HRX.out.look 1
        have y2 := HRX.out.look 2
        subst hX hX1
        exact bodyPost_ret (v := .agg #[.int .i64 cap, .bool mk, .slice E3 (m + 1) d3]) (by simp [results, Try.results133, go_sem, y0, y1, y2]) rfl (by rw [HPM.out.1]; exact ⟨E3, m + 1, d3, rfl, HOX, HBX.out⟩)
end

end Go.Proofs.Ytiffhjofabaflaa

namespace Go.Proofs.Ytiffhjofabaflaa
open Go.RowKit
set_option linter.unusedVariables false

theorem putY_le {cap : Int} {ys : List Tmr} (x : Tmr) (h1 : 1 ≤ cap) (h : (ys.length : Int) ≤ cap) : ((putY cap ys x).length : Int) ≤ cap := by
  have hw := without_le ys x
  unfold putY
  split
  · simp; omega
  · rw [List.length_append]; simp only [List.length_cons, List.length_nil]; omega

set_option maxRecDepth 100000 in
set_option maxHeartbeats 6400000 in
theorem l6Draw_any (g : Nat) (A0 : Option Addr) (n0 c0 : Nat) (cs : List Int) (K : Nat) (w : World) (hs : Dr w g A0 n0 c0 cs K w) (hK : K ≤ 80000) :
    Calls Try.prog 130 #[.pointer (some ⟨g, 0, none⟩)] w fun e w' => ∃ (cap : Int) (mk : Bool) (E : Option Addr) (m d : Nat) (ys : List Tmr), e = .returned (.agg #[.int .i64 cap, .bool mk, .slice E m d]) ∧ Kept w.heap.size w'.heap.size (OwnFK 66 4 tcell (w.heap.size) (w'.heap.size) E m d ys) w' ∧ m ≤ 8 ∧ Dr w g A0 n0 c0 cs (K + 60) w' := by
  have HS := hs
  have Zg : Hid (g < w.heap.size) := Lib.hid hs.lt
  clear hs
  go_enter Try.func130, Try.ntmps130
  go_wp2_with fail
  refine Calls.name ?_
  intro U1 hU1
  have hb : Below w.heap.size w U1 := by rw [hU1]; exact (((Below.refl _ _).alloc (Nat.le_refl _) _).alloc (by simp <;> omega) _)
  have zz : Hid (w.heap.size + 2 = U1.heap.size) := Lib.hid (by rw [hU1]; simp)
  have HX1 : Kept w.heap.size (w.heap.size + 1) (BoxK w.heap.size 59 #[.int .i64 0, .bool false, .slice none 0 0]) U1 := by rw [hU1]; exact Kept.box ((Box.made_at _ _ _ rfl).over _)
  have HX2 : Kept (w.heap.size + 1) (w.heap.size + 1 + 1) (BoxK (w.heap.size + 1) 2 #[.int .i64 1, .int .i64 2, .int .i64 3, .int .i64 8]) U1 := by rw [hU1]; exact Kept.box (Box.made_at _ _ _ (by simp <;> omega))
  replace HS := HS.below hb
  clear hb
  have Z1 := zz; clear zz
  have Y1 := Lib.hid (And.intro Zg.out Z1.out); clear Zg Z1
  clear hU1
  refine (dPick (w.heap.size + 1) 4 [1, 2, 3, 8] HS.here (by omega) HX2.bx rfl rfl (by omega) (by omega) (by have := Y1.out; omega)).mono ?_
  rintro e w2 ⟨va, rfl, hv, hs⟩
  have ho := hs.fr
  have Z2 := Lib.hid ho.size
  have Y2 := Lib.hid (And.intro Y1.out Z2.out); clear Y1 Z2
  clear HX2
  replace HX1 := HX1.only ho (by have := Y2.out; omega)
  replace HS := HS.next hs; clear ho hs
  have HVva : Hid (1 ≤ va ∧ va ≤ 8) := Lib.hid (by simp only [List.mem_cons, List.not_mem_nil, or_false] at hv; omega)
  clear hv
  have l2_0 := HX1.bx.lt
  go_wp2_with fail
  clear l2_0
  refine Calls.name ?_
  intro U3 hU3
  have hb : Below w2.heap.size w2 U3 := by rw [hU3]; exact ((Below.refl _ _).alloc (Nat.le_refl _) _)
  have zz : Hid (w2.heap.size + 1 = U3.heap.size) := Lib.hid (by rw [hU3]; simp)
  have HX3 : Kept w2.heap.size (w2.heap.size + 1) (BoxK w2.heap.size 59 #[.int .i64 va, .bool false, .slice none 0 0]) U3 := by rw [hU3]; exact Kept.box (Box.made_at _ _ _ rfl)
  replace HS := HS.below hb
  replace HX1 := HX1.below hb
  clear hb
  have Z3 := zz; clear zz
  have Y3 := Lib.hid (And.intro Y2.out Z3.out); clear Y2 Z3
  clear hU3
  refine (dNext 12 HS.here (by omega) (by omega) (by omega)).mono ?_
  rintro e w4 ⟨vn, rfl, hvn0, hvn1, hs⟩
  have ho := hs.fr
  have Z4 := Lib.hid ho.size
  have Y4 := Lib.hid (And.intro Y3.out Z4.out); clear Y3 Z4
  replace HX1 := HX1.only ho (by have := Y4.out; omega)
  replace HX3 := HX3.only ho (by have := Y4.out; omega)
  replace HS := HS.next hs; clear ho hs
  have l3_0 := HX1.bx.lt
  have l3_1 := HX3.bx.lt
  go_wp2
  clear l3_0 l3_1
  obtain ⟨n, rfl⟩ : ∃ n : Nat, vn = n := ⟨vn.toNat, by omega⟩
  have hva := HVva.out
  have Zr := Lib.hid HX3.le
  have Y5 := Lib.hid (And.intro Y4.out Zr.out); clear Y4 Zr
  go_loopw [4, 5] (fun t4 t5 wr => ∃ (j : Nat) (rev : Int) (E : Option Addr) (m d : Nat) (mk : Bool) (ys : List Tmr), t4 = .int .i64 rev ∧ t5 = .int .i64 j ∧ j ≤ 11 ∧ 0 ≤ rev ∧ rev + 4 * j ≤ 100 ∧ Dr w g A0 n0 c0 cs (K + 2 + 4 * (12 - j)) wr ∧ Kept w.heap.size (w.heap.size + 1) (BoxK w.heap.size 59 #[.int .i64 0, .bool false, .slice none 0 0]) wr ∧ Kept (w2.heap.size) (w2.heap.size + 1) (BoxK (w2.heap.size) 59 #[.int .i64 va, .bool mk, .slice E m d]) wr ∧ Kept w.heap.size wr.heap.size (OwnFK 66 4 tcell (w.heap.size) (wr.heap.size) E m d ys) wr ∧ Hid ((ys.length : Int) ≤ va) ∧ Hid (w4.heap.size ≤ wr.heap.size)) (fun _ t5 _ => (intOf t5).toNat)
  case atStart => exact ⟨n, 0, none, 0, 0, false, [], rfl, rfl, by omega, Int.le_refl _, by omega, HS.more (by omega), HX1, HX3, OwnFK.nil_ _ _ _ _ (Nat.le_refl _), Lib.hid (by simp <;> omega), Lib.hid (Nat.le_refl _)⟩
  case round =>
    obtain ⟨j, rev, E, m, d, mk, ys, rfl, rfl, hj, hr0, hr1, HS, HX1, HQ, HO, HLE, HZW⟩ := hrel
    have Y99 := Lib.hid (And.intro Y5.out HZW.out); clear Y5 HZW
    have hlen := HO.ownF.1
    have hm8 : m ≤ 8 := by have := HLE.out; omega
    clear hlen
    by_cases hj0 : 0 < j
    · obtain ⟨i, rfl⟩ : ∃ i, j = i + 1 := ⟨j - 1, by omega⟩
      have hjp : (0 : Int) < ((i + 1 : Nat) : Int) := by omega
      have l4_0 := HX1.bx.lt
      have l4_1 := HQ.bx.lt
      go_wp2_with fail
      clear l4_0 l4_1
      refine (dNext 3 HS.here (by omega) (by omega) (by omega)).mono ?_
      rintro e w5 ⟨vt, rfl, hvt0, hvt1, hs⟩
      have ho := hs.fr
      have Z5 := Lib.hid ho.size
      have Y6 := Lib.hid (And.intro Y99.out Z5.out); clear Y99 Z5
      replace HX1 := HX1.only ho (by have := Y6.out; omega)
      replace HQ := HQ.only ho (by have := Y6.out; omega)
      replace HO := HO.only ho (by have := Y6.out; omega)
      replace HS := HS.next hs; clear ho hs
      have l5_0 := HX1.bx.lt
      have l5_1 := HQ.bx.lt
      go_wp2_with fail
      clear l5_0 l5_1
      refine (l4Key_any g A0 n0 c0 cs _ _ HS.here (by omega)).mono ?_
      rintro e w6 ⟨ka, kb, kc, rfl, _, _, _, hs⟩
      have ho := hs.fr
      have Z6 := Lib.hid ho.size
      have Y7 := Lib.hid (And.intro Y6.out Z6.out); clear Y6 Z6
      replace HX1 := HX1.only ho (by have := Y7.out; omega)
      replace HQ := HQ.only ho (by have := Y7.out; omega)
      replace HO := HO.only ho (by have := Y7.out; omega)
      replace HS := HS.next hs; clear ho hs
      have l6_0 := HX1.bx.lt
      have l6_1 := HQ.bx.lt
      go_wp2_with fail
      clear l6_0 l6_1
      refine (l6Push_any va mk (w2.heap.size) true _ _ E m d ys ⟨ka, kb, kc, rev + 1 + vt⟩ _ HQ.bx (own_items HO.ownF) (Nat.le_refl _) (by omega) HLE.out).mono ?_
      rintro e w7 ⟨E3, m3, d3, rfl, HO3, hb⟩
      have HBL := Lib.hid hb
      have Z7 := Lib.hid hb.size
      have Y8 := Lib.hid (And.intro Y7.out Z7.out); clear Y7 Z7
      replace HS := HS.below hb
      replace HX1 := HX1.below hb
      replace HQ := HQ.below hb
      replace HO := HO.below hb
      clear hb
      have q0 := HQ.look 0; have q1 := HQ.look 1; have q2 := HQ.look 2; have f0 := HQ.free 0; have f1 := HQ.free 1; have f2 := HQ.free 2; have ql := HQ.bx.lt
      obtain ⟨X, hX⟩ : ∃ X : World, X = ((w7.setCell ⟨w2.heap.size, 0, none⟩ (.int .i64 va)).setCell ⟨w2.heap.size, 1, none⟩ (.bool (putM va mk ys ⟨ka, kb, kc, rev + 1 + vt⟩))).setCell ⟨w2.heap.size, 2, none⟩ (.slice E3 m3 d3) := ⟨_, rfl⟩
      have ho : Only (w2.heap.size) (w2.heap.size + 1) w7 X := by rw [hX]; exact (((Only.refl _ _ _).set (p := ⟨w2.heap.size, 0, none⟩) (Nat.le_refl _) (Nat.lt_succ_self _) _).set (p := ⟨w2.heap.size, 1, none⟩) (Nat.le_refl _) (Nat.lt_succ_self _) _).set (p := ⟨w2.heap.size, 2, none⟩) (Nat.le_refl _) (Nat.lt_succ_self _) _
      have HQX : Kept (w2.heap.size) (w2.heap.size + 1) (BoxK (w2.heap.size) 59 #[.int .i64 va, .bool (putM va mk ys ⟨ka, kb, kc, rev + 1 + vt⟩), .slice E3 m3 d3]) X := by rw [hX]; exact Kept.box (((HQ.bx.puts 0 (.int .i64 va) (cs' := #[.int .i64 va, .bool mk, .slice E m d]) rfl).puts 1 (.bool (putM va mk ys ⟨ka, kb, kc, rev + 1 + vt⟩)) (cs' := #[.int .i64 va, .bool (putM va mk ys ⟨ka, kb, kc, rev + 1 + vt⟩), .slice E m d]) rfl).puts 2 (.slice E3 m3 d3) (cs' := #[.int .i64 va, .bool (putM va mk ys ⟨ka, kb, kc, rev + 1 + vt⟩), .slice E3 m3 d3]) rfl)
      have HOX : Kept w.heap.size X.heap.size (OwnFK 66 4 tcell (w.heap.size) (X.heap.size) E3 m3 d3 (putY va ys ⟨ka, kb, kc, rev + 1 + vt⟩)) X := (((HO3.out.aside (Only.grown_ ho) (fun r hr e => by injection e with e; have := (HO3.out.block r hr).1; have := HQ.le; have := HBL.out.size; have := Y8.out; omega)).mono (B' := w.heap.size) (by have := Y8.out; omega))).kept rfl
      have HLX := Lib.hid (putY_le (cap := va) (ys := ys) ⟨ka, kb, kc, rev + 1 + vt⟩ hva.1 HLE.out)
      replace HS := HS.only ho (by have := Y8.out; omega)
      replace HX1 := HX1.only ho (by have := Y8.out; omega)
      have HZX : Hid (w4.heap.size ≤ X.heap.size) := Lib.hid (by have := ho.size; have := Y8.out; omega)
      clear ho
      go_wp2
      rw [← hX]
      go_roundw
      case rel => exact ⟨i, rev + 1 + vt, E3, m3, d3, _, _, by go_num, by go_num, by omega, by omega, by omega, HS.more (by omega), HX1, HQX, HOX, HLX, HZX⟩
      case measure => simp [intOf] <;> omega
    · obtain rfl : j = 0 := by omega
      have l4_0 := HX1.bx.lt
      have l4_1 := HQ.bx.lt
      go_wp2_with fail
      clear l4_0 l4_1
      refine (dChance 3 HS.here (by omega) (by omega)).mono ?_
      rintro e w5 ⟨vc, rfl, hs⟩
      have ho := hs.fr
      have Z5 := Lib.hid ho.size
      have Y6 := Lib.hid (And.intro Y99.out Z5.out); clear Y99 Z5
      replace HX1 := HX1.only ho (by have := Y6.out; omega)
      replace HQ := HQ.only ho (by have := Y6.out; omega)
      replace HO := HO.only ho (by have := Y6.out; omega)
      replace HS := HS.next hs; clear ho hs
      cases vc with
      | true =>
        have HOo := Lib.hid HO.ownF; clear HO
        have c5_0 := HQ.look 0
        have c5_1 := HQ.look 1
        have c5_2 := HQ.look 2
        have c5_3 := HX1.look 0
        have c5_4 := HX1.look 1
        have c5_5 := HX1.look 2
        have f5_0 := HQ.free 1
        have f5_1 := HX1.free 0
        have f5_2 := HX1.free 1
        have f5_3 := HX1.free 2
        have l5_0 := HX1.bx.lt
        have l5_1 := HQ.bx.lt
        have n5_0_1 : ¬ w2.heap.size = w.heap.size := (by have := Y6.out; omega)
        have m5_0_1 : ¬ w.heap.size = w2.heap.size := (by have := Y6.out; omega)
        go_wp2
        clear c5_0 c5_1 c5_2 c5_3 c5_4 c5_5 f5_0 f5_1 f5_2 f5_3 l5_0 l5_1 n5_0_1 m5_0_1
        obtain ⟨U6, hU6⟩ : ∃ W : World, W = (w5.setCell ⟨w2.heap.size, 1, none⟩ (.bool (!mk))) := ⟨_, rfl⟩
        have ho : Only w2.heap.size (w2.heap.size + 1) w5 U6 := by rw [hU6]; exact ((Only.refl _ _ _).set (p := ⟨w2.heap.size, 1, none⟩) (Nat.le_refl _) (Nat.lt_succ_self _) _)
        have hOt := HOo.out.aside (Only.grown_ ho) (fun r hr e => by injection e with e; exact OwnF.ne_box HOo.out HQ.bx (by decide) (by rw [hr, e]))
        replace HOo := Lib.hid hOt; clear hOt
        replace HQ : Kept w2.heap.size (w2.heap.size + 1) (BoxK w2.heap.size 59 #[.int .i64 va, .bool (!mk), .slice E m d]) U6 := by rw [hU6]; exact Kept.box (HQ.bx.puts 1 (.bool (!mk)) (cs' := #[.int .i64 va, .bool (!mk), .slice E m d]) rfl)
        replace HS := HS.only ho (by have := Y6.out; omega)
        replace HX1 := HX1.only ho (by have := Y6.out; omega)
        have Z6 : Hid (U6.heap.size = w5.heap.size) := Lib.hid (by rw [hU6]; simp [World.setCell]); clear ho
        have Y7 := Lib.hid (And.intro Y6.out Z6.out); clear Y6 Z6
        obtain ⟨U7, hU7⟩ : ∃ W : World, W = (((U6.setCell ⟨w.heap.size, 0, none⟩ (.int .i64 va)).setCell ⟨w.heap.size, 1, none⟩ (.bool (!mk))).setCell ⟨w.heap.size, 2, none⟩ (.slice E m d)) := ⟨_, rfl⟩
        have ho : Only w.heap.size (w.heap.size + 1) U6 U7 := by rw [hU7]; exact ((((Only.refl _ _ _).set (p := ⟨w.heap.size, 0, none⟩) (Nat.le_refl _) (Nat.lt_succ_self _) _).set (p := ⟨w.heap.size, 1, none⟩) (Nat.le_refl _) (Nat.lt_succ_self _) _).set (p := ⟨w.heap.size, 2, none⟩) (Nat.le_refl _) (Nat.lt_succ_self _) _)
        have hOt := HOo.out.aside (Only.grown_ ho) (fun r hr e => by injection e with e; exact OwnF.ne_box HOo.out HX1.bx (by decide) (by rw [hr, e]))
        replace HOo := Lib.hid hOt; clear hOt
        replace HX1 : Kept w.heap.size (w.heap.size + 1) (BoxK w.heap.size 59 #[.int .i64 va, .bool (!mk), .slice E m d]) U7 := by rw [hU7]; exact Kept.box (((HX1.bx.puts 0 (.int .i64 va) (cs' := #[.int .i64 va, .bool false, .slice none 0 0]) rfl).puts 1 (.bool (!mk)) (cs' := #[.int .i64 va, .bool (!mk), .slice none 0 0]) rfl).puts 2 (.slice E m d) (cs' := #[.int .i64 va, .bool (!mk), .slice E m d]) rfl)
        replace HS := HS.only ho (by have := Y7.out; omega)
        replace HQ := HQ.only ho (by have := Y7.out; omega)
        have Z7 : Hid (U7.heap.size = U6.heap.size) := Lib.hid (by rw [hU7]; simp [World.setCell]); clear ho
        have Y8 := Lib.hid (And.intro Y7.out Z7.out); clear Y7 Z7
        have q_0 := HX1.look 0
        have q_1 := HX1.look 1
        have q_2 := HX1.look 2
        subst hU7 hU6
        exact bodyPost_ret (v := .agg #[.int .i64 va, .bool (!mk), .slice E m d]) (by simp [results, Try.results130, go_sem, q_0, q_1, q_2]) rfl ⟨va, !mk, E, m, d, ys, rfl, HOo.out.kept rfl, hm8, HS.more (by omega)⟩
      | false =>
        have HOo := Lib.hid HO.ownF; clear HO
        have c5_0 := HQ.look 0
        have c5_1 := HQ.look 1
        have c5_2 := HQ.look 2
        have c5_3 := HX1.look 0
        have c5_4 := HX1.look 1
        have c5_5 := HX1.look 2
        have f5_0 := HX1.free 0
        have f5_1 := HX1.free 1
        have f5_2 := HX1.free 2
        have l5_0 := HX1.bx.lt
        have l5_1 := HQ.bx.lt
        have n5_0_0 : ¬ w.heap.size = w2.heap.size := (by have := Y6.out; omega)
        have m5_0_0 : ¬ w2.heap.size = w.heap.size := (by have := Y6.out; omega)
        go_wp2
        clear c5_0 c5_1 c5_2 c5_3 c5_4 c5_5 f5_0 f5_1 f5_2 l5_0 l5_1 n5_0_0 m5_0_0
        obtain ⟨U6, hU6⟩ : ∃ W : World, W = (((w5.setCell ⟨w.heap.size, 0, none⟩ (.int .i64 va)).setCell ⟨w.heap.size, 1, none⟩ (.bool mk)).setCell ⟨w.heap.size, 2, none⟩ (.slice E m d)) := ⟨_, rfl⟩
        have ho : Only w.heap.size (w.heap.size + 1) w5 U6 := by rw [hU6]; exact ((((Only.refl _ _ _).set (p := ⟨w.heap.size, 0, none⟩) (Nat.le_refl _) (Nat.lt_succ_self _) _).set (p := ⟨w.heap.size, 1, none⟩) (Nat.le_refl _) (Nat.lt_succ_self _) _).set (p := ⟨w.heap.size, 2, none⟩) (Nat.le_refl _) (Nat.lt_succ_self _) _)
        have hOt := HOo.out.aside (Only.grown_ ho) (fun r hr e => by injection e with e; exact OwnF.ne_box HOo.out HX1.bx (by decide) (by rw [hr, e]))
        replace HOo := Lib.hid hOt; clear hOt
        replace HX1 : Kept w.heap.size (w.heap.size + 1) (BoxK w.heap.size 59 #[.int .i64 va, .bool mk, .slice E m d]) U6 := by rw [hU6]; exact Kept.box (((HX1.bx.puts 0 (.int .i64 va) (cs' := #[.int .i64 va, .bool false, .slice none 0 0]) rfl).puts 1 (.bool mk) (cs' := #[.int .i64 va, .bool mk, .slice none 0 0]) rfl).puts 2 (.slice E m d) (cs' := #[.int .i64 va, .bool mk, .slice E m d]) rfl)
        replace HS := HS.only ho (by have := Y6.out; omega)
        replace HQ := HQ.only ho (by have := Y6.out; omega)
        have Z6 : Hid (U6.heap.size = w5.heap.size) := Lib.hid (by rw [hU6]; simp [World.setCell]); clear ho
        have Y7 := Lib.hid (And.intro Y6.out Z6.out); clear Y6 Z6
        have q_0 := HX1.look 0
        have q_1 := HX1.look 1
        have q_2 := HX1.look 2
        subst hU6
        exact bodyPost_ret (v := .agg #[.int .i64 va, .bool mk, .slice E m d]) (by simp [results, Try.results130, go_sem, q_0, q_1, q_2]) rfl ⟨va, mk, E, m, d, ys, rfl, HOo.out.kept rfl, hm8, HS.more (by omega)⟩

theorem OwnF.rev0 {t : TypeId} {w : World} {B g n c : Nat} {ys : List Tmr} (h : OwnF t 4 tcell w B (some ⟨g, 0, none⟩) n c ys) (hn : 0 < n) (v : Int) : ∃ zs, OwnF t 4 tcell (w.setCell ⟨g, 3, none⟩ (.int .i64 v)) B (some ⟨g, 0, none⟩) n c zs := by
  obtain ⟨s1, _⟩ := World.ownsRow.stored h.2 3 (.int .i64 v)
  cases ys with
  | nil => have := h.1; simp at this; omega
  | cons y r =>
    refine ⟨⟨y.typ, y.id, y.adv, v⟩ :: r, by rw [← h.1]; rfl, ?_⟩
    simpa [tcell] using s1

theorem OwnF.head3 {t : TypeId} {w : World} {B g n c : Nat} {ys : List Tmr} (h : OwnF t 4 tcell w B (some ⟨g, 0, none⟩) n c ys) (hn : 0 < n) : ∃ v, w.cell? ⟨g, 3, none⟩ = some v ∧ w.frozen? ⟨g, 3, none⟩ = false ∧ g < w.heap.size := by
  obtain ⟨v, hv⟩ := own_some h.2 (j := 3) (by omega)
  exact ⟨v, hv, World.ownsRow.frozenAt h.2 3, World.block_lt_of_cell? _ _ hv⟩

set_option maxRecDepth 100000 in
set_option maxHeartbeats 6400000 in
theorem l6Bent_any (g : Nat) (A0 : Option Addr) (n0 c0 : Nat) (cs : List Int) (K : Nat) (w : World) (hs : Dr w g A0 n0 c0 cs K w) (hK : K ≤ 70000) :
    Calls Try.prog 121 #[.pointer (some ⟨g, 0, none⟩)] w fun e w' => ∃ (cap : Int) (mk : Bool) (E : Option Addr) (m d : Nat) (ys : List Tmr), e = .returned (.agg #[.int .i64 cap, .bool mk, .slice E m d]) ∧ Kept w.heap.size w'.heap.size (OwnFK 66 4 tcell (w.heap.size) (w'.heap.size) E m d ys) w' ∧ m ≤ 16 ∧ Dr w g A0 n0 c0 cs (K + 70) w' := by
  have HS := hs
  have Zg : Hid (g < w.heap.size) := Lib.hid hs.lt
  clear hs
  go_enter Try.func121, Try.ntmps121
  go_wp2_with fail
  refine Calls.name ?_
  intro U1 hU1
  have hb : Below w.heap.size w U1 := by rw [hU1]; exact ((Below.refl _ _).alloc (Nat.le_refl _) _)
  have zz : Hid (w.heap.size + 1 = U1.heap.size) := Lib.hid (by rw [hU1]; simp)
  have HX1 : Kept w.heap.size (w.heap.size + 1) (BoxK w.heap.size 59 #[.int .i64 0, .bool false, .slice none 0 0]) U1 := by rw [hU1]; exact Kept.box (Box.made_at _ _ _ rfl)
  replace HS := HS.below hb
  clear hb
  have Z1 := zz; clear zz
  have Y1 := Lib.hid (And.intro Zg.out Z1.out); clear Zg Z1
  clear hU1
  refine (l6Draw_any g A0 n0 c0 cs _ _ HS.here (by omega)).mono ?_
  rintro e w2 ⟨cap, mk, E, m, d, ys, rfl, hos, hm8, hs⟩
  have ho := hs.fr
  have Z2 := Lib.hid ho.size
  have Y2 := Lib.hid (And.intro Y1.out Z2.out); clear Y1 Z2
  replace HX1 := HX1.only ho (by have := Y2.out; omega)
  replace HS := HS.next hs; clear ho hs
  have HO := hos; clear hos
  have l2_0 := HX1.bx.lt
  go_wp2_with fail
  clear l2_0
  refine Calls.name ?_
  intro U3 hU3
  have hb : Below w2.heap.size w2 U3 := by rw [hU3]; exact ((Below.refl _ _).alloc (Nat.le_refl _) _)
  have zz : Hid (w2.heap.size + 1 = U3.heap.size) := Lib.hid (by rw [hU3]; simp)
  have HX2 : Kept w2.heap.size (w2.heap.size + 1) (BoxK w2.heap.size 59 #[.int .i64 cap, .bool mk, .slice E m d]) U3 := by rw [hU3]; exact Kept.box (Box.made_at _ _ _ rfl)
  replace HS := HS.below hb
  replace HX1 := HX1.below hb
  replace HO := HO.below hb
  clear hb
  have Z3 := zz; clear zz
  have Y3 := Lib.hid (And.intro Y2.out Z3.out); clear Y2 Z3
  clear hU3
  refine (dNext 12 HS.here (by omega) (by omega) (by omega)).mono ?_
  rintro e w4 ⟨vn, rfl, hvn0, hvn1, hs⟩
  have ho := hs.fr
  have Z4 := Lib.hid ho.size
  have Y4 := Lib.hid (And.intro Y3.out Z4.out); clear Y3 Z4
  replace HX1 := HX1.only ho (by have := Y4.out; omega)
  replace HO := HO.only ho (by have := Y4.out; omega)
  replace HX2 := HX2.only ho (by have := Y4.out; omega)
  replace HS := HS.next hs; clear ho hs
  by_cases h0 : vn = 0
  · subst h0
    have l3_0 := HX1.bx.lt
    have l3_1 := HX2.bx.lt
    go_wp2_with fail
    clear l3_0 l3_1
    refine Calls.name ?_
    intro U5 hU5
    have hb : Below w4.heap.size w4 U5 := by rw [hU5]; exact ((Below.refl _ _).alloc (Nat.le_refl _) _)
    have zz : Hid (w4.heap.size + 1 = U5.heap.size) := Lib.hid (by rw [hU5]; simp)
    have HX3 : Kept w4.heap.size (w4.heap.size + 1) (BoxK w4.heap.size 2 #[.int .i64 0, .int .i64 1, .int .i64 8, .int .i64 9]) U5 := by rw [hU5]; exact Kept.box (Box.made_at _ _ _ rfl)
    replace HS := HS.below hb
    replace HX1 := HX1.below hb
    replace HO := HO.below hb
    replace HX2 := HX2.below hb
    clear hb
    have Z5 := zz; clear zz
    have Y5 := Lib.hid (And.intro Y4.out Z5.out); clear Y4 Z5
    clear hU5
    refine (dPick w4.heap.size 4 [0, 1, 8, 9] HS.here (by omega) HX3.bx rfl rfl (by omega) (by omega) (by have := Y5.out; omega)).mono ?_
    rintro e w6 ⟨vq, rfl, hv, hs⟩
    have ho := hs.fr
    have Z6 := Lib.hid ho.size
    have Y6 := Lib.hid (And.intro Y5.out Z6.out); clear Y5 Z6
    clear HX3
    replace HX1 := HX1.only ho (by have := Y6.out; omega)
    replace HO := HO.only ho (by have := Y6.out; omega)
    replace HX2 := HX2.only ho (by have := Y6.out; omega)
    replace HS := HS.next hs; clear ho hs
    have HVvq : Hid (0 ≤ vq ∧ vq ≤ 9) := Lib.hid (by simp only [List.mem_cons, List.not_mem_nil, or_false] at hv; omega)
    clear hv
    have c4_0 := HX1.look 0
    have c4_1 := HX1.look 1
    have c4_2 := HX1.look 2
    have c4_3 := HX2.look 0
    have c4_4 := HX2.look 1
    have c4_5 := HX2.look 2
    have f4_0 := HX1.free 0
    have f4_1 := HX1.free 1
    have f4_2 := HX1.free 2
    have f4_3 := HX2.free 0
    have l4_0 := HX1.bx.lt
    have l4_1 := HX2.bx.lt
    have n4_0_1 : ¬ w.heap.size = w2.heap.size := (by have := Y6.out; omega)
    have m4_0_1 : ¬ w2.heap.size = w.heap.size := (by have := Y6.out; omega)
    go_wp2
    clear c4_0 c4_1 c4_2 c4_3 c4_4 c4_5 f4_0 f4_1 f4_2 f4_3 l4_0 l4_1 n4_0_1 m4_0_1
    obtain ⟨U7, hU7⟩ : ∃ W : World, W = (w6.setCell ⟨w2.heap.size, 0, none⟩ (.int .i64 vq)) := ⟨_, rfl⟩
    have ho : Only w2.heap.size (w2.heap.size + 1) w6 U7 := by rw [hU7]; exact ((Only.refl _ _ _).set (p := ⟨w2.heap.size, 0, none⟩) (Nat.le_refl _) (Nat.lt_succ_self _) _)
    replace HX2 : Kept w2.heap.size (w2.heap.size + 1) (BoxK w2.heap.size 59 #[.int .i64 vq, .bool mk, .slice E m d]) U7 := by rw [hU7]; exact Kept.box (HX2.bx.puts 0 (.int .i64 vq) (cs' := #[.int .i64 vq, .bool mk, .slice E m d]) rfl)
    replace HS := HS.only ho (by have := Y6.out; omega)
    replace HX1 := HX1.only ho (by have := Y6.out; omega)
    replace HO := HO.only ho (by have := Y6.out; omega)
    have Z7 : Hid (U7.heap.size = w6.heap.size) := Lib.hid (by rw [hU7]; simp [World.setCell]); clear ho
    have Y7 := Lib.hid (And.intro Y6.out Z7.out); clear Y6 Z7
    obtain ⟨U8, hU8⟩ : ∃ W : World, W = (((U7.setCell ⟨w.heap.size, 0, none⟩ (.int .i64 vq)).setCell ⟨w.heap.size, 1, none⟩ (.bool mk)).setCell ⟨w.heap.size, 2, none⟩ (.slice E m d)) := ⟨_, rfl⟩
    have ho : Only w.heap.size (w.heap.size + 1) U7 U8 := by rw [hU8]; exact ((((Only.refl _ _ _).set (p := ⟨w.heap.size, 0, none⟩) (Nat.le_refl _) (Nat.lt_succ_self _) _).set (p := ⟨w.heap.size, 1, none⟩) (Nat.le_refl _) (Nat.lt_succ_self _) _).set (p := ⟨w.heap.size, 2, none⟩) (Nat.le_refl _) (Nat.lt_succ_self _) _)
    replace HX1 : Kept w.heap.size (w.heap.size + 1) (BoxK w.heap.size 59 #[.int .i64 vq, .bool mk, .slice E m d]) U8 := by rw [hU8]; exact Kept.box (((HX1.bx.puts 0 (.int .i64 vq) (cs' := #[.int .i64 vq, .bool false, .slice none 0 0]) rfl).puts 1 (.bool mk) (cs' := #[.int .i64 vq, .bool mk, .slice none 0 0]) rfl).puts 2 (.slice E m d) (cs' := #[.int .i64 vq, .bool mk, .slice E m d]) rfl)
    replace HS := HS.only ho (by have := Y7.out; omega)
    replace HO := HO.only ho (by have := Y7.out; omega)
    replace HX2 := HX2.only ho (by have := Y7.out; omega)
    have Z8 : Hid (U8.heap.size = U7.heap.size) := Lib.hid (by rw [hU8]; simp [World.setCell]); clear ho
    have Y8 := Lib.hid (And.intro Y7.out Z8.out); clear Y7 Z8
    have q_0 := HX1.look 0
    have q_1 := HX1.look 1
    have q_2 := HX1.look 2
    subst hU8 hU7
    exact bodyPost_ret (v := .agg #[.int .i64 vq, .bool mk, .slice E m d]) (by simp [results, Try.results121, go_sem, q_0, q_1, q_2]) rfl ⟨vq, mk, E, m, d, ys, rfl, OwnFK.widen HO (by have := Y8.out; omega) (by have := HO.le; omega) (Nat.le_refl _), (by omega), HS.more (by omega)⟩
  have e0 : (vn == 0) = false := by rw [beq_eq_false_iff_ne]; exact h0
  by_cases h1 : vn = 1
  · subst h1
    clear e0 h0
    have c3_0 := HX2.look 2
    have l3_0 := HX1.bx.lt
    have l3_1 := HX2.bx.lt
    go_wp2_with (first | (at_builtin; refine wpList_appF0 tcell_len tcell_one Try.underlying57 itemInfo rfl (by decide) (by decide) rfl (.tmp 17) (.tmp 19) rfl (B := U1.heap.size) rfl HO.ownF rfl (HO.ownF.inF tcell_len) (by omega) (by have := Y4.out; omega) ?_; intro E2 d2 w5 ho hg; have hq : Only U1.heap.size w2.heap.size w4 w5 := Only.of_grown hg (fun r hr => by have := HO.ownF.block r hr; have := HO.lim r hr; omega); have Z5 := Lib.hid hq.size; have Y5 := Lib.hid (And.intro Y4.out Z5.out); clear Y4 Z5; clear HO; replace HS := HS.only hq (by have := Y5.out; omega); replace HX1 := HX1.only hq (by have := Y5.out; omega); replace HX2 := HX2.only hq (by have := Y5.out; omega); clear hq hg; skip; have HO2 := ho.kept rfl; clear ho; have c4_0 := HX1.look 0; have c4_1 := HX1.look 1; have c4_2 := HX1.look 2; have c4_3 := HX2.look 0; have c4_4 := HX2.look 1; have c4_5 := HX2.look 2; have f4_0 := HX1.free 0; have f4_1 := HX1.free 1; have f4_2 := HX1.free 2; have f4_3 := HX2.free 2; have l4_0 := HX1.bx.lt; have l4_1 := HX2.bx.lt; have n4_0_1 : ¬ w.heap.size = w2.heap.size := (by have := Y5.out; omega); have m4_0_1 : ¬ w2.heap.size = w.heap.size := (by have := Y5.out; omega)))
    clear c3_0 l3_0 l3_1 c4_0 c4_1 c4_2 c4_3 c4_4 c4_5 f4_0 f4_1 f4_2 f4_3 l4_0 l4_1 n4_0_1 m4_0_1
    have HOo := Lib.hid HO2.ownF; clear HO2
    obtain ⟨U6, hU6⟩ : ∃ W : World, W = (w5.setCell ⟨w2.heap.size, 2, none⟩ (.slice E2 (m + m) d2)) := ⟨_, rfl⟩
    have ho : Only w2.heap.size (w2.heap.size + 1) w5 U6 := by rw [hU6]; exact ((Only.refl _ _ _).set (p := ⟨w2.heap.size, 2, none⟩) (Nat.le_refl _) (Nat.lt_succ_self _) _)
    have hOt := HOo.out.aside (Only.grown_ ho) (fun r hr e => by injection e with e; exact OwnF.ne_box HOo.out HX2.bx (by decide) (by rw [hr, e]))
    replace HOo := Lib.hid hOt; clear hOt
    replace HX2 : Kept w2.heap.size (w2.heap.size + 1) (BoxK w2.heap.size 59 #[.int .i64 cap, .bool mk, .slice E2 (m + m) d2]) U6 := by rw [hU6]; exact Kept.box (HX2.bx.puts 2 (.slice E2 (m + m) d2) (cs' := #[.int .i64 cap, .bool mk, .slice E2 (m + m) d2]) rfl)
    replace HS := HS.only ho (by have := Y5.out; omega)
    replace HX1 := HX1.only ho (by have := Y5.out; omega)
    have Z6 : Hid (U6.heap.size = w5.heap.size) := Lib.hid (by rw [hU6]; simp [World.setCell]); clear ho
    have Y6 := Lib.hid (And.intro Y5.out Z6.out); clear Y5 Z6
    obtain ⟨U7, hU7⟩ : ∃ W : World, W = (((U6.setCell ⟨w.heap.size, 0, none⟩ (.int .i64 cap)).setCell ⟨w.heap.size, 1, none⟩ (.bool mk)).setCell ⟨w.heap.size, 2, none⟩ (.slice E2 (m + m) d2)) := ⟨_, rfl⟩
    have ho : Only w.heap.size (w.heap.size + 1) U6 U7 := by rw [hU7]; exact ((((Only.refl _ _ _).set (p := ⟨w.heap.size, 0, none⟩) (Nat.le_refl _) (Nat.lt_succ_self _) _).set (p := ⟨w.heap.size, 1, none⟩) (Nat.le_refl _) (Nat.lt_succ_self _) _).set (p := ⟨w.heap.size, 2, none⟩) (Nat.le_refl _) (Nat.lt_succ_self _) _)
    have hOt := HOo.out.aside (Only.grown_ ho) (fun r hr e => by injection e with e; exact OwnF.ne_box HOo.out HX1.bx (by decide) (by rw [hr, e]))
    replace HOo := Lib.hid hOt; clear hOt
    replace HX1 : Kept w.heap.size (w.heap.size + 1) (BoxK w.heap.size 59 #[.int .i64 cap, .bool mk, .slice E2 (m + m) d2]) U7 := by rw [hU7]; exact Kept.box (((HX1.bx.puts 0 (.int .i64 cap) (cs' := #[.int .i64 cap, .bool false, .slice none 0 0]) rfl).puts 1 (.bool mk) (cs' := #[.int .i64 cap, .bool mk, .slice none 0 0]) rfl).puts 2 (.slice E2 (m + m) d2) (cs' := #[.int .i64 cap, .bool mk, .slice E2 (m + m) d2]) rfl)
    replace HS := HS.only ho (by have := Y6.out; omega)
    replace HX2 := HX2.only ho (by have := Y6.out; omega)
    have Z7 : Hid (U7.heap.size = U6.heap.size) := Lib.hid (by rw [hU7]; simp [World.setCell]); clear ho
    have Y7 := Lib.hid (And.intro Y6.out Z7.out); clear Y6 Z7
    have q_0 := HX1.look 0
    have q_1 := HX1.look 1
    have q_2 := HX1.look 2
    subst hU7 hU6
    exact bodyPost_ret (v := .agg #[.int .i64 cap, .bool mk, .slice E2 (m + m) d2]) (by simp [results, Try.results121, go_sem, q_0, q_1, q_2]) rfl ⟨cap, mk, E2, (m + m), d2, (ys ++ ys), rfl, (HOo.out.mono (B' := w.heap.size) (by have := Y7.out; omega)).kept rfl, (by omega), HS.more (by omega)⟩
  have e1 : (vn == 1) = false := by rw [beq_eq_false_iff_ne]; exact h1
  by_cases h2 : vn = 2
  · subst h2
    clear e0 h0 e1 h1
    by_cases hm0 : 0 < m
    · have hmi : (0 : Int) < m := by omega
      obtain ⟨ge, rfl, hg1, hg2⟩ := HO.ownF.form (by omega)
      have hne : ge ≠ w2.heap.size := fun e => OwnF.ne_box HO.ownF HX2.bx (by decide) (by simp [e])
      have Zge := Lib.hid (And.intro hg1 (And.intro hg2 hne)); clear hg1 hg2 hne
      have Y5 := Lib.hid (And.intro Y4.out Zge.out); clear Y4 Zge
      have c3_0 := HX2.look 2
      have l3_0 := HX1.bx.lt
      have l3_1 := HX2.bx.lt
      go_wp2_with fail
      clear c3_0 l3_0 l3_1
      have VA : Hid (Below w4.heap.size w4 (w4.alloc (.cells #[.int .i64 0, .int .i64 100000, .int .i64 100001, .int .i64 5] 2)).drew) := Lib.hid ((Below.refl _ _).alloc (Nat.le_refl _) _).drew
      have HSA := Lib.hid (HS.below VA.out).here
      have HLB : Hid (Box (w4.alloc (.cells #[.int .i64 0, .int .i64 100000, .int .i64 100001, .int .i64 5] 2)).drew w4.heap.size 2 #[.int .i64 0, .int .i64 100000, .int .i64 100001, .int .i64 5]) := Lib.hid (Box.made _ _ _)
      have Dg : Hid (¬ w4.heap.size = g) := Lib.hid (by have := Y5.out; omega)
      have Dv : Hid (g + 1 ≤ U1.heap.size) := Lib.hid (by have := Y5.out; omega)
      have Dq : Hid (g + 1 ≤ w2.heap.size) := Lib.hid (by have := Y5.out; omega)
      have c2 := HX2.look 2
      have cl := HX2.bx.lt
      have hpos : 0 < m := hm0
      have PC := Lib.hid (dPick (w := (w4.alloc (.cells #[.int .i64 0, .int .i64 100000, .int .i64 100001, .int .i64 5] 2)).drew) w4.heap.size 4 [0, 100000, 100001, 5] HSA.out (by omega) HLB.out rfl rfl (by omega) (by omega) Dg.out)
      go_region_law (first | ((show (if Region.wanted (Oper.mk (some 32) _ _ _ _ _) _ = true then _ else _)); go_simp; with_reducible refine PC.out.mono ?_; rintro e u1 ⟨vp, rfl, _, hs⟩; have ho := hs.fr; have HOU := (HO.below VA.out).only ho (.inr Dv.out); have HQU := (HX2.below VA.out).only ho (.inr Dq.out); have HSU := Lib.hid hs; have k2 := HQU.look 2; have kl := HQU.bx.lt; obtain ⟨kv, kc, kf, kb⟩ := HOU.ownF.head3 hpos; clear ho hs))
      all_goals
        obtain ⟨zs, hzs⟩ := HOU.ownF.rev0 hpos vp
        obtain ⟨X, hX⟩ : ∃ X : World, X = u1.setCell ⟨ge, 3, none⟩ (.int .i64 vp) := ⟨_, rfl⟩
        have hz2 : OwnF 66 4 tcell X (U1.heap.size) (some ⟨ge, 0, none⟩) m d zs := by rw [hX]; exact hzs
        have hoA : Only g (g + 1) w4 u1 := (Only.of_below VA.out _ _).trans HSU.out.fr
        have hoB : Only ge (ge + 1) u1 X := by rw [hX]; exact Only.set1 u1 (p := ⟨ge, 3, none⟩) (Nat.le_refl _) (Nat.lt_succ_self _) _
        have ho := hoA
        have Z5 := Lib.hid ho.size
        have Y6 := Lib.hid (And.intro Y5.out Z5.out); clear Y5 Z5
        replace HX1 := HX1.only ho (by have := Y6.out; omega)
        replace HX2 := HX2.only ho (by have := Y6.out; omega)
        replace HS := (HS.below VA.out).next HSU.out
        clear ho hoA
        have ho := hoB
        have Z6 := Lib.hid ho.size
        have Y7 := Lib.hid (And.intro Y6.out Z6.out); clear Y6 Z6
        replace HS := HS.only ho (by have := Y7.out; omega)
        replace HX1 := HX1.only ho (by have := Y7.out; omega)
        replace HX2 := HX2.only ho (by have := Y7.out; omega)
        clear ho hoB
        have HOX := hz2.kept rfl
        clear HO HOU HQU HSU hzs hz2 c2 cl k2 kl kc kf kb VA HSA HLB PC
        (try rw [← hX])
        clear hX
        have c4_0 := HX1.look 0
        have c4_1 := HX1.look 1
        have c4_2 := HX1.look 2
        have c4_3 := HX2.look 0
        have c4_4 := HX2.look 1
        have c4_5 := HX2.look 2
        have f4_0 := HX1.free 0
        have f4_1 := HX1.free 1
        have f4_2 := HX1.free 2
        have l4_0 := HX1.bx.lt
        have l4_1 := HX2.bx.lt
        have n4_0_1 : ¬ w.heap.size = w2.heap.size := (by have := Y7.out; omega)
        have m4_0_1 : ¬ w2.heap.size = w.heap.size := (by have := Y7.out; omega)
        go_wp2
        clear c4_0 c4_1 c4_2 c4_3 c4_4 c4_5 f4_0 f4_1 f4_2 l4_0 l4_1 n4_0_1 m4_0_1
        obtain ⟨U5, hU5⟩ : ∃ W : World, W = (((X.setCell ⟨w.heap.size, 0, none⟩ (.int .i64 cap)).setCell ⟨w.heap.size, 1, none⟩ (.bool mk)).setCell ⟨w.heap.size, 2, none⟩ (.slice (some ⟨ge, 0, none⟩) m d)) := ⟨_, rfl⟩
        have ho : Only w.heap.size (w.heap.size + 1) X U5 := by rw [hU5]; exact ((((Only.refl _ _ _).set (p := ⟨w.heap.size, 0, none⟩) (Nat.le_refl _) (Nat.lt_succ_self _) _).set (p := ⟨w.heap.size, 1, none⟩) (Nat.le_refl _) (Nat.lt_succ_self _) _).set (p := ⟨w.heap.size, 2, none⟩) (Nat.le_refl _) (Nat.lt_succ_self _) _)
        replace HX1 : Kept w.heap.size (w.heap.size + 1) (BoxK w.heap.size 59 #[.int .i64 cap, .bool mk, .slice (some ⟨ge, 0, none⟩) m d]) U5 := by rw [hU5]; exact Kept.box (((HX1.bx.puts 0 (.int .i64 cap) (cs' := #[.int .i64 cap, .bool false, .slice none 0 0]) rfl).puts 1 (.bool mk) (cs' := #[.int .i64 cap, .bool mk, .slice none 0 0]) rfl).puts 2 (.slice (some ⟨ge, 0, none⟩) m d) (cs' := #[.int .i64 cap, .bool mk, .slice (some ⟨ge, 0, none⟩) m d]) rfl)
        replace HS := HS.only ho (by have := Y7.out; omega)
        replace HX2 := HX2.only ho (by have := Y7.out; omega)
        replace HOX := HOX.only ho (by have := Y7.out; omega)
        have Z7 : Hid (U5.heap.size = X.heap.size) := Lib.hid (by rw [hU5]; simp [World.setCell]); clear ho
        have Y8 := Lib.hid (And.intro Y7.out Z7.out); clear Y7 Z7
        have q_0 := HX1.look 0
        have q_1 := HX1.look 1
        have q_2 := HX1.look 2
        subst hU5
        exact bodyPost_ret (v := .agg #[.int .i64 cap, .bool mk, .slice (some ⟨ge, 0, none⟩) m d]) (by simp [results, Try.results121, go_sem, q_0, q_1, q_2]) rfl ⟨cap, mk, (some ⟨ge, 0, none⟩), m, d, zs, rfl, OwnFK.widen HOX (by have := Y8.out; omega) (by have := HOX.le; omega) (Nat.le_refl _), (by omega), HS.more (by omega)⟩
    · have hmn : ¬ (0 : Int) < m := by omega
      have c3_0 := HX1.look 0
      have c3_1 := HX1.look 1
      have c3_2 := HX1.look 2
      have c3_3 := HX2.look 0
      have c3_4 := HX2.look 1
      have c3_5 := HX2.look 2
      have f3_0 := HX1.free 0
      have f3_1 := HX1.free 1
      have f3_2 := HX1.free 2
      have l3_0 := HX1.bx.lt
      have l3_1 := HX2.bx.lt
      have n3_0_1 : ¬ w.heap.size = w2.heap.size := (by have := Y4.out; omega)
      have m3_0_1 : ¬ w2.heap.size = w.heap.size := (by have := Y4.out; omega)
      go_wp2
      clear c3_0 c3_1 c3_2 c3_3 c3_4 c3_5 f3_0 f3_1 f3_2 l3_0 l3_1 n3_0_1 m3_0_1
      obtain ⟨U5, hU5⟩ : ∃ W : World, W = (((w4.setCell ⟨w.heap.size, 0, none⟩ (.int .i64 cap)).setCell ⟨w.heap.size, 1, none⟩ (.bool mk)).setCell ⟨w.heap.size, 2, none⟩ (.slice E m d)) := ⟨_, rfl⟩
      have ho : Only w.heap.size (w.heap.size + 1) w4 U5 := by rw [hU5]; exact ((((Only.refl _ _ _).set (p := ⟨w.heap.size, 0, none⟩) (Nat.le_refl _) (Nat.lt_succ_self _) _).set (p := ⟨w.heap.size, 1, none⟩) (Nat.le_refl _) (Nat.lt_succ_self _) _).set (p := ⟨w.heap.size, 2, none⟩) (Nat.le_refl _) (Nat.lt_succ_self _) _)
      replace HX1 : Kept w.heap.size (w.heap.size + 1) (BoxK w.heap.size 59 #[.int .i64 cap, .bool mk, .slice E m d]) U5 := by rw [hU5]; exact Kept.box (((HX1.bx.puts 0 (.int .i64 cap) (cs' := #[.int .i64 cap, .bool false, .slice none 0 0]) rfl).puts 1 (.bool mk) (cs' := #[.int .i64 cap, .bool mk, .slice none 0 0]) rfl).puts 2 (.slice E m d) (cs' := #[.int .i64 cap, .bool mk, .slice E m d]) rfl)
      replace HS := HS.only ho (by have := Y4.out; omega)
      replace HO := HO.only ho (by have := Y4.out; omega)
      replace HX2 := HX2.only ho (by have := Y4.out; omega)
      have Z5 : Hid (U5.heap.size = w4.heap.size) := Lib.hid (by rw [hU5]; simp [World.setCell]); clear ho
      have Y5 := Lib.hid (And.intro Y4.out Z5.out); clear Y4 Z5
      have q_0 := HX1.look 0
      have q_1 := HX1.look 1
      have q_2 := HX1.look 2
      subst hU5
      exact bodyPost_ret (v := .agg #[.int .i64 cap, .bool mk, .slice E m d]) (by simp [results, Try.results121, go_sem, q_0, q_1, q_2]) rfl ⟨cap, mk, E, m, d, ys, rfl, OwnFK.widen HO (by have := Y5.out; omega) (by have := HO.le; omega) (Nat.le_refl _), (by omega), HS.more (by omega)⟩
  have e2 : (vn == 2) = false := by rw [beq_eq_false_iff_ne]; exact h2
  · clear h0 h1 h2
    have c3_0 := HX1.look 0
    have c3_1 := HX1.look 1
    have c3_2 := HX1.look 2
    have c3_3 := HX2.look 0
    have c3_4 := HX2.look 1
    have c3_5 := HX2.look 2
    have f3_0 := HX1.free 0
    have f3_1 := HX1.free 1
    have f3_2 := HX1.free 2
    have l3_0 := HX1.bx.lt
    have l3_1 := HX2.bx.lt
    have n3_0_1 : ¬ w.heap.size = w2.heap.size := (by have := Y4.out; omega)
    have m3_0_1 : ¬ w2.heap.size = w.heap.size := (by have := Y4.out; omega)
    go_wp2
    clear c3_0 c3_1 c3_2 c3_3 c3_4 c3_5 f3_0 f3_1 f3_2 l3_0 l3_1 n3_0_1 m3_0_1
    obtain ⟨U5, hU5⟩ : ∃ W : World, W = (((w4.setCell ⟨w.heap.size, 0, none⟩ (.int .i64 cap)).setCell ⟨w.heap.size, 1, none⟩ (.bool mk)).setCell ⟨w.heap.size, 2, none⟩ (.slice E m d)) := ⟨_, rfl⟩
    have ho : Only w.heap.size (w.heap.size + 1) w4 U5 := by rw [hU5]; exact ((((Only.refl _ _ _).set (p := ⟨w.heap.size, 0, none⟩) (Nat.le_refl _) (Nat.lt_succ_self _) _).set (p := ⟨w.heap.size, 1, none⟩) (Nat.le_refl _) (Nat.lt_succ_self _) _).set (p := ⟨w.heap.size, 2, none⟩) (Nat.le_refl _) (Nat.lt_succ_self _) _)
    replace HX1 : Kept w.heap.size (w.heap.size + 1) (BoxK w.heap.size 59 #[.int .i64 cap, .bool mk, .slice E m d]) U5 := by rw [hU5]; exact Kept.box (((HX1.bx.puts 0 (.int .i64 cap) (cs' := #[.int .i64 cap, .bool false, .slice none 0 0]) rfl).puts 1 (.bool mk) (cs' := #[.int .i64 cap, .bool mk, .slice none 0 0]) rfl).puts 2 (.slice E m d) (cs' := #[.int .i64 cap, .bool mk, .slice E m d]) rfl)
    replace HS := HS.only ho (by have := Y4.out; omega)
    replace HO := HO.only ho (by have := Y4.out; omega)
    replace HX2 := HX2.only ho (by have := Y4.out; omega)
    have Z5 : Hid (U5.heap.size = w4.heap.size) := Lib.hid (by rw [hU5]; simp [World.setCell]); clear ho
    have Y5 := Lib.hid (And.intro Y4.out Z5.out); clear Y4 Z5
    have q_0 := HX1.look 0
    have q_1 := HX1.look 1
    have q_2 := HX1.look 2
    subst hU5
    exact bodyPost_ret (v := .agg #[.int .i64 cap, .bool mk, .slice E m d]) (by simp [results, Try.results121, go_sem, q_0, q_1, q_2]) rfl ⟨cap, mk, E, m, d, ys, rfl, OwnFK.widen HO (by have := Y5.out; omega) (by have := HO.le; omega) (Nat.le_refl _), (by omega), HS.more (by omega)⟩

theorem BIn.holdQ {w : World} {A : Option Addr} {n : Nat} {zs : List Int} (h : BIn w A n zs) : Kept 0 w.heap.size (fun w => BIn w A n zs) w := BIn.hold h

set_option maxRecDepth 100000 in
set_option maxHeartbeats 6400000 in
theorem drawPop_any (A0 : Option Addr) (n0 c0 : Nat) (cs : List Int) (w : World) (ha : BIn w A0 n0 cs) (hb : Bytes cs) (hn : n0 ≤ 1048576) :
    Calls Try.prog 44 #[.slice A0 n0 c0] w fun e w' => ∃ (cap : Int) (mk : Bool) (E : Option Addr) (m d : Nat) (ys : List Tmr), e = .returned (.agg #[.int .i64 cap, .bool mk, .slice E m d]) ∧ Kept w.heap.size w'.heap.size (OwnFK 66 4 tcell (w.heap.size) (w'.heap.size) E m d ys) w' ∧ m ≤ 16 ∧ Below w.heap.size w w' := by
  have HB := Lib.hid (Below.refl w.heap.size w)
  have HD := ha.hold
  have HBY := Lib.hid hb
  clear ha hb
  go_enter Try.func44, Try.ntmps44
  go_wp2_with fail
  refine Calls.name ?_
  intro U1 hU1
  have hb : Below w.heap.size w U1 := by rw [hU1]; exact ((Below.refl _ _).alloc (Nat.le_refl _) _)
  have zz : Hid (w.heap.size + 1 = U1.heap.size) := Lib.hid (by rw [hU1]; simp)
  have HX1 : Kept w.heap.size (w.heap.size + 1) (BoxK w.heap.size 59 #[.int .i64 0, .bool false, .slice none 0 0]) U1 := by rw [hU1]; exact Kept.box (Box.made_at _ _ _ rfl)
  replace HD := HD.below hb
  replace HB := Lib.hid (below_step HB.out hb)
  clear hb
  have Z1 := zz; clear zz
  clear hU1
  refine (dSource A0 n0 c0 cs _ HD.out HBY.out hn).mono ?_
  rintro e w2 ⟨rfl, hs, hb⟩
  have Z2 := Lib.hid hb.size
  have Y1 := Lib.hid (And.intro Z1.out Z2.out); clear Z1 Z2
  replace HD := HD.below hb
  replace HX1 := HX1.below hb
  replace HB := Lib.hid (below_step HB.out hb)
  clear hb
  have HS := hs; clear hs
  have Z3 := Lib.hid HS.lt
  have Y2 := Lib.hid (And.intro Y1.out Z3.out); clear Y1 Z3
  have l2_0 := HX1.bx.lt
  go_wp2_with fail
  clear l2_0
  refine (l6Bent_any U1.heap.size A0 n0 c0 cs _ _ HS.here (by omega)).mono ?_
  rintro e w3 ⟨cap, mk, E, m, d, ys, rfl, hos, hm16, hs⟩
  have ho := hs.fr
  have Z4 := Lib.hid ho.size
  have Y3 := Lib.hid (And.intro Y2.out Z4.out); clear Y2 Z4
  replace HD := HD.only ho (by have := Y3.out; omega)
  replace HX1 := HX1.only ho (by have := Y3.out; omega)
  replace HB := Lib.hid (Below.only HB.out ho (by have := Y3.out; omega) HB.out.size)
  replace HS := HS.next hs; clear ho hs
  have HO := hos; clear hos
  clear HS
  have c3_0 := HX1.look 0
  have c3_1 := HX1.look 1
  have c3_2 := HX1.look 2
  have f3_0 := HX1.free 0
  have f3_1 := HX1.free 1
  have f3_2 := HX1.free 2
  have l3_0 := HX1.bx.lt
  go_wp2
  clear c3_0 c3_1 c3_2 f3_0 f3_1 f3_2 l3_0
  obtain ⟨U4, hU4⟩ : ∃ W : World, W = (((w3.setCell ⟨w.heap.size, 0, none⟩ (.int .i64 cap)).setCell ⟨w.heap.size, 1, none⟩ (.bool mk)).setCell ⟨w.heap.size, 2, none⟩ (.slice E m d)) := ⟨_, rfl⟩
  have ho : Only w.heap.size (w.heap.size + 1) w3 U4 := by rw [hU4]; exact ((((Only.refl _ _ _).set (p := ⟨w.heap.size, 0, none⟩) (Nat.le_refl _) (Nat.lt_succ_self _) _).set (p := ⟨w.heap.size, 1, none⟩) (Nat.le_refl _) (Nat.lt_succ_self _) _).set (p := ⟨w.heap.size, 2, none⟩) (Nat.le_refl _) (Nat.lt_succ_self _) _)
  replace HX1 : Kept w.heap.size (w.heap.size + 1) (BoxK w.heap.size 59 #[.int .i64 cap, .bool mk, .slice E m d]) U4 := by rw [hU4]; exact Kept.box (((HX1.bx.puts 0 (.int .i64 cap) (cs' := #[.int .i64 cap, .bool false, .slice none 0 0]) rfl).puts 1 (.bool mk) (cs' := #[.int .i64 cap, .bool mk, .slice none 0 0]) rfl).puts 2 (.slice E m d) (cs' := #[.int .i64 cap, .bool mk, .slice E m d]) rfl)
  replace HD := HD.only ho (by have := Y3.out; omega)
  replace HO := HO.only ho (by have := Y3.out; omega)
  replace HB := Lib.hid (Below.only HB.out ho (by have := Y3.out; omega) HB.out.size)
  have Z5 : Hid (U4.heap.size = w3.heap.size) := Lib.hid (by rw [hU4]; simp [World.setCell]); clear ho
  have Y4 := Lib.hid (And.intro Y3.out Z5.out); clear Y3 Z5
  have q_0 := HX1.look 0
  have q_1 := HX1.look 1
  have q_2 := HX1.look 2
  subst hU4
  exact bodyPost_ret (v := .agg #[.int .i64 cap, .bool mk, .slice E m d]) (by simp [results, Try.results44, go_sem, q_0, q_1, q_2]) rfl ⟨cap, mk, E, m, d, ys, rfl, OwnFK.widen HO (by have := Y4.out; omega) (by have := HO.le; omega) (Nat.le_refl _), hm16, HB.out⟩


end Go.Proofs.Ytiffhjofabaflaa

namespace Go.Proofs.Ytiffhjofabaflaa
open Go.RowKit
set_option linter.unusedVariables false

set_option maxRecDepth 100000 in
set_option maxHeartbeats 6400000 in
theorem drawNewQueue_any (A0 : Option Addr) (n0 c0 : Nat) (cs : List Int) (w : World) (ha : BIn w A0 n0 cs) (hb : Bytes cs) (hn : n0 ≤ 1048576) :
    Calls Try.prog 46 #[.slice A0 n0 c0] w fun e w' => ∃ a, e = .returned (.int .i64 a) ∧ Below w.heap.size w w' := by
  have HB := Lib.hid (Below.refl w.heap.size w)
  have HD := ha.hold
  have HBY := Lib.hid hb
  clear ha hb
  go_enter Try.func46, Try.ntmps46
  go_wp2_with fail
  refine (dSource A0 n0 c0 cs _ HD.out HBY.out hn).mono ?_
  rintro e w1 ⟨rfl, hs, hb⟩
  have Z1 := Lib.hid hb.size
  replace HD := HD.below hb
  replace HB := Lib.hid (below_step HB.out hb)
  clear hb
  have HS := hs; clear hs
  have Z2 := Lib.hid HS.lt
  have Y1 := Lib.hid (And.intro Z1.out Z2.out); clear Z1 Z2
  go_wp2_with fail
  refine Calls.name ?_
  intro U2 hU2
  have hb : Below w1.heap.size w1 U2 := by rw [hU2]; exact ((Below.refl _ _).alloc (Nat.le_refl _) _)
  have zz : Hid (w1.heap.size + 1 = U2.heap.size) := Lib.hid (by rw [hU2]; simp)
  have HX1 : Kept w1.heap.size (w1.heap.size + 1) (BoxK w1.heap.size 2 #[.int .i64 1, .int .i64 2, .int .i64 8, .int .i64 9, .int .i64 0]) U2 := by rw [hU2]; exact Kept.box (Box.made_at _ _ _ rfl)
  replace HD := HD.below hb
  replace HS := HS.below hb
  replace HB := Lib.hid (below_step HB.out hb)
  clear hb
  have Z3 := zz; clear zz
  have Y2 := Lib.hid (And.intro Y1.out Z3.out); clear Y1 Z3
  clear hU2
  refine (dPick w1.heap.size 5 [1, 2, 8, 9, 0] HS.here (by omega) HX1.bx rfl rfl (by omega) (by omega) (by have := Y2.out; omega)).mono ?_
  rintro e w3 ⟨va, rfl, hv, hs⟩
  have ho := hs.fr
  have Z4 := Lib.hid ho.size
  have Y3 := Lib.hid (And.intro Y2.out Z4.out); clear Y2 Z4
  clear HX1
  replace HD := HD.only ho (by have := Y3.out; omega)
  replace HB := Lib.hid (Below.only HB.out ho (by have := Y3.out; omega) HB.out.size)
  replace HS := HS.next hs; clear ho hs
  have HVva : Hid (0 ≤ va ∧ va ≤ 9) := Lib.hid (by simp only [List.mem_cons, List.not_mem_nil, or_false] at hv; omega)
  clear hv
  go_wp2
  go_ret
  exact ⟨va, rfl, HB.out⟩

set_option maxRecDepth 100000 in
set_option maxHeartbeats 3200000 in
theorem l6Item_any (g : Nat) (A0 : Option Addr) (n0 c0 : Nat) (cs : List Int) (K : Nat) (gq : Nat) (cap : Int) (mk : Bool) (q : Bool) (lo hi : Nat) (A : Option Addr) (n c : Nat) (ys : List Tmr) (w : World) (hs : Dr w g A0 n0 c0 cs K w) (hK : K ≤ 80000) (hq : Kept gq (gq + 1) (BoxK gq 59 #[.int .i64 cap, .bool mk, .slice A n c]) w) (ha : Rep.timer.Sl q lo hi w A n ys) (hh : hi ≤ w.heap.size) (hn : n ≤ 1000) (hne : gq ≠ g) :
    Calls Try.prog 122 #[.pointer (some ⟨g, 0, none⟩), .pointer (some ⟨gq, 0, none⟩)] w fun e w' => ∃ a b c d, e = .returned (.agg #[.int .i64 a, .int .i64 b, .int .i64 c, .int .i64 d]) ∧ Dr w g A0 n0 c0 cs (K + 4) w' := by
  by_cases h0 : 0 < n
  · have HS := hs
    have Zg : Hid (g < w.heap.size) := Lib.hid hs.lt
    clear hs
    have Zq := Lib.hid (And.intro hq.le hne); clear hne
    have Y1 := Lib.hid (And.intro Zg.out Zq.out); clear Zg Zq
    have HQ := hq; clear hq
    obtain ⟨p, rfl⟩ : ∃ p, n = p + 1 := ⟨n - 1, by omega⟩
    obtain ⟨b, o, a, rfl, hya, t0, t1, t2, t3⟩ := Rep.timer_at ha (k := p) (by omega)
    have tl := World.block_lt_of_cell? _ _ t3
    have hp0 : (0 : Int) < ((p + 1 : Nat) : Int) := by omega
    have hp1 : IntKind.i64.wrap (((p + 1 : Nat) : Int) - 1) = (p : Int) := by rw [IntWalk.i64_in _ (by omega)]; omega
    obtain ⟨r1, hr1⟩ : ∃ z, IntKind.i64.wrap (a.due + 1) = z := ⟨_, rfl⟩
    obtain ⟨r5, hr5⟩ : ∃ z, IntKind.i64.wrap (r1 + 5) = z := ⟨_, rfl⟩
    obtain ⟨r0, hr0⟩ : ∃ z, IntKind.i64.wrap (r1 - 1) = z := ⟨_, rfl⟩
    clear ha t0 t1 t2 hya hh
    go_enter Try.func122, Try.ntmps122
    have c1_0 := HQ.look 2
    have l1_0 := HQ.bx.lt
    go_wp2_with fail
    clear c1_0 l1_0
    refine Calls.name ?_
    intro U1 hU1
    have hb : Below w.heap.size w U1 := by rw [hU1]; exact ((Below.refl _ _).alloc (Nat.le_refl _) _)
    have zz : Hid (w.heap.size + 1 = U1.heap.size) := Lib.hid (by rw [hU1]; simp)
    have HX1 : Kept w.heap.size (w.heap.size + 1) (BoxK w.heap.size 66 #[.int .i64 0, .int .i64 0, .int .i64 0, .int .i64 0]) U1 := by rw [hU1]; exact Kept.box (Box.made_at _ _ _ rfl)
    replace HS := HS.below hb
    replace HQ := HQ.below hb
    clear hb
    have Z1 := zz; clear zz
    have Y2 := Lib.hid (And.intro Y1.out Z1.out); clear Y1 Z1
    clear hU1
    refine (l4Key_any g A0 n0 c0 cs _ _ HS.here (by omega)).mono ?_
    rintro e w2 ⟨ka, kb, kc, rfl, _, _, _, hs⟩
    have ho := hs.fr
    have Z2 := Lib.hid ho.size
    have Y3 := Lib.hid (And.intro Y2.out Z2.out); clear Y2 Z2
    replace HQ := HQ.only ho (by have := Y3.out; omega)
    replace HX1 := HX1.only ho (by have := Y3.out; omega)
    replace HS := HS.next hs; clear ho hs
    have l2_0 := HQ.bx.lt
    have l2_1 := HX1.bx.lt
    go_wp2_with fail
    clear l2_0 l2_1
    refine Calls.name ?_
    intro U3 hU3
    have hb : Below w2.heap.size w2 U3 := by rw [hU3]; exact ((Below.refl _ _).alloc (Nat.le_refl _) _)
    have zz : Hid (w2.heap.size + 1 = U3.heap.size) := Lib.hid (by rw [hU3]; simp)
    have HX2 : Kept w2.heap.size (w2.heap.size + 1) (BoxK w2.heap.size 2 #[.int .i64 r1, .int .i64 r1, .int .i64 r1, .int .i64 r5, .int .i64 r0, .int .i64 0, .int .i64 100001]) U3 := by rw [hU3]; exact Kept.box (Box.made_at _ _ _ rfl)
    replace HS := HS.below hb
    replace HQ := HQ.below hb
    replace HX1 := HX1.below hb
    clear hb
    have Z3 := zz; clear zz
    have Y4 := Lib.hid (And.intro Y3.out Z3.out); clear Y3 Z3
    clear hU3
    refine (dPick w2.heap.size 7 [r1, r1, r1, r5, r0, 0, 100001] HS.here (by omega) HX2.bx rfl rfl (by omega) (by omega) (by have := Y4.out; omega)).mono ?_
    rintro e w4 ⟨vp, rfl, hv, hs⟩
    have ho := hs.fr
    have Z4 := Lib.hid ho.size
    have Y5 := Lib.hid (And.intro Y4.out Z4.out); clear Y4 Z4
    clear HX2
    replace HQ := HQ.only ho (by have := Y5.out; omega)
    replace HX1 := HX1.only ho (by have := Y5.out; omega)
    replace HS := HS.next hs; clear ho hs
    clear hv
    have c3_0 := HX1.look 0
    have c3_1 := HX1.look 1
    have c3_2 := HX1.look 2
    have c3_3 := HX1.look 3
    have f3_0 := HX1.free 0
    have f3_1 := HX1.free 1
    have f3_2 := HX1.free 2
    have f3_3 := HX1.free 3
    have l3_0 := HQ.bx.lt
    have l3_1 := HX1.bx.lt
    go_wp2
    clear c3_0 c3_1 c3_2 c3_3 f3_0 f3_1 f3_2 f3_3 l3_0 l3_1
    obtain ⟨U5, hU5⟩ : ∃ W : World, W = ((((w4.setCell ⟨w.heap.size, 0, none⟩ (.int .i64 ka)).setCell ⟨w.heap.size, 1, none⟩ (.int .i64 kb)).setCell ⟨w.heap.size, 2, none⟩ (.int .i64 kc)).setCell ⟨w.heap.size, 3, none⟩ (.int .i64 vp)) := ⟨_, rfl⟩
    have ho : Only w.heap.size (w.heap.size + 1) w4 U5 := by rw [hU5]; exact (((((Only.refl _ _ _).set (p := ⟨w.heap.size, 0, none⟩) (Nat.le_refl _) (Nat.lt_succ_self _) _).set (p := ⟨w.heap.size, 1, none⟩) (Nat.le_refl _) (Nat.lt_succ_self _) _).set (p := ⟨w.heap.size, 2, none⟩) (Nat.le_refl _) (Nat.lt_succ_self _) _).set (p := ⟨w.heap.size, 3, none⟩) (Nat.le_refl _) (Nat.lt_succ_self _) _)
    replace HX1 : Kept w.heap.size (w.heap.size + 1) (BoxK w.heap.size 66 #[.int .i64 ka, .int .i64 kb, .int .i64 kc, .int .i64 vp]) U5 := by rw [hU5]; exact Kept.box ((((HX1.bx.puts 0 (.int .i64 ka) (cs' := #[.int .i64 ka, .int .i64 0, .int .i64 0, .int .i64 0]) rfl).puts 1 (.int .i64 kb) (cs' := #[.int .i64 ka, .int .i64 kb, .int .i64 0, .int .i64 0]) rfl).puts 2 (.int .i64 kc) (cs' := #[.int .i64 ka, .int .i64 kb, .int .i64 kc, .int .i64 0]) rfl).puts 3 (.int .i64 vp) (cs' := #[.int .i64 ka, .int .i64 kb, .int .i64 kc, .int .i64 vp]) rfl)
    replace HS := HS.only ho (by have := Y5.out; omega)
    replace HQ := HQ.only ho (by have := Y5.out; omega)
    have Z5 : Hid (U5.heap.size = w4.heap.size) := Lib.hid (by rw [hU5]; simp [World.setCell]); clear ho
    have Y6 := Lib.hid (And.intro Y5.out Z5.out); clear Y5 Z5
    have q_0 := HX1.look 0
    have q_1 := HX1.look 1
    have q_2 := HX1.look 2
    have q_3 := HX1.look 3
    subst hU5
    exact bodyPost_ret (v := .agg #[.int .i64 ka, .int .i64 kb, .int .i64 kc, .int .i64 vp]) (by simp [results, Try.results122, go_sem, q_0, q_1, q_2, q_3]) rfl ⟨ka, kb, kc, vp, rfl, HS.more (by omega)⟩
  · have HS := hs
    have Zg : Hid (g < w.heap.size) := Lib.hid hs.lt
    clear hs
    have Zq := Lib.hid (And.intro hq.le hne); clear hne
    have Y1 := Lib.hid (And.intro Zg.out Zq.out); clear Zg Zq
    have HQ := hq; clear hq
    obtain rfl : n = 0 := by omega
    clear ha hh
    go_enter Try.func122, Try.ntmps122
    have c1_0 := HQ.look 2
    have l1_0 := HQ.bx.lt
    go_wp2_with fail
    clear c1_0 l1_0
    refine Calls.name ?_
    intro U1 hU1
    have hb : Below w.heap.size w U1 := by rw [hU1]; exact ((Below.refl _ _).alloc (Nat.le_refl _) _)
    have zz : Hid (w.heap.size + 1 = U1.heap.size) := Lib.hid (by rw [hU1]; simp)
    have HX1 : Kept w.heap.size (w.heap.size + 1) (BoxK w.heap.size 66 #[.int .i64 0, .int .i64 0, .int .i64 0, .int .i64 0]) U1 := by rw [hU1]; exact Kept.box (Box.made_at _ _ _ rfl)
    replace HS := HS.below hb
    replace HQ := HQ.below hb
    clear hb
    have Z1 := zz; clear zz
    have Y2 := Lib.hid (And.intro Y1.out Z1.out); clear Y1 Z1
    clear hU1
    refine (l4Key_any g A0 n0 c0 cs _ _ HS.here (by omega)).mono ?_
    rintro e w2 ⟨ka, kb, kc, rfl, _, _, _, hs⟩
    have ho := hs.fr
    have Z2 := Lib.hid ho.size
    have Y3 := Lib.hid (And.intro Y2.out Z2.out); clear Y2 Z2
    replace HQ := HQ.only ho (by have := Y3.out; omega)
    replace HX1 := HX1.only ho (by have := Y3.out; omega)
    replace HS := HS.next hs; clear ho hs
    have l2_0 := HQ.bx.lt
    have l2_1 := HX1.bx.lt
    go_wp2_with fail
    clear l2_0 l2_1
    refine Calls.name ?_
    intro U3 hU3
    have hb : Below w2.heap.size w2 U3 := by rw [hU3]; exact ((Below.refl _ _).alloc (Nat.le_refl _) _)
    have zz : Hid (w2.heap.size + 1 = U3.heap.size) := Lib.hid (by rw [hU3]; simp)
    have HX2 : Kept w2.heap.size (w2.heap.size + 1) (BoxK w2.heap.size 2 #[.int .i64 1, .int .i64 1, .int .i64 1, .int .i64 6, .int .i64 0, .int .i64 0, .int .i64 100001]) U3 := by rw [hU3]; exact Kept.box (Box.made_at _ _ _ rfl)
    replace HS := HS.below hb
    replace HQ := HQ.below hb
    replace HX1 := HX1.below hb
    clear hb
    have Z3 := zz; clear zz
    have Y4 := Lib.hid (And.intro Y3.out Z3.out); clear Y3 Z3
    clear hU3
    refine (dPick w2.heap.size 7 [1, 1, 1, 6, 0, 0, 100001] HS.here (by omega) HX2.bx rfl rfl (by omega) (by omega) (by have := Y4.out; omega)).mono ?_
    rintro e w4 ⟨vp, rfl, hv, hs⟩
    have ho := hs.fr
    have Z4 := Lib.hid ho.size
    have Y5 := Lib.hid (And.intro Y4.out Z4.out); clear Y4 Z4
    clear HX2
    replace HQ := HQ.only ho (by have := Y5.out; omega)
    replace HX1 := HX1.only ho (by have := Y5.out; omega)
    replace HS := HS.next hs; clear ho hs
    clear hv
    have c3_0 := HX1.look 0
    have c3_1 := HX1.look 1
    have c3_2 := HX1.look 2
    have c3_3 := HX1.look 3
    have f3_0 := HX1.free 0
    have f3_1 := HX1.free 1
    have f3_2 := HX1.free 2
    have f3_3 := HX1.free 3
    have l3_0 := HQ.bx.lt
    have l3_1 := HX1.bx.lt
    go_wp2
    clear c3_0 c3_1 c3_2 c3_3 f3_0 f3_1 f3_2 f3_3 l3_0 l3_1
    obtain ⟨U5, hU5⟩ : ∃ W : World, W = ((((w4.setCell ⟨w.heap.size, 0, none⟩ (.int .i64 ka)).setCell ⟨w.heap.size, 1, none⟩ (.int .i64 kb)).setCell ⟨w.heap.size, 2, none⟩ (.int .i64 kc)).setCell ⟨w.heap.size, 3, none⟩ (.int .i64 vp)) := ⟨_, rfl⟩
    have ho : Only w.heap.size (w.heap.size + 1) w4 U5 := by rw [hU5]; exact (((((Only.refl _ _ _).set (p := ⟨w.heap.size, 0, none⟩) (Nat.le_refl _) (Nat.lt_succ_self _) _).set (p := ⟨w.heap.size, 1, none⟩) (Nat.le_refl _) (Nat.lt_succ_self _) _).set (p := ⟨w.heap.size, 2, none⟩) (Nat.le_refl _) (Nat.lt_succ_self _) _).set (p := ⟨w.heap.size, 3, none⟩) (Nat.le_refl _) (Nat.lt_succ_self _) _)
    replace HX1 : Kept w.heap.size (w.heap.size + 1) (BoxK w.heap.size 66 #[.int .i64 ka, .int .i64 kb, .int .i64 kc, .int .i64 vp]) U5 := by rw [hU5]; exact Kept.box ((((HX1.bx.puts 0 (.int .i64 ka) (cs' := #[.int .i64 ka, .int .i64 0, .int .i64 0, .int .i64 0]) rfl).puts 1 (.int .i64 kb) (cs' := #[.int .i64 ka, .int .i64 kb, .int .i64 0, .int .i64 0]) rfl).puts 2 (.int .i64 kc) (cs' := #[.int .i64 ka, .int .i64 kb, .int .i64 kc, .int .i64 0]) rfl).puts 3 (.int .i64 vp) (cs' := #[.int .i64 ka, .int .i64 kb, .int .i64 kc, .int .i64 vp]) rfl)
    replace HS := HS.only ho (by have := Y5.out; omega)
    replace HQ := HQ.only ho (by have := Y5.out; omega)
    have Z5 : Hid (U5.heap.size = w4.heap.size) := Lib.hid (by rw [hU5]; simp [World.setCell]); clear ho
    have Y6 := Lib.hid (And.intro Y5.out Z5.out); clear Y5 Z5
    have q_0 := HX1.look 0
    have q_1 := HX1.look 1
    have q_2 := HX1.look 2
    have q_3 := HX1.look 3
    subst hU5
    exact bodyPost_ret (v := .agg #[.int .i64 ka, .int .i64 kb, .int .i64 kc, .int .i64 vp]) (by simp [results, Try.results122, go_sem, q_0, q_1, q_2, q_3]) rfl ⟨ka, kb, kc, vp, rfl, HS.more (by omega)⟩

set_option maxRecDepth 100000 in
set_option maxHeartbeats 6400000 in
theorem drawPushItem_any (A0 : Option Addr) (n0 c0 : Nat) (cs : List Int) (w : World) (ha : BIn w A0 n0 cs) (hb : Bytes cs) (hn : n0 ≤ 1048576) :
    Calls Try.prog 42 #[.slice A0 n0 c0] w fun e w' => ∃ (cap : Int) (mk : Bool) (E : Option Addr) (m d : Nat) (ys : List Tmr) (a b c v : Int), e = .returned (.tuple #[.agg #[.int .i64 cap, .bool mk, .slice E m d], .agg #[.int .i64 a, .int .i64 b, .int .i64 c, .int .i64 v]]) ∧ Kept w.heap.size w'.heap.size (OwnFK 66 4 tcell (w.heap.size) (w'.heap.size) E m d ys) w' ∧ m ≤ 16 ∧ Below w.heap.size w w' := by
  have HB := Lib.hid (Below.refl w.heap.size w)
  have HD := ha.hold
  have HBY := Lib.hid hb
  clear ha hb
  go_enter Try.func42, Try.ntmps42
  go_wp2_with fail
  refine Calls.name ?_
  intro U1 hU1
  have hb : Below w.heap.size w U1 := by rw [hU1]; exact (((Below.refl _ _).alloc (Nat.le_refl _) _).alloc (by simp <;> omega) _)
  have zz : Hid (w.heap.size + 2 = U1.heap.size) := Lib.hid (by rw [hU1]; simp)
  have HX1 : Kept w.heap.size (w.heap.size + 1) (BoxK w.heap.size 59 #[.int .i64 0, .bool false, .slice none 0 0]) U1 := by rw [hU1]; exact Kept.box ((Box.made_at _ _ _ rfl).over _)
  have HX2 : Kept (w.heap.size + 1) (w.heap.size + 1 + 1) (BoxK (w.heap.size + 1) 66 #[.int .i64 0, .int .i64 0, .int .i64 0, .int .i64 0]) U1 := by rw [hU1]; exact Kept.box (Box.made_at _ _ _ (by simp <;> omega))
  replace HD := HD.below hb
  replace HB := Lib.hid (below_step HB.out hb)
  clear hb
  have Z1 := zz; clear zz
  clear hU1
  refine (dSource A0 n0 c0 cs _ HD.out HBY.out hn).mono ?_
  rintro e w2 ⟨rfl, hs, hb⟩
  have Z2 := Lib.hid hb.size
  have Y1 := Lib.hid (And.intro Z1.out Z2.out); clear Z1 Z2
  replace HD := HD.below hb
  replace HX1 := HX1.below hb
  replace HX2 := HX2.below hb
  replace HB := Lib.hid (below_step HB.out hb)
  clear hb
  have HS := hs; clear hs
  have Z3 := Lib.hid HS.lt
  have Y2 := Lib.hid (And.intro Y1.out Z3.out); clear Y1 Z3
  have l2_0 := HX1.bx.lt
  have l2_1 := HX2.bx.lt
  go_wp2_with fail
  clear l2_0 l2_1
  refine (l6Bent_any U1.heap.size A0 n0 c0 cs _ _ HS.here (by omega)).mono ?_
  rintro e w3 ⟨cap, mk, E, m, d, ys, rfl, hos, hm16, hs⟩
  have ho := hs.fr
  have Z4 := Lib.hid ho.size
  have Y3 := Lib.hid (And.intro Y2.out Z4.out); clear Y2 Z4
  replace HD := HD.only ho (by have := Y3.out; omega)
  replace HX1 := HX1.only ho (by have := Y3.out; omega)
  replace HX2 := HX2.only ho (by have := Y3.out; omega)
  replace HB := Lib.hid (Below.only HB.out ho (by have := Y3.out; omega) HB.out.size)
  replace HS := HS.next hs; clear ho hs
  have HO := hos; clear hos
  have l3_0 := HX1.bx.lt
  have l3_1 := HX2.bx.lt
  go_wp2_with fail
  clear l3_0 l3_1
  refine Code.wp_name ?_
  intro U4 hU4
  have hb : Below w3.heap.size w3 U4 := by rw [hU4]; exact ((Below.refl _ _).alloc (Nat.le_refl _) _)
  have zz : Hid (w3.heap.size + 1 = U4.heap.size) := Lib.hid (by rw [hU4]; simp)
  have HX3 : Kept w3.heap.size (w3.heap.size + 1) (BoxK w3.heap.size 59 #[.int .i64 cap, .bool mk, .slice E m d]) U4 := by rw [hU4]; exact Kept.box (Box.made_at _ _ _ rfl)
  replace HD := HD.below hb
  replace HX1 := HX1.below hb
  replace HX2 := HX2.below hb
  replace HS := HS.below hb
  replace HO := HO.below hb
  replace HB := Lib.hid (below_step HB.out hb)
  clear hb
  have Z5 := zz; clear zz
  have Y4 := Lib.hid (And.intro Y3.out Z5.out); clear Y3 Z5
  clear hU4
  have HNE : Hid (w3.heap.size ≠ U1.heap.size) := Lib.hid (by have := Y4.out; omega)
  have V0 : Hid (Below U4.heap.size U4 U4.drew) := Lib.hid (Below.refl _ _).drew
  have hdz : U4.heap.size ≤ U4.drew.heap.size := Nat.le_refl _
  have hdq : U4.drew.heap.size = U4.heap.size := rfl
  have cl0_HX3_0 := HX3.look 0
  have cl0_HX3_1 := HX3.look 1
  have cl0_HX3_2 := HX3.look 2
  have ll0_HX3 := HX3.bx.lt
  have ll0_HX1 := HX1.bx.lt
  have ll0_HX2 := HX2.bx.lt
  have ne_HX1_HX3 : ¬ w.heap.size = w3.heap.size := (by have := Y4.out; omega)
  have nf_HX3_HX1 : ¬ w3.heap.size = w.heap.size := (by have := Y4.out; omega)
  have ne_HX1_HX2 : ¬ w.heap.size = w.heap.size + 1 := (by have := Y4.out; omega)
  have ne_HX2_HX3 : ¬ w.heap.size + 1 = w3.heap.size := (by have := Y4.out; omega)
  have nf_HX3_HX2 : ¬ w3.heap.size = w.heap.size + 1 := (by have := Y4.out; omega)
  have ne_HX2_HX1 : ¬ w.heap.size + 1 = w.heap.size := (by have := Y4.out; omega)
  go_region_law (first
      | ((show (if Region.wanted (Oper.mk (some 12) _ _ _ _ _) _ = true then _ else _)); go_simp; have PC := l6Item_any U1.heap.size A0 n0 c0 cs _ w3.heap.size cap mk _ _ _ E m d ys (U4.drew) (HS.below V0.out).here (by omega) (HX3.below V0.out) (own_items (HO.below V0.out).ownF) (Nat.le_refl _) (by omega) HNE.out; with_reducible refine PC.mono ?_; clear PC; rintro e uu0 ⟨ka, kb, kc, kv, rfl, hs⟩; replace HD := HD.below V0.out; replace HX1 := HX1.below V0.out; replace HX2 := HX2.below V0.out; replace HS := HS.below V0.out; replace HO := HO.below V0.out; replace HX3 := HX3.below V0.out; replace HB := Lib.hid (below_step HB.out V0.out); have ho := hs.fr; have Z6 := Lib.hid (Nat.le_trans hdz ho.size); have Y5 := Lib.hid (And.intro Y4.out Z6.out); clear Y4 Z6; replace HD := HD.only ho (by have := Y5.out; omega); replace HX1 := HX1.only ho (by have := Y5.out; omega); replace HX2 := HX2.only ho (by have := Y5.out; omega); replace HO := HO.only ho (by have := Y5.out; omega); replace HX3 := HX3.only ho (by have := Y5.out; omega); replace HB := Lib.hid (Below.only HB.out ho (by have := Y5.out; omega) HB.out.size); replace HS := HS.next hs; clear ho hs; have cl1_HX3_0 := HX3.look 0; have cl1_HX3_1 := HX3.look 1; have cl1_HX3_2 := HX3.look 2; have ll1_HX3 := HX3.bx.lt; have ll1_HX1 := HX1.bx.lt; have ll1_HX2 := HX2.bx.lt; have cs1_HX1_0 := HX1.look 0; have fs1_HX1_0 := HX1.free 0; have cs1_HX1_1 := HX1.look 1; have fs1_HX1_1 := HX1.free 1; have cs1_HX1_2 := HX1.look 2; have fs1_HX1_2 := HX1.free 2; have cs1_HX2_0 := HX2.look 0; have fs1_HX2_0 := HX2.free 0; have cs1_HX2_1 := HX2.look 1; have fs1_HX2_1 := HX2.free 1; have cs1_HX2_2 := HX2.look 2; have fs1_HX2_2 := HX2.free 2; have cs1_HX2_3 := HX2.look 3; have fs1_HX2_3 := HX2.free 3))
  all_goals
    clear HS
    have l4_0 := HX1.bx.lt
    have l4_1 := HX2.bx.lt
    have l4_2 := HX3.bx.lt
    go_wp2
    clear l4_0 l4_1 l4_2
    obtain ⟨U5, hU5⟩ : ∃ W : World, W = (((uu0.setCell ⟨w.heap.size, 0, none⟩ (.int .i64 cap)).setCell ⟨w.heap.size, 1, none⟩ (.bool mk)).setCell ⟨w.heap.size, 2, none⟩ (.slice E m d)) := ⟨_, rfl⟩
    have ho : Only w.heap.size (w.heap.size + 1) uu0 U5 := by rw [hU5]; exact ((((Only.refl _ _ _).set (p := ⟨w.heap.size, 0, none⟩) (Nat.le_refl _) (Nat.lt_succ_self _) _).set (p := ⟨w.heap.size, 1, none⟩) (Nat.le_refl _) (Nat.lt_succ_self _) _).set (p := ⟨w.heap.size, 2, none⟩) (Nat.le_refl _) (Nat.lt_succ_self _) _)
    replace HX1 : Kept w.heap.size (w.heap.size + 1) (BoxK w.heap.size 59 #[.int .i64 cap, .bool mk, .slice E m d]) U5 := by rw [hU5]; exact Kept.box (((HX1.bx.puts 0 (.int .i64 cap) (cs' := #[.int .i64 cap, .bool false, .slice none 0 0]) rfl).puts 1 (.bool mk) (cs' := #[.int .i64 cap, .bool mk, .slice none 0 0]) rfl).puts 2 (.slice E m d) (cs' := #[.int .i64 cap, .bool mk, .slice E m d]) rfl)
    replace HD := HD.only ho (by have := Y5.out; omega)
    replace HX2 := HX2.only ho (by have := Y5.out; omega)
    replace HO := HO.only ho (by have := Y5.out; omega)
    replace HX3 := HX3.only ho (by have := Y5.out; omega)
    replace HB := Lib.hid (Below.only HB.out ho (by have := Y5.out; omega) HB.out.size)
    have Z7 : Hid (U5.heap.size = uu0.heap.size) := Lib.hid (by rw [hU5]; simp [World.setCell]); clear ho
    have Y6 := Lib.hid (And.intro Y5.out Z7.out); clear Y5 Z7
    obtain ⟨U6, hU6⟩ : ∃ W : World, W = ((((U5.setCell ⟨w.heap.size + 1, 0, none⟩ (.int .i64 ka)).setCell ⟨w.heap.size + 1, 1, none⟩ (.int .i64 kb)).setCell ⟨w.heap.size + 1, 2, none⟩ (.int .i64 kc)).setCell ⟨w.heap.size + 1, 3, none⟩ (.int .i64 kv)) := ⟨_, rfl⟩
    have ho : Only (w.heap.size + 1) (w.heap.size + 1 + 1) U5 U6 := by rw [hU6]; exact (((((Only.refl _ _ _).set (p := ⟨w.heap.size + 1, 0, none⟩) (Nat.le_refl _) (Nat.lt_succ_self _) _).set (p := ⟨w.heap.size + 1, 1, none⟩) (Nat.le_refl _) (Nat.lt_succ_self _) _).set (p := ⟨w.heap.size + 1, 2, none⟩) (Nat.le_refl _) (Nat.lt_succ_self _) _).set (p := ⟨w.heap.size + 1, 3, none⟩) (Nat.le_refl _) (Nat.lt_succ_self _) _)
    replace HX2 : Kept (w.heap.size + 1) (w.heap.size + 1 + 1) (BoxK (w.heap.size + 1) 66 #[.int .i64 ka, .int .i64 kb, .int .i64 kc, .int .i64 kv]) U6 := by rw [hU6]; exact Kept.box ((((HX2.bx.puts 0 (.int .i64 ka) (cs' := #[.int .i64 ka, .int .i64 0, .int .i64 0, .int .i64 0]) rfl).puts 1 (.int .i64 kb) (cs' := #[.int .i64 ka, .int .i64 kb, .int .i64 0, .int .i64 0]) rfl).puts 2 (.int .i64 kc) (cs' := #[.int .i64 ka, .int .i64 kb, .int .i64 kc, .int .i64 0]) rfl).puts 3 (.int .i64 kv) (cs' := #[.int .i64 ka, .int .i64 kb, .int .i64 kc, .int .i64 kv]) rfl)
    replace HD := HD.only ho (by have := Y6.out; omega)
    replace HX1 := HX1.only ho (by have := Y6.out; omega)
    replace HO := HO.only ho (by have := Y6.out; omega)
    replace HX3 := HX3.only ho (by have := Y6.out; omega)
    replace HB := Lib.hid (Below.only HB.out ho (by have := Y6.out; omega) HB.out.size)
    have Z8 : Hid (U6.heap.size = U5.heap.size) := Lib.hid (by rw [hU6]; simp [World.setCell]); clear ho
    have Y7 := Lib.hid (And.intro Y6.out Z8.out); clear Y6 Z8
    have q0_0 := HX1.look 0
    have q0_1 := HX1.look 1
    have q0_2 := HX1.look 2
    have q1_0 := HX2.look 0
    have q1_1 := HX2.look 1
    have q1_2 := HX2.look 2
    have q1_3 := HX2.look 3
    have fin : ∀ e, e = Ending.returned (.tuple #[.agg #[.int .i64 cap, .bool mk, .slice E m d], .agg #[.int .i64 ka, .int .i64 kb, .int .i64 kc, .int .i64 kv]]) → (∃ (cap : Int) (mk : Bool) (E : Option Addr) (m d : Nat) (ys : List Tmr) (a b c v : Int), e = .returned (.tuple #[.agg #[.int .i64 cap, .bool mk, .slice E m d], .agg #[.int .i64 a, .int .i64 b, .int .i64 c, .int .i64 v]]) ∧ Kept w.heap.size U6.heap.size (OwnFK 66 4 tcell (w.heap.size) (U6.heap.size) E m d ys) U6 ∧ m ≤ 16 ∧ Below w.heap.size w U6) := by rintro _ rfl; exact ⟨cap, mk, E, m, d, ys, ka, kb, kc, kv, rfl, OwnFK.widen HO (by have := Y7.out; omega) (by have := HO.le; omega) (Nat.le_refl _), hm16, HB.out⟩
    subst hU6 hU5
    exact bodyPost_ret (v := .tuple #[.agg #[.int .i64 cap, .bool mk, .slice E m d], .agg #[.int .i64 ka, .int .i64 kb, .int .i64 kc, .int .i64 kv]]) (by simp [results, Try.results42, go_sem, q0_0, q0_1, q0_2, q1_0, q1_1, q1_2, q1_3]) rfl (fin _ rfl)

set_option maxRecDepth 100000 in
set_option maxHeartbeats 6400000 in
theorem drawSameQ_any (A0 : Option Addr) (n0 c0 : Nat) (cs : List Int) (w : World) (ha : BIn w A0 n0 cs) (hb : Bytes cs) (hn : n0 ≤ 1048576) :
    Calls Try.prog 47 #[.slice A0 n0 c0] w fun e w' => ∃ (cap : Int) (mk : Bool) (E : Option Addr) (m d : Nat) (ys : List Tmr) (cap2 : Int) (mk2 : Bool) (E2 : Option Addr) (m2 d2 : Nat) (ys2 : List Tmr), e = .returned (.tuple #[.agg #[.int .i64 cap, .bool mk, .slice E m d], .agg #[.int .i64 cap2, .bool mk2, .slice E2 m2 d2]]) ∧ Kept w.heap.size w'.heap.size (OwnFK 66 4 tcell (w.heap.size) (w'.heap.size) E m d ys) w' ∧ Kept w.heap.size w'.heap.size (OwnFK 66 4 tcell (w.heap.size) (w'.heap.size) E2 m2 d2 ys2) w' ∧ m ≤ 16 ∧ m2 ≤ 16 ∧ Below w.heap.size w w' := by
  have HB := Lib.hid (Below.refl w.heap.size w)
  have HD := ha.hold
  have HBY := Lib.hid hb
  clear ha hb
  go_enter Try.func47, Try.ntmps47
  go_wp2_with fail
  refine Calls.name ?_
  intro U1 hU1
  have hb : Below w.heap.size w U1 := by rw [hU1]; exact (((Below.refl _ _).alloc (Nat.le_refl _) _).alloc (by simp <;> omega) _)
  have zz : Hid (w.heap.size + 2 = U1.heap.size) := Lib.hid (by rw [hU1]; simp)
  have HX1 : Kept w.heap.size (w.heap.size + 1) (BoxK w.heap.size 59 #[.int .i64 0, .bool false, .slice none 0 0]) U1 := by rw [hU1]; exact Kept.box ((Box.made_at _ _ _ rfl).over _)
  have HX2 : Kept (w.heap.size + 1) (w.heap.size + 1 + 1) (BoxK (w.heap.size + 1) 59 #[.int .i64 0, .bool false, .slice none 0 0]) U1 := by rw [hU1]; exact Kept.box (Box.made_at _ _ _ (by simp <;> omega))
  replace HD := HD.below hb
  replace HB := Lib.hid (below_step HB.out hb)
  clear hb
  have Z1 := zz; clear zz
  clear hU1
  refine (dSource A0 n0 c0 cs _ HD.out HBY.out hn).mono ?_
  rintro e w2 ⟨rfl, hs, hb⟩
  have Z2 := Lib.hid hb.size
  have Y1 := Lib.hid (And.intro Z1.out Z2.out); clear Z1 Z2
  replace HD := HD.below hb
  replace HX1 := HX1.below hb
  replace HX2 := HX2.below hb
  replace HB := Lib.hid (below_step HB.out hb)
  clear hb
  have HS := hs; clear hs
  have Z3 := Lib.hid HS.lt
  have Y2 := Lib.hid (And.intro Y1.out Z3.out); clear Y1 Z3
  have l2_0 := HX1.bx.lt
  have l2_1 := HX2.bx.lt
  go_wp2_with fail
  clear l2_0 l2_1
  refine (l6Draw_any U1.heap.size A0 n0 c0 cs _ _ HS.here (by omega)).mono ?_
  rintro e w3 ⟨cap, mk, E, m, d, ys, rfl, hos, hm8, hs⟩
  have ho := hs.fr
  have Z4 := Lib.hid ho.size
  have Y3 := Lib.hid (And.intro Y2.out Z4.out); clear Y2 Z4
  replace HD := HD.only ho (by have := Y3.out; omega)
  replace HX1 := HX1.only ho (by have := Y3.out; omega)
  replace HX2 := HX2.only ho (by have := Y3.out; omega)
  replace HB := Lib.hid (Below.only HB.out ho (by have := Y3.out; omega) HB.out.size)
  replace HS := HS.next hs; clear ho hs
  have HO := hos; clear hos
  have l3_0 := HX1.bx.lt
  have l3_1 := HX2.bx.lt
  go_wp2_with fail
  clear l3_0 l3_1
  refine Calls.name ?_
  intro U4 hU4
  have hb : Below w3.heap.size w3 U4 := by rw [hU4]; exact ((Below.refl _ _).alloc (Nat.le_refl _) _)
  have zz : Hid (w3.heap.size + 1 = U4.heap.size) := Lib.hid (by rw [hU4]; simp)
  have HX3 : Kept w3.heap.size (w3.heap.size + 1) (BoxK w3.heap.size 59 #[.int .i64 cap, .bool mk, .slice E m d]) U4 := by rw [hU4]; exact Kept.box (Box.made_at _ _ _ rfl)
  replace HD := HD.below hb
  replace HX1 := HX1.below hb
  replace HX2 := HX2.below hb
  replace HS := HS.below hb
  replace HO := HO.below hb
  replace HB := Lib.hid (below_step HB.out hb)
  clear hb
  have Z5 := zz; clear zz
  have Y4 := Lib.hid (And.intro Y3.out Z5.out); clear Y3 Z5
  clear hU4
  refine (dChance 2 HS.here (by omega) (by omega)).mono ?_
  rintro e w5 ⟨vb, rfl, hs⟩
  have ho := hs.fr
  have Z6 := Lib.hid ho.size
  have Y5 := Lib.hid (And.intro Y4.out Z6.out); clear Y4 Z6
  replace HD := HD.only ho (by have := Y5.out; omega)
  replace HX1 := HX1.only ho (by have := Y5.out; omega)
  replace HX2 := HX2.only ho (by have := Y5.out; omega)
  replace HO := HO.only ho (by have := Y5.out; omega)
  replace HX3 := HX3.only ho (by have := Y5.out; omega)
  replace HB := Lib.hid (Below.only HB.out ho (by have := Y5.out; omega) HB.out.size)
  replace HS := HS.next hs; clear ho hs
  clear HS
  cases vb
  · have l4_0 := HX1.bx.lt
    have l4_1 := HX2.bx.lt
    have l4_2 := HX3.bx.lt
    go_wp2_with fail
    clear l4_0 l4_1 l4_2
    have V0 : Hid (Below w5.heap.size w5 w5.drew) := Lib.hid (Below.refl _ _).drew
    have hdz : w5.heap.size ≤ w5.drew.heap.size := Nat.le_refl _
    have hdq : w5.drew.heap.size = w5.heap.size := rfl
    have cl0_HX3_0 := HX3.look 0
    have cl0_HX3_1 := HX3.look 1
    have cl0_HX3_2 := HX3.look 2
    have ll0_HX3 := HX3.bx.lt
    have ll0_HX1 := HX1.bx.lt
    have ll0_HX2 := HX2.bx.lt
    have ne_HX1_HX3 : ¬ w.heap.size = w3.heap.size := (by have := Y5.out; omega)
    have nf_HX3_HX1 : ¬ w3.heap.size = w.heap.size := (by have := Y5.out; omega)
    have ne_HX1_HX2 : ¬ w.heap.size = w.heap.size + 1 := (by have := Y5.out; omega)
    have ne_HX2_HX3 : ¬ w.heap.size + 1 = w3.heap.size := (by have := Y5.out; omega)
    have nf_HX3_HX2 : ¬ w3.heap.size = w.heap.size + 1 := (by have := Y5.out; omega)
    have ne_HX2_HX1 : ¬ w.heap.size + 1 = w.heap.size := (by have := Y5.out; omega)
    go_region_law (first
          | ((show (if Region.wanted (Oper.mk (some 16) _ _ _ _ _) _ = true then _ else _)); go_simp; have PC := dSource A0 n0 c0 cs (w5.drew) (HD.below V0.out).out HBY.out hn; with_reducible refine PC.mono ?_; clear PC; rintro e uu0 ⟨rfl, hs2, hb⟩; replace HD := HD.below V0.out; replace HX1 := HX1.below V0.out; replace HX2 := HX2.below V0.out; replace HO := HO.below V0.out; replace HX3 := HX3.below V0.out; replace HB := Lib.hid (below_step HB.out V0.out); have Z7 := Lib.hid (Nat.le_trans hdz hb.size); have Y6 := Lib.hid (And.intro Y5.out Z7.out); clear Y5 Z7; replace HD := HD.below hb; replace HX1 := HX1.below hb; replace HX2 := HX2.below hb; replace HO := HO.below hb; replace HX3 := HX3.below hb; replace HB := Lib.hid (below_step HB.out hb); clear hb; rw [hdq] at hs2; have HS2 := hs2; clear hs2; have cl1_HX3_0 := HX3.look 0; have cl1_HX3_1 := HX3.look 1; have cl1_HX3_2 := HX3.look 2; have ll1_HX3 := HX3.bx.lt; have ll1_HX1 := HX1.bx.lt; have ll1_HX2 := HX2.bx.lt)
          | ((show (if Region.wanted (Oper.mk (some 17) _ _ _ _ _) _ = true then _ else _)); go_simp; have PC := l6Bent_any _ A0 n0 c0 cs 0 (uu0) HS2.here (by omega); with_reducible refine PC.mono ?_; clear PC; rintro e uu1 ⟨cap2, mk2, E2, m2, d2, ys2, rfl, hos, hm2, hs⟩; have ho := hs.fr; have Z8 := Lib.hid (ho.size); have Y7 := Lib.hid (And.intro Y6.out Z8.out); clear Y6 Z8; replace HD := HD.only ho (by have := Y7.out; omega); replace HX1 := HX1.only ho (by have := Y7.out; omega); replace HX2 := HX2.only ho (by have := Y7.out; omega); replace HO := HO.only ho (by have := Y7.out; omega); replace HX3 := HX3.only ho (by have := Y7.out; omega); replace HB := Lib.hid (Below.only HB.out ho (by have := Y7.out; omega) HB.out.size); replace HS2 := HS2.next hs; clear ho hs; have HK := hos; clear hos; have cl2_HX3_0 := HX3.look 0; have cl2_HX3_1 := HX3.look 1; have cl2_HX3_2 := HX3.look 2; have ll2_HX3 := HX3.bx.lt; have ll2_HX1 := HX1.bx.lt; have ll2_HX2 := HX2.bx.lt; have cs2_HX1_0 := HX1.look 0; have fs2_HX1_0 := HX1.free 0; have cs2_HX1_1 := HX1.look 1; have fs2_HX1_1 := HX1.free 1; have cs2_HX1_2 := HX1.look 2; have fs2_HX1_2 := HX1.free 2; have cs2_HX2_0 := HX2.look 0; have fs2_HX2_0 := HX2.free 0; have cs2_HX2_1 := HX2.look 1; have fs2_HX2_1 := HX2.free 1; have cs2_HX2_2 := HX2.look 2; have fs2_HX2_2 := HX2.free 2))
    all_goals
      clear HS2
      have l5_0 := HX1.bx.lt
      have l5_1 := HX2.bx.lt
      have l5_2 := HX3.bx.lt
      go_wp2
      clear l5_0 l5_1 l5_2
      obtain ⟨U6, hU6⟩ : ∃ W : World, W = (((uu1.setCell ⟨w.heap.size, 0, none⟩ (.int .i64 cap)).setCell ⟨w.heap.size, 1, none⟩ (.bool mk)).setCell ⟨w.heap.size, 2, none⟩ (.slice E m d)) := ⟨_, rfl⟩
      have ho : Only w.heap.size (w.heap.size + 1) uu1 U6 := by rw [hU6]; exact ((((Only.refl _ _ _).set (p := ⟨w.heap.size, 0, none⟩) (Nat.le_refl _) (Nat.lt_succ_self _) _).set (p := ⟨w.heap.size, 1, none⟩) (Nat.le_refl _) (Nat.lt_succ_self _) _).set (p := ⟨w.heap.size, 2, none⟩) (Nat.le_refl _) (Nat.lt_succ_self _) _)
      replace HX1 : Kept w.heap.size (w.heap.size + 1) (BoxK w.heap.size 59 #[.int .i64 cap, .bool mk, .slice E m d]) U6 := by rw [hU6]; exact Kept.box (((HX1.bx.puts 0 (.int .i64 cap) (cs' := #[.int .i64 cap, .bool false, .slice none 0 0]) rfl).puts 1 (.bool mk) (cs' := #[.int .i64 cap, .bool mk, .slice none 0 0]) rfl).puts 2 (.slice E m d) (cs' := #[.int .i64 cap, .bool mk, .slice E m d]) rfl)
      replace HD := HD.only ho (by have := Y7.out; omega)
      replace HX2 := HX2.only ho (by have := Y7.out; omega)
      replace HO := HO.only ho (by have := Y7.out; omega)
      replace HX3 := HX3.only ho (by have := Y7.out; omega)
      replace HK := HK.only ho (by have := Y7.out; omega)
      replace HB := Lib.hid (Below.only HB.out ho (by have := Y7.out; omega) HB.out.size)
      have Z9 : Hid (U6.heap.size = uu1.heap.size) := Lib.hid (by rw [hU6]; simp [World.setCell]); clear ho
      have Y8 := Lib.hid (And.intro Y7.out Z9.out); clear Y7 Z9
      obtain ⟨U7, hU7⟩ : ∃ W : World, W = (((U6.setCell ⟨w.heap.size + 1, 0, none⟩ (.int .i64 cap2)).setCell ⟨w.heap.size + 1, 1, none⟩ (.bool mk2)).setCell ⟨w.heap.size + 1, 2, none⟩ (.slice E2 m2 d2)) := ⟨_, rfl⟩
      have ho : Only (w.heap.size + 1) (w.heap.size + 1 + 1) U6 U7 := by rw [hU7]; exact ((((Only.refl _ _ _).set (p := ⟨w.heap.size + 1, 0, none⟩) (Nat.le_refl _) (Nat.lt_succ_self _) _).set (p := ⟨w.heap.size + 1, 1, none⟩) (Nat.le_refl _) (Nat.lt_succ_self _) _).set (p := ⟨w.heap.size + 1, 2, none⟩) (Nat.le_refl _) (Nat.lt_succ_self _) _)
      replace HX2 : Kept (w.heap.size + 1) (w.heap.size + 1 + 1) (BoxK (w.heap.size + 1) 59 #[.int .i64 cap2, .bool mk2, .slice E2 m2 d2]) U7 := by rw [hU7]; exact Kept.box (((HX2.bx.puts 0 (.int .i64 cap2) (cs' := #[.int .i64 cap2, .bool false, .slice none 0 0]) rfl).puts 1 (.bool mk2) (cs' := #[.int .i64 cap2, .bool mk2, .slice none 0 0]) rfl).puts 2 (.slice E2 m2 d2) (cs' := #[.int .i64 cap2, .bool mk2, .slice E2 m2 d2]) rfl)
      replace HD := HD.only ho (by have := Y8.out; omega)
      replace HX1 := HX1.only ho (by have := Y8.out; omega)
      replace HO := HO.only ho (by have := Y8.out; omega)
      replace HX3 := HX3.only ho (by have := Y8.out; omega)
      replace HK := HK.only ho (by have := Y8.out; omega)
      replace HB := Lib.hid (Below.only HB.out ho (by have := Y8.out; omega) HB.out.size)
      have Z10 : Hid (U7.heap.size = U6.heap.size) := Lib.hid (by rw [hU7]; simp [World.setCell]); clear ho
      have Y9 := Lib.hid (And.intro Y8.out Z10.out); clear Y8 Z10
      have q0_0 := HX1.look 0
      have q0_1 := HX1.look 1
      have q0_2 := HX1.look 2
      have q1_0 := HX2.look 0
      have q1_1 := HX2.look 1
      have q1_2 := HX2.look 2
      have fin : ∀ e, e = Ending.returned (.tuple #[.agg #[.int .i64 cap, .bool mk, .slice E m d], .agg #[.int .i64 cap2, .bool mk2, .slice E2 m2 d2]]) → (∃ (cap : Int) (mk : Bool) (E : Option Addr) (m d : Nat) (ys : List Tmr) (cap2 : Int) (mk2 : Bool) (E2 : Option Addr) (m2 d2 : Nat) (ys2 : List Tmr), e = .returned (.tuple #[.agg #[.int .i64 cap, .bool mk, .slice E m d], .agg #[.int .i64 cap2, .bool mk2, .slice E2 m2 d2]]) ∧ Kept w.heap.size U7.heap.size (OwnFK 66 4 tcell (w.heap.size) (U7.heap.size) E m d ys) U7 ∧ Kept w.heap.size U7.heap.size (OwnFK 66 4 tcell (w.heap.size) (U7.heap.size) E2 m2 d2 ys2) U7 ∧ m ≤ 16 ∧ m2 ≤ 16 ∧ Below w.heap.size w U7) := by rintro _ rfl; exact ⟨cap, mk, E, m, d, ys, cap2, mk2, E2, m2, d2, ys2, rfl, OwnFK.widen HO (by have := Y9.out; omega) (by have := HO.le; omega) (Nat.le_refl _), OwnFK.widen HK (by have := Y9.out; omega) (by have := HK.le; omega) (Nat.le_refl _), by omega, by omega, HB.out⟩
      subst hU7 hU6
      exact bodyPost_ret (v := .tuple #[.agg #[.int .i64 cap, .bool mk, .slice E m d], .agg #[.int .i64 cap2, .bool mk2, .slice E2 m2 d2]]) (by simp [results, Try.results47, go_sem, q0_0, q0_1, q0_2, q1_0, q1_1, q1_2]) rfl (fin _ rfl)
  · have l4_0 := HX1.bx.lt
    have l4_1 := HX2.bx.lt
    have l4_2 := HX3.bx.lt
    go_wp2_with fail
    clear l4_0 l4_1 l4_2
    have V0 : Hid (Below w5.heap.size w5 w5.drew) := Lib.hid (Below.refl _ _).drew
    have hdz : w5.heap.size ≤ w5.drew.heap.size := Nat.le_refl _
    have hdq : w5.drew.heap.size = w5.heap.size := rfl
    have cl0_HX3_0 := HX3.look 0
    have cl0_HX3_1 := HX3.look 1
    have cl0_HX3_2 := HX3.look 2
    have ll0_HX3 := HX3.bx.lt
    have ll0_HX1 := HX1.bx.lt
    have ll0_HX2 := HX2.bx.lt
    have ne_HX1_HX3 : ¬ w.heap.size = w3.heap.size := (by have := Y5.out; omega)
    have nf_HX3_HX1 : ¬ w3.heap.size = w.heap.size := (by have := Y5.out; omega)
    have ne_HX1_HX2 : ¬ w.heap.size = w.heap.size + 1 := (by have := Y5.out; omega)
    have ne_HX2_HX3 : ¬ w.heap.size + 1 = w3.heap.size := (by have := Y5.out; omega)
    have nf_HX3_HX2 : ¬ w3.heap.size = w.heap.size + 1 := (by have := Y5.out; omega)
    have ne_HX2_HX1 : ¬ w.heap.size + 1 = w.heap.size := (by have := Y5.out; omega)
    go_region_law (first
          | ((show (if Region.wanted (Oper.mk (some 13) _ _ _ _ _) _ = true then _ else _)); go_simp; have PC := l6Copy_any cap mk w3.heap.size _ _ _ E m d ys (w5.drew) (HX3.below V0.out).bx (own_items (HO.below V0.out).ownF) (Nat.le_refl _) (by omega); with_reducible refine PC.mono ?_; clear PC; rintro e uu0 ⟨E2, d2, rfl, hk, hb⟩; replace HD := HD.below V0.out; replace HX1 := HX1.below V0.out; replace HX2 := HX2.below V0.out; replace HO := HO.below V0.out; replace HX3 := HX3.below V0.out; replace HB := Lib.hid (below_step HB.out V0.out); have Z7 := Lib.hid (Nat.le_trans hdz hb.size); have Y6 := Lib.hid (And.intro Y5.out Z7.out); clear Y5 Z7; replace HD := HD.below hb; replace HX1 := HX1.below hb; replace HX2 := HX2.below hb; replace HO := HO.below hb; replace HX3 := HX3.below hb; replace HB := Lib.hid (below_step HB.out hb); clear hb; have HK := hk; clear hk; have cl1_HX3_0 := HX3.look 0; have cl1_HX3_1 := HX3.look 1; have cl1_HX3_2 := HX3.look 2; have ll1_HX3 := HX3.bx.lt; have ll1_HX1 := HX1.bx.lt; have ll1_HX2 := HX2.bx.lt; have cs1_HX1_0 := HX1.look 0; have fs1_HX1_0 := HX1.free 0; have cs1_HX1_1 := HX1.look 1; have fs1_HX1_1 := HX1.free 1; have cs1_HX1_2 := HX1.look 2; have fs1_HX1_2 := HX1.free 2; have cs1_HX2_0 := HX2.look 0; have fs1_HX2_0 := HX2.free 0; have cs1_HX2_1 := HX2.look 1; have fs1_HX2_1 := HX2.free 1; have cs1_HX2_2 := HX2.look 2; have fs1_HX2_2 := HX2.free 2))
    all_goals
      have l5_0 := HX1.bx.lt
      have l5_1 := HX2.bx.lt
      have l5_2 := HX3.bx.lt
      go_wp2
      clear l5_0 l5_1 l5_2
      obtain ⟨U6, hU6⟩ : ∃ W : World, W = (((uu0.setCell ⟨w.heap.size, 0, none⟩ (.int .i64 cap)).setCell ⟨w.heap.size, 1, none⟩ (.bool mk)).setCell ⟨w.heap.size, 2, none⟩ (.slice E m d)) := ⟨_, rfl⟩
      have ho : Only w.heap.size (w.heap.size + 1) uu0 U6 := by rw [hU6]; exact ((((Only.refl _ _ _).set (p := ⟨w.heap.size, 0, none⟩) (Nat.le_refl _) (Nat.lt_succ_self _) _).set (p := ⟨w.heap.size, 1, none⟩) (Nat.le_refl _) (Nat.lt_succ_self _) _).set (p := ⟨w.heap.size, 2, none⟩) (Nat.le_refl _) (Nat.lt_succ_self _) _)
      replace HX1 : Kept w.heap.size (w.heap.size + 1) (BoxK w.heap.size 59 #[.int .i64 cap, .bool mk, .slice E m d]) U6 := by rw [hU6]; exact Kept.box (((HX1.bx.puts 0 (.int .i64 cap) (cs' := #[.int .i64 cap, .bool false, .slice none 0 0]) rfl).puts 1 (.bool mk) (cs' := #[.int .i64 cap, .bool mk, .slice none 0 0]) rfl).puts 2 (.slice E m d) (cs' := #[.int .i64 cap, .bool mk, .slice E m d]) rfl)
      replace HD := HD.only ho (by have := Y6.out; omega)
      replace HX2 := HX2.only ho (by have := Y6.out; omega)
      replace HO := HO.only ho (by have := Y6.out; omega)
      replace HX3 := HX3.only ho (by have := Y6.out; omega)
      replace HK := HK.only ho (by have := Y6.out; omega)
      replace HB := Lib.hid (Below.only HB.out ho (by have := Y6.out; omega) HB.out.size)
      have Z8 : Hid (U6.heap.size = uu0.heap.size) := Lib.hid (by rw [hU6]; simp [World.setCell]); clear ho
      have Y7 := Lib.hid (And.intro Y6.out Z8.out); clear Y6 Z8
      obtain ⟨U7, hU7⟩ : ∃ W : World, W = (((U6.setCell ⟨w.heap.size + 1, 0, none⟩ (.int .i64 cap)).setCell ⟨w.heap.size + 1, 1, none⟩ (.bool mk)).setCell ⟨w.heap.size + 1, 2, none⟩ (.slice E2 m d2)) := ⟨_, rfl⟩
      have ho : Only (w.heap.size + 1) (w.heap.size + 1 + 1) U6 U7 := by rw [hU7]; exact ((((Only.refl _ _ _).set (p := ⟨w.heap.size + 1, 0, none⟩) (Nat.le_refl _) (Nat.lt_succ_self _) _).set (p := ⟨w.heap.size + 1, 1, none⟩) (Nat.le_refl _) (Nat.lt_succ_self _) _).set (p := ⟨w.heap.size + 1, 2, none⟩) (Nat.le_refl _) (Nat.lt_succ_self _) _)
      replace HX2 : Kept (w.heap.size + 1) (w.heap.size + 1 + 1) (BoxK (w.heap.size + 1) 59 #[.int .i64 cap, .bool mk, .slice E2 m d2]) U7 := by rw [hU7]; exact Kept.box (((HX2.bx.puts 0 (.int .i64 cap) (cs' := #[.int .i64 cap, .bool false, .slice none 0 0]) rfl).puts 1 (.bool mk) (cs' := #[.int .i64 cap, .bool mk, .slice none 0 0]) rfl).puts 2 (.slice E2 m d2) (cs' := #[.int .i64 cap, .bool mk, .slice E2 m d2]) rfl)
      replace HD := HD.only ho (by have := Y7.out; omega)
      replace HX1 := HX1.only ho (by have := Y7.out; omega)
      replace HO := HO.only ho (by have := Y7.out; omega)
      replace HX3 := HX3.only ho (by have := Y7.out; omega)
      replace HK := HK.only ho (by have := Y7.out; omega)
      replace HB := Lib.hid (Below.only HB.out ho (by have := Y7.out; omega) HB.out.size)
      have Z9 : Hid (U7.heap.size = U6.heap.size) := Lib.hid (by rw [hU7]; simp [World.setCell]); clear ho
      have Y8 := Lib.hid (And.intro Y7.out Z9.out); clear Y7 Z9
      have q0_0 := HX1.look 0
      have q0_1 := HX1.look 1
      have q0_2 := HX1.look 2
      have q1_0 := HX2.look 0
      have q1_1 := HX2.look 1
      have q1_2 := HX2.look 2
      have fin : ∀ e, e = Ending.returned (.tuple #[.agg #[.int .i64 cap, .bool mk, .slice E m d], .agg #[.int .i64 cap, .bool mk, .slice E2 m d2]]) → (∃ (cap : Int) (mk : Bool) (E : Option Addr) (m d : Nat) (ys : List Tmr) (cap2 : Int) (mk2 : Bool) (E2 : Option Addr) (m2 d2 : Nat) (ys2 : List Tmr), e = .returned (.tuple #[.agg #[.int .i64 cap, .bool mk, .slice E m d], .agg #[.int .i64 cap2, .bool mk2, .slice E2 m2 d2]]) ∧ Kept w.heap.size U7.heap.size (OwnFK 66 4 tcell (w.heap.size) (U7.heap.size) E m d ys) U7 ∧ Kept w.heap.size U7.heap.size (OwnFK 66 4 tcell (w.heap.size) (U7.heap.size) E2 m2 d2 ys2) U7 ∧ m ≤ 16 ∧ m2 ≤ 16 ∧ Below w.heap.size w U7) := by rintro _ rfl; exact ⟨cap, mk, E, m, d, ys, cap, mk, E2, m, d2, ys, rfl, OwnFK.widen HO (by have := Y8.out; omega) (by have := HO.le; omega) (Nat.le_refl _), OwnFK.widen HK (by have := Y8.out; omega) (by have := HK.le; omega) (Nat.le_refl _), by omega, by omega, HB.out⟩
      subst hU7 hU6
      exact bodyPost_ret (v := .tuple #[.agg #[.int .i64 cap, .bool mk, .slice E m d], .agg #[.int .i64 cap, .bool mk, .slice E2 m d2]]) (by simp [results, Try.results47, go_sem, q0_0, q0_1, q0_2, q1_0, q1_1, q1_2]) rfl (fin _ rfl)


end Go.Proofs.Ytiffhjofabaflaa

namespace Go.Proofs.Ytiffhjofabaflaa
open Go.RowKit
set_option linter.unusedVariables false

/-- append of flat items, which tells where the answer lies. -/
theorem wpList_appAtQ {α : Type} {size bytes : Nat} {f : α → List Value} {ts t : TypeId} {z : Value} {ops : Array Oper} {rest : List Oper} {o : Oper} {a : Act} {Q : Exit → Act → World → Prop} {w : World} {B : Nat} {A : Option Addr} {ad : Addr} {n c m d : Nat} {zs ys : List α} (hf : ∀ a, (f a).length = size) (hone : ∀ a, ∀ u ∈ f a, u.oneCell' = true) (hu : Try.prog.underlying ts = some (.slice t))
    (hinfo : (Try.prog.info? t).map (fun i => (i.zero, i.size, i.bytes)) = some (some z, size, bytes)) (hzc : z.cells.size = size) (hsz : 0 < size) (hby : bytes ≤ 1048576)
    (hgd : o.guard = none) (s x : Operand) (ho : o.op = .call { callee := .builtin .append, args := #[s, x], argTypes := #[ts, ts] })
    (hs : a.eval s = .slice A n c) (hown : OwnF t size f w B A n c zs) (hx : a.eval x = .slice (some ad) m d) (hyl : ys.length = m) (hE : ∀ j u, (ys.flatMap f)[j]? = some u → w.cell? (ad.add j) = some u) (hl : n + m ≤ 1048576) (hB : B ≤ w.heap.size)
    (h : ∀ A' c' w', OwnF t size f w' B A' (n + m) c' (zs ++ ys) → w.grownBy w' (A.map (·.block)) → (A'.map (·.block) = A.map (·.block) ∨ A'.map (·.block) = some w.heap.size) → wpList Try.prog ops Q rest (a.put o.dst (.slice A' (n + m) c')) w') :
    wpList Try.prog ops Q (o :: rest) a w := by
  refine wpList_plain hgd fun K hK => ?_
  obtain ⟨i0, hi, hz0, hz1, hz2⟩ := info_parts hinfo
  have hrow : ∀ (A : Option Addr) (n c : Nat), (Value.slice A n c).ownBlock = A.map (·.block) := fun A n c => by cases A <;> rfl
  have hbytes : (n + m) * bytes ≤ 140737488355328 := Nat.le_trans (Nat.mul_le_mul hl hby) (by decide)
  obtain ⟨v', w', hrun, h2, h3, _, h4⟩ := run_append_own_at (P := Try.prog) (w := w) B ts o.type t i0 z size bytes hu hi hz0 hz1 hz2 hzc hsz (.slice A n c) n (zs.flatMap f) hown.2 ad m d (ys.flatMap f) (by rw [flat_len hf, hyl]) hE (fun u hu => by
      obtain ⟨a, _, h2⟩ := List.mem_flatMap.1 hu
      exact hone a u h2) (by unfold maxLen; omega) hbytes hB
  obtain ⟨A', c', rfl⟩ := own_form_any h2
  rw [hrow, hrow] at h4
  unfold Oper.wp execOp
  simp only [ho, resolve, invoke, builtin, Sem.run_bind, Sem.run_pure, Result.andThen_ok, List.map_toArray, List.map_cons, List.map_nil, hs, hx, hrun]
  exact hK _ _ (h A' c' w' ⟨by rw [List.length_append, hown.1, hyl], by rw [List.flatMap_append]; exact h2⟩ (by rw [← hrow A n c]; exact h3) h4)

theorem Kept.grown_ne1 {F : World → Prop} {g : Nat} {w w' : World} {row : Option Nat} (h : Kept g (g + 1) F w) (hg : w.grownBy w' row) (hr : row ≠ some g) : Kept g (g + 1) F w' :=
  ⟨Nat.le_trans h.1 hg.size, fun w2 k => h.2 w2 fun b h1 h2 => (k b h1 h2).trans (hg.block b (by have := h.1; omega) (fun e => hr (by rw [← e, show b = g by omega])))⟩

/-- What DrawPushAll answers. -/
def PAOut (w : World) (e : Ending) (w' : World) : Prop := ∃ (cap : Int) (mk : Bool) (E : Option Addr) (m d : Nat) (ys : List Tmr) (I : Option Addr) (n c : Nat) (its : List Tmr), e = .returned (.tuple #[.agg #[.int .i64 cap, .bool mk, .slice E m d], .slice I n c]) ∧ Kept w.heap.size w'.heap.size (OwnFK 66 4 tcell (w.heap.size) (w'.heap.size) E m d ys) w' ∧ Kept w.heap.size w'.heap.size (OwnFK 66 4 tcell (w.heap.size) (w'.heap.size) I n c its) w' ∧ m ≤ 16 ∧ n ≤ 200 ∧ Below w.heap.size w w'

set_option maxRecDepth 100000 in
set_option maxHeartbeats 6400000 in
theorem drawPushAll_any (A0 : Option Addr) (n0 c0 : Nat) (cs : List Int) (w : World) (ha : BIn w A0 n0 cs) (hb : Bytes cs) (hn : n0 ≤ 1048576) :
    Calls Try.prog 40 #[.slice A0 n0 c0] w fun e w' => PAOut w e w' := by
  have HB := Lib.hid (Below.refl w.heap.size w)
  have HD := ha.hold
  have HBY := Lib.hid hb
  clear ha hb
  go_enter Try.func40, Try.ntmps40
  go_wp2_with fail
  refine Calls.name ?_
  intro U1 hU1
  have hb : Below w.heap.size w U1 := by rw [hU1]; exact ((Below.refl _ _).alloc (Nat.le_refl _) _)
  have zz : Hid (w.heap.size + 1 = U1.heap.size) := Lib.hid (by rw [hU1]; simp)
  have HX1 : Kept w.heap.size (w.heap.size + 1) (BoxK w.heap.size 59 #[.int .i64 0, .bool false, .slice none 0 0]) U1 := by rw [hU1]; exact Kept.box (Box.made_at _ _ _ rfl)
  replace HD := HD.below hb
  replace HB := Lib.hid (below_step HB.out hb)
  clear hb
  have Z1 := zz; clear zz
  clear hU1
  refine (dSource A0 n0 c0 cs _ HD.out HBY.out hn).mono ?_
  rintro e w2 ⟨rfl, hs, hb⟩
  have Z2 := Lib.hid hb.size
  have Y1 := Lib.hid (And.intro Z1.out Z2.out); clear Z1 Z2
  replace HD := HD.below hb
  replace HX1 := HX1.below hb
  replace HB := Lib.hid (below_step HB.out hb)
  clear hb
  have HS := hs; clear hs
  have Z3 := Lib.hid HS.lt
  have Y2 := Lib.hid (And.intro Y1.out Z3.out); clear Y1 Z3
  have l2_0 := HX1.bx.lt
  go_wp2_with fail
  clear l2_0
  refine (l6Bent_any U1.heap.size A0 n0 c0 cs _ _ HS.here (by omega)).mono ?_
  rintro e w3 ⟨cap, mk, E, m, d, ys, rfl, hos, hm16, hs⟩
  have ho := hs.fr
  have Z4 := Lib.hid ho.size
  have Y3 := Lib.hid (And.intro Y2.out Z4.out); clear Y2 Z4
  replace HD := HD.only ho (by have := Y3.out; omega)
  replace HX1 := HX1.only ho (by have := Y3.out; omega)
  replace HB := Lib.hid (Below.only HB.out ho (by have := Y3.out; omega) HB.out.size)
  replace HS := HS.next hs; clear ho hs
  have HO := hos; clear hos
  have l3_0 := HX1.bx.lt
  go_wp2_with fail
  clear l3_0
  refine Calls.name ?_
  intro U4 hU4
  have hb : Below w3.heap.size w3 U4 := by rw [hU4]; exact (((Below.refl _ _).alloc (Nat.le_refl _) _).alloc (by simp <;> omega) _)
  have zz : Hid (w3.heap.size + 2 = U4.heap.size) := Lib.hid (by rw [hU4]; simp)
  have HX2 : Kept w3.heap.size (w3.heap.size + 1) (BoxK w3.heap.size 59 #[.int .i64 cap, .bool mk, .slice E m d]) U4 := by rw [hU4]; exact Kept.box ((Box.made_at _ _ _ rfl).over _)
  have HX3 : Kept (w3.heap.size + 1) (w3.heap.size + 1 + 1) (BoxK (w3.heap.size + 1) 66 #[]) U4 := by rw [hU4]; exact Kept.box (Box.made_at _ _ _ (by simp <;> omega))
  replace HD := HD.below hb
  replace HX1 := HX1.below hb
  replace HS := HS.below hb
  replace HO := HO.below hb
  replace HB := Lib.hid (below_step HB.out hb)
  clear hb
  have Z5 := zz; clear zz
  have Y4 := Lib.hid (And.intro Y3.out Z5.out); clear Y3 Z5
  clear hU4
  have HNE0 : w3.heap.size ≠ U1.heap.size := (by have := Y4.out; omega)
  refine (l6Item_any U1.heap.size A0 n0 c0 cs _ w3.heap.size cap mk _ _ _ E m d ys _ HS.here (by omega) HX2 (own_items HO.ownF) (Nat.le_refl _) (by omega) HNE0).mono ?_
  rintro e w5 ⟨ka, kb, kc, kv, rfl, hs⟩
  have ho := hs.fr
  have Z6 := Lib.hid ho.size
  have Y5 := Lib.hid (And.intro Y4.out Z6.out); clear Y4 Z6
  replace HD := HD.only ho (by have := Y5.out; omega)
  replace HX1 := HX1.only ho (by have := Y5.out; omega)
  replace HO := HO.only ho (by have := Y5.out; omega)
  replace HX2 := HX2.only ho (by have := Y5.out; omega)
  replace HX3 := HX3.only ho (by have := Y5.out; omega)
  replace HB := Lib.hid (Below.only HB.out ho (by have := Y5.out; omega) HB.out.size)
  replace HS := HS.next hs; clear ho hs
  clear HNE0
  have l4_0 := HX1.bx.lt
  have l4_1 := HX2.bx.lt
  have l4_2 := HX3.bx.lt
  go_wp2_with fail
  clear l4_0 l4_1 l4_2
  refine Calls.name ?_
  intro U6 hU6
  have hb : Below w5.heap.size w5 U6 := by rw [hU6]; exact ((Below.refl _ _).alloc (Nat.le_refl _) _)
  have zz : Hid (w5.heap.size + 1 = U6.heap.size) := Lib.hid (by rw [hU6]; simp)
  have HX4 : Kept w5.heap.size (w5.heap.size + 1) (BoxK w5.heap.size 66 #[.int .i64 ka, .int .i64 kb, .int .i64 kc, .int .i64 kv]) U6 := by rw [hU6]; exact Kept.box (Box.made_at _ _ _ rfl)
  replace HD := HD.below hb
  replace HX1 := HX1.below hb
  replace HS := HS.below hb
  replace HO := HO.below hb
  replace HX2 := HX2.below hb
  replace HX3 := HX3.below hb
  replace HB := Lib.hid (below_step HB.out hb)
  clear hb
  have Z7 := zz; clear zz
  have Y6 := Lib.hid (And.intro Y5.out Z7.out); clear Y5 Z7
  clear hU6
  refine (dNext 12 HS.here (by omega) (by omega) (by omega)).mono ?_
  rintro e w7 ⟨vn, rfl, hvn0, hvn1, hs⟩
  have ho := hs.fr
  have Z8 := Lib.hid ho.size
  have Y7 := Lib.hid (And.intro Y6.out Z8.out); clear Y6 Z8
  replace HD := HD.only ho (by have := Y7.out; omega)
  replace HX1 := HX1.only ho (by have := Y7.out; omega)
  replace HO := HO.only ho (by have := Y7.out; omega)
  replace HX2 := HX2.only ho (by have := Y7.out; omega)
  replace HX3 := HX3.only ho (by have := Y7.out; omega)
  replace HX4 := HX4.only ho (by have := Y7.out; omega)
  replace HB := Lib.hid (Below.only HB.out ho (by have := Y7.out; omega) HB.out.size)
  replace HS := HS.next hs; clear ho hs
  have l5_0 := HX1.bx.lt
  have l5_1 := HX2.bx.lt
  have l5_2 := HX3.bx.lt
  have l5_3 := HX4.bx.lt
  go_wp2
  clear l5_0 l5_1 l5_2 l5_3
  obtain ⟨nn, rfl⟩ : ∃ nn : Nat, vn = nn := ⟨vn.toNat, by omega⟩
  have HI0 := (OwnF.of_box0 (size := 4) (f := tcell) HX3.bx).kept (hi := w7.heap.size) rfl
  have HNE0 : Hid ((some (⟨w3.heap.size + 1, 0, none⟩ : Addr)).map (·.block) ≠ some (w5.heap.size)) := Lib.hid (by simp only [Option.map_some]; intro e; injection e with e; have := HX4.bx.lt; have := Y7.out; omega)
  go_loopw [6, 8] (fun t6 t8 wr => ∃ (j : Nat) (I : Option Addr) (n1 c1 : Nat) (its : List Tmr) (a b c v : Int), t6 = .slice I n1 c1 ∧ t8 = .int .i64 j ∧ n1 + j ≤ 12 ∧ Dr w2 U1.heap.size A0 n0 c0 cs (140 + 4 * (12 - j)) wr ∧ Kept (w.heap.size) (w.heap.size + 1) (BoxK (w.heap.size) 59 #[.int .i64 0, .bool false, .slice none 0 0]) wr ∧ Kept (w3.heap.size) (w3.heap.size + 1) (BoxK (w3.heap.size) 59 #[.int .i64 cap, .bool mk, .slice E m d]) wr ∧ Kept (w5.heap.size) (w5.heap.size + 1) (BoxK (w5.heap.size) 66 #[.int .i64 a, .int .i64 b, .int .i64 c, .int .i64 v]) wr ∧ Kept (w3.heap.size + 1) wr.heap.size (OwnFK 66 4 tcell (w3.heap.size + 1) (wr.heap.size) I n1 c1 its) wr ∧ Hid (I.map (·.block) ≠ some (w5.heap.size)) ∧ Kept w2.heap.size w3.heap.size (OwnFK 66 4 tcell (w2.heap.size) (w3.heap.size) E m d ys) wr ∧ Hid (w7.heap.size ≤ wr.heap.size) ∧ Hid (Below w.heap.size w wr)) (fun _ t8 _ => (intOf t8).toNat)
  case atStart => exact ⟨nn, _, 0, 0, [], ka, kb, kc, kv, rfl, rfl, by omega, HS.more (by omega), HX1, HX2, HX4, HI0, HNE0, HO, Lib.hid (Nat.le_refl _), HB⟩
  case round =>
    clear HS HX1 HX2 HX4 HX3 HI0 HNE0 HO HB
    obtain ⟨j, I, n1, c1, its, a, b, c, v, rfl, rfl, hj, HS, HX1, HX2, HX4, HI, HNE, HO, HZW, HB⟩ := hrel
    have Y99 := Lib.hid (And.intro Y7.out HZW.out); clear Y7 HZW
    by_cases hj0 : 0 < j
    · obtain ⟨i, rfl⟩ : ∃ i, j = i + 1 := ⟨j - 1, by omega⟩
      have hjp : (0 : Int) < ((i + 1 : Nat) : Int) := by omega
      have c6_0 := HX4.look 0
      have c6_1 := HX4.look 1
      have c6_2 := HX4.look 2
      have c6_3 := HX4.look 3
      have l6_0 := HX1.bx.lt
      have l6_1 := HX2.bx.lt
      have l6_2 := HX4.bx.lt
      go_wp2_with (first | (at_builtin; refine wpList_name ?_; intro U8 hU8; have hb : Below wr.heap.size wr U8 := (by rw [hU8]; exact ((Below.refl _ _).alloc (Nat.le_refl _) _)); have zz : Hid (wr.heap.size + 1 = U8.heap.size) := Lib.hid (by rw [hU8]; simp); have HX5 : Kept wr.heap.size (wr.heap.size + 1) (BoxK wr.heap.size 66 #[.int .i64 a, .int .i64 b, .int .i64 c, .int .i64 v]) U8 := (by rw [hU8]; exact Kept.box (Box.made_at _ _ _ rfl)); replace HS := HS.below hb; replace HX1 := HX1.below hb; replace HX2 := HX2.below hb; replace HX4 := HX4.below hb; replace HI := HI.below hb; replace HO := HO.below hb; replace HB := Lib.hid (below_step HB.out hb); clear hb; have Z9 := zz; clear zz; have Y8 := Lib.hid (And.intro Y99.out Z9.out); clear Y99 Z9; clear hU8; refine wpList_appAtQ tcell_len tcell_one Try.underlying57 itemInfo rfl (by decide) (by decide) rfl (.tmp 23) (.tmp 25) rfl (B := (w3.heap.size + 1)) rfl HI.ownF rfl (ys := [⟨a, b, c, v⟩]) rfl (fun j v hj => by rw [Addr.add_lit, Nat.zero_add]; exact (HX5.bx.look j).trans (by simpa [tcell] using hj)) (by omega) (by have := Y8.out; omega) ?_; intro I2 c2 w9 ho hg hab; have hq : Only (w3.heap.size + 1) wr.heap.size U8 w9 := Only.of_grown hg (fun r hr => by have := HI.ownF.block r hr; have := HI.lim r hr; omega); have HNE2 : Hid (I2.map (·.block) ≠ some (w5.heap.size)) := Lib.hid (by rcases hab with h | h; exact (by rw [h]; exact HNE.out); exact (by rw [h]; intro e; injection e with e; have := HX4.le; omega)); replace HX4 := Kept.grown_ne1 HX4 hg HNE.out; clear hab HNE; have Z10 := Lib.hid hq.size; have Y9 := Lib.hid (And.intro Y8.out Z10.out); clear Y8 Z10; clear HI; replace HS := HS.only hq (by have := Y9.out; omega); replace HX1 := HX1.only hq (by have := Y9.out; omega); replace HX2 := HX2.only hq (by have := Y9.out; omega); skip; replace HO := HO.only hq (by have := Y9.out; omega); replace HX5 := HX5.only hq (by have := Y9.out; omega); replace HB := Lib.hid (Below.only HB.out hq (by have := Y9.out; omega) HB.out.size); clear hq hg; skip; have HI2 := ho.kept rfl; clear ho; have l7_0 := HX1.bx.lt; have l7_1 := HX2.bx.lt; have l7_2 := HX4.bx.lt; have l7_3 := HX5.bx.lt))
      clear c6_0 c6_1 c6_2 c6_3 l6_0 l6_1 l6_2 l7_0 l7_1 l7_2 l7_3
      clear hjp
      obtain ⟨r1, hr1⟩ : ∃ z, IntKind.i64.wrap (v + 1) = z := ⟨_, rfl⟩
      have V0 : Hid (Below w9.heap.size w9 w9.drew) := Lib.hid (Below.refl _ _).drew
      have hdz : w9.heap.size ≤ w9.drew.heap.size := Nat.le_refl _
      have hdq : w9.drew.heap.size = w9.heap.size := rfl
      have cl0_HX4_0 := HX4.look 0
      have cl0_HX4_1 := HX4.look 1
      have cl0_HX4_2 := HX4.look 2
      have cl0_HX4_3 := HX4.look 3
      have ll0_HX4 := HX4.bx.lt
      have ll0_HX4 := HX4.bx.lt
      go_region_law (first
              | ((show (if Region.wanted (Oper.mk (some 28) _ _ _ _ _) _ = true then _ else _)); go_simp; have PC := l4Key_any U1.heap.size A0 n0 c0 cs _ (w9.drew) (HS.below V0.out).here (by omega); with_reducible refine PC.mono ?_; clear PC; rintro e uu0 ⟨la, lb, lc, rfl, _, _, _, hs⟩; replace HS := HS.below V0.out; replace HX1 := HX1.below V0.out; replace HX2 := HX2.below V0.out; replace HX4 := HX4.below V0.out; replace HO := HO.below V0.out; replace HX5 := HX5.below V0.out; replace HI2 := HI2.below V0.out; replace HB := Lib.hid (below_step HB.out V0.out); have ho := hs.fr; have Z11 := Lib.hid (Nat.le_trans hdz ho.size); have Y10 := Lib.hid (And.intro Y9.out Z11.out); clear Y9 Z11; replace HX1 := HX1.only ho (by have := Y10.out; omega); replace HX2 := HX2.only ho (by have := Y10.out; omega); replace HX4 := HX4.only ho (by have := Y10.out; omega); replace HO := HO.only ho (by have := Y10.out; omega); replace HX5 := HX5.only ho (by have := Y10.out; omega); replace HI2 := HI2.only ho (by have := Y10.out; omega); replace HB := Lib.hid (Below.only HB.out ho (by have := Y10.out; omega) HB.out.size); replace HS := HS.next hs; clear ho hs; have cl1_HX4_0 := HX4.look 0; have cl1_HX4_1 := HX4.look 1; have cl1_HX4_2 := HX4.look 2; have cl1_HX4_3 := HX4.look 3; have ll1_HX4 := HX4.bx.lt; have ll1_HX4 := HX4.bx.lt)
              | ((show (if Region.wanted (Oper.mk (some 33) _ _ _ _ _) _ = true then _ else _)); go_simp; have PC := dNext 2 HS.here (by omega) (by omega) (by omega); with_reducible refine PC.mono ?_; clear PC; rintro e uu1 ⟨vt, rfl, hvt0, hvt1, hs⟩; have ho := hs.fr; have Z12 := Lib.hid (ho.size); have Y11 := Lib.hid (And.intro Y10.out Z12.out); clear Y10 Z12; replace HX1 := HX1.only ho (by have := Y11.out; omega); replace HX2 := HX2.only ho (by have := Y11.out; omega); replace HX4 := HX4.only ho (by have := Y11.out; omega); replace HO := HO.only ho (by have := Y11.out; omega); replace HX5 := HX5.only ho (by have := Y11.out; omega); replace HI2 := HI2.only ho (by have := Y11.out; omega); replace HB := Lib.hid (Below.only HB.out ho (by have := Y11.out; omega) HB.out.size); replace HS := HS.next hs; clear ho hs; obtain ⟨r2, hr2⟩ : ∃ z, IntKind.i64.wrap (r1 + vt) = z := ⟨_, rfl⟩; have cl2_HX4_0 := HX4.look 0; have cl2_HX4_1 := HX4.look 1; have cl2_HX4_2 := HX4.look 2; have cl2_HX4_3 := HX4.look 3; have ll2_HX4 := HX4.bx.lt; have ll2_HX4 := HX4.bx.lt; have cs2_HX4_0 := HX4.look 0; have fs2_HX4_0 := HX4.free 0; have cs2_HX4_1 := HX4.look 1; have fs2_HX4_1 := HX4.free 1; have cs2_HX4_2 := HX4.look 2; have fs2_HX4_2 := HX4.free 2; have cs2_HX4_3 := HX4.look 3; have fs2_HX4_3 := HX4.free 3))
      all_goals
        have HIo := Lib.hid HI2.ownF; clear HI2
        have l8_0 := HX1.bx.lt
        have l8_1 := HX2.bx.lt
        have l8_2 := HX4.bx.lt
        have l8_3 := HX5.bx.lt
        go_wp2
        clear l8_0 l8_1 l8_2 l8_3
        obtain ⟨U10, hU10⟩ : ∃ W : World, W = ((((uu1.setCell ⟨w5.heap.size, 0, none⟩ (.int .i64 la)).setCell ⟨w5.heap.size, 1, none⟩ (.int .i64 lb)).setCell ⟨w5.heap.size, 2, none⟩ (.int .i64 lc)).setCell ⟨w5.heap.size, 3, none⟩ (.int .i64 r2)) := ⟨_, rfl⟩
        have ho : Only w5.heap.size (w5.heap.size + 1) uu1 U10 := by rw [hU10]; exact (((((Only.refl _ _ _).set (p := ⟨w5.heap.size, 0, none⟩) (Nat.le_refl _) (Nat.lt_succ_self _) _).set (p := ⟨w5.heap.size, 1, none⟩) (Nat.le_refl _) (Nat.lt_succ_self _) _).set (p := ⟨w5.heap.size, 2, none⟩) (Nat.le_refl _) (Nat.lt_succ_self _) _).set (p := ⟨w5.heap.size, 3, none⟩) (Nat.le_refl _) (Nat.lt_succ_self _) _)
        have hOt := HIo.out.aside (Only.grown_ ho) (fun r hr e => by injection e with e; exact HNE2.out (by rw [hr, e]))
        replace HIo := Lib.hid hOt; clear hOt
        replace HX4 : Kept w5.heap.size (w5.heap.size + 1) (BoxK w5.heap.size 66 #[.int .i64 la, .int .i64 lb, .int .i64 lc, .int .i64 r2]) U10 := by rw [hU10]; exact Kept.box ((((HX4.bx.puts 0 (.int .i64 la) (cs' := #[.int .i64 la, .int .i64 b, .int .i64 c, .int .i64 v]) rfl).puts 1 (.int .i64 lb) (cs' := #[.int .i64 la, .int .i64 lb, .int .i64 c, .int .i64 v]) rfl).puts 2 (.int .i64 lc) (cs' := #[.int .i64 la, .int .i64 lb, .int .i64 lc, .int .i64 v]) rfl).puts 3 (.int .i64 r2) (cs' := #[.int .i64 la, .int .i64 lb, .int .i64 lc, .int .i64 r2]) rfl)
        replace HS := HS.only ho (by have := Y11.out; omega)
        replace HX1 := HX1.only ho (by have := Y11.out; omega)
        replace HX2 := HX2.only ho (by have := Y11.out; omega)
        replace HO := HO.only ho (by have := Y11.out; omega)
        replace HX5 := HX5.only ho (by have := Y11.out; omega)
        replace HB := Lib.hid (Below.only HB.out ho (by have := Y11.out; omega) HB.out.size)
        have Z13 : Hid (U10.heap.size = uu1.heap.size) := Lib.hid (by rw [hU10]; simp [World.setCell]); clear ho
        have Y12 := Lib.hid (And.intro Y11.out Z13.out); clear Y11 Z13
        subst hU10
        go_roundw
        case rel => exact ⟨i, I2, _, c2, _, la, lb, lc, r2, rfl, by go_num, by omega, HS.more (by omega), HX1, HX2, HX4, HIo.out.kept rfl, HNE2, HO, Lib.hid (by have := Y12.out; omega), HB⟩
        case measure => simp [intOf] <;> omega
    · obtain rfl : j = 0 := by omega
      have l6_0 := HX1.bx.lt
      have l6_1 := HX2.bx.lt
      have l6_2 := HX4.bx.lt
      go_wp2_with fail
      clear l6_0 l6_1 l6_2
      refine (dChance 30 HS.here (by omega) (by omega)).mono ?_
      rintro e w8 ⟨vc, rfl, hs⟩
      have ho := hs.fr
      have Z9 := Lib.hid ho.size
      have Y8 := Lib.hid (And.intro Y99.out Z9.out); clear Y99 Z9
      replace HX1 := HX1.only ho (by have := Y8.out; omega)
      replace HX2 := HX2.only ho (by have := Y8.out; omega)
      replace HX4 := HX4.only ho (by have := Y8.out; omega)
      replace HI := HI.only ho (by have := Y8.out; omega)
      replace HO := HO.only ho (by have := Y8.out; omega)
      replace HB := Lib.hid (Below.only HB.out ho (by have := Y8.out; omega) HB.out.size)
      replace HS := HS.next hs; clear ho hs
      cases vc with
      | false =>
        clear HS
        have c7_0 := HX1.look 0
        have c7_1 := HX1.look 1
        have c7_2 := HX1.look 2
        have c7_3 := HX2.look 0
        have c7_4 := HX2.look 1
        have c7_5 := HX2.look 2
        have f7_0 := HX1.free 0
        have f7_1 := HX1.free 1
        have f7_2 := HX1.free 2
        have l7_0 := HX1.bx.lt
        have l7_1 := HX2.bx.lt
        have l7_2 := HX4.bx.lt
        have n7_0_1 : ¬ w.heap.size = w3.heap.size := (by have := Y8.out; omega)
        have m7_0_1 : ¬ w3.heap.size = w.heap.size := (by have := Y8.out; omega)
        go_wp2
        clear c7_0 c7_1 c7_2 c7_3 c7_4 c7_5 f7_0 f7_1 f7_2 l7_0 l7_1 l7_2 n7_0_1 m7_0_1
        obtain ⟨U9, hU9⟩ : ∃ W : World, W = (((w8.setCell ⟨w.heap.size, 0, none⟩ (.int .i64 cap)).setCell ⟨w.heap.size, 1, none⟩ (.bool mk)).setCell ⟨w.heap.size, 2, none⟩ (.slice E m d)) := ⟨_, rfl⟩
        have ho : Only w.heap.size (w.heap.size + 1) w8 U9 := by rw [hU9]; exact ((((Only.refl _ _ _).set (p := ⟨w.heap.size, 0, none⟩) (Nat.le_refl _) (Nat.lt_succ_self _) _).set (p := ⟨w.heap.size, 1, none⟩) (Nat.le_refl _) (Nat.lt_succ_self _) _).set (p := ⟨w.heap.size, 2, none⟩) (Nat.le_refl _) (Nat.lt_succ_self _) _)
        replace HX1 : Kept w.heap.size (w.heap.size + 1) (BoxK w.heap.size 59 #[.int .i64 cap, .bool mk, .slice E m d]) U9 := by rw [hU9]; exact Kept.box (((HX1.bx.puts 0 (.int .i64 cap) (cs' := #[.int .i64 cap, .bool false, .slice none 0 0]) rfl).puts 1 (.bool mk) (cs' := #[.int .i64 cap, .bool mk, .slice none 0 0]) rfl).puts 2 (.slice E m d) (cs' := #[.int .i64 cap, .bool mk, .slice E m d]) rfl)
        replace HX2 := HX2.only ho (by have := Y8.out; omega)
        replace HX4 := HX4.only ho (by have := Y8.out; omega)
        replace HI := HI.only ho (by have := Y8.out; omega)
        replace HO := HO.only ho (by have := Y8.out; omega)
        replace HB := Lib.hid (Below.only HB.out ho (by have := Y8.out; omega) HB.out.size)
        have Z10 : Hid (U9.heap.size = w8.heap.size) := Lib.hid (by rw [hU9]; simp [World.setCell]); clear ho
        have Y9 := Lib.hid (And.intro Y8.out Z10.out); clear Y8 Z10
        have q0_0 := HX1.look 0
        have q0_1 := HX1.look 1
        have q0_2 := HX1.look 2
        have fin : ∀ e, e = Ending.returned (.tuple #[.agg #[.int .i64 cap, .bool mk, .slice E m d], .slice I n1 c1]) → (PAOut w e U9) := by rintro _ rfl; exact (by unfold PAOut; exact ⟨cap, mk, E, m, d, ys, I, n1, c1, its, rfl, OwnFK.widen HO (by have := Y9.out; omega) (by have := HO.le; omega) (Nat.le_refl _), OwnFK.widen HI (by have := Y9.out; omega) (by have := HI.le; omega) (Nat.le_refl _), hm16, by omega, HB.out⟩)
        subst hU9
        exact bodyPost_ret (v := .tuple #[.agg #[.int .i64 cap, .bool mk, .slice E m d], .slice I n1 c1]) (by simp [results, Try.results40, go_sem, q0_0, q0_1, q0_2]) rfl (fin _ rfl)
      | true =>
        have l7_0 := HX1.bx.lt
        have l7_1 := HX2.bx.lt
        have l7_2 := HX4.bx.lt
        go_wp2_with fail
        clear l7_0 l7_1 l7_2
        refine Calls.name ?_
        intro U9 hU9
        have hb : Below w8.heap.size w8 U9 := by rw [hU9]; exact ((Below.refl _ _).alloc (Nat.le_refl _) _)
        have zz : Hid (w8.heap.size + 1 = U9.heap.size) := Lib.hid (by rw [hU9]; simp)
        have HX5 : Kept w8.heap.size (w8.heap.size + 1) (BoxK w8.heap.size 2 #[.int .i64 100, .int .i64 101]) U9 := by rw [hU9]; exact Kept.box (Box.made_at _ _ _ rfl)
        replace HS := HS.below hb
        replace HX1 := HX1.below hb
        replace HX2 := HX2.below hb
        replace HX4 := HX4.below hb
        replace HI := HI.below hb
        replace HO := HO.below hb
        replace HB := Lib.hid (below_step HB.out hb)
        clear hb
        have Z10 := zz; clear zz
        have Y9 := Lib.hid (And.intro Y8.out Z10.out); clear Y8 Z10
        clear hU9
        refine (dPick w8.heap.size 2 [100, 101] HS.here (by omega) HX5.bx rfl rfl (by omega) (by omega) (by have := Y9.out; omega)).mono ?_
        rintro e w10 ⟨vp, rfl, hv, hs⟩
        have ho := hs.fr
        have Z11 := Lib.hid ho.size
        have Y10 := Lib.hid (And.intro Y9.out Z11.out); clear Y9 Z11
        clear HX5
        replace HX1 := HX1.only ho (by have := Y10.out; omega)
        replace HX2 := HX2.only ho (by have := Y10.out; omega)
        replace HX4 := HX4.only ho (by have := Y10.out; omega)
        replace HI := HI.only ho (by have := Y10.out; omega)
        replace HO := HO.only ho (by have := Y10.out; omega)
        replace HB := Lib.hid (Below.only HB.out ho (by have := Y10.out; omega) HB.out.size)
        replace HS := HS.next hs; clear ho hs
        have HVvp : Hid (100 ≤ vp ∧ vp ≤ 101) := Lib.hid (by simp only [List.mem_cons, List.not_mem_nil, or_false] at hv; omega)
        clear hv
        have hvp := HVvp.out
        clear HS
        have l8_0 := HX1.bx.lt
        have l8_1 := HX2.bx.lt
        have l8_2 := HX4.bx.lt
        go_wp2
        clear l8_0 l8_1 l8_2
        have HI1 := HI.ownF.kept (hi := w10.heap.size) rfl
        go_loopw [6] (fun t6 wr => ∃ (I : Option Addr) (n1 c1 : Nat) (its : List Tmr) (a b c v : Int), t6 = .slice I n1 c1 ∧ n1 ≤ 150 ∧ Kept (w.heap.size) (w.heap.size + 1) (BoxK (w.heap.size) 59 #[.int .i64 0, .bool false, .slice none 0 0]) wr ∧ Kept (w3.heap.size) (w3.heap.size + 1) (BoxK (w3.heap.size) 59 #[.int .i64 cap, .bool mk, .slice E m d]) wr ∧ Kept (w5.heap.size) (w5.heap.size + 1) (BoxK (w5.heap.size) 66 #[.int .i64 a, .int .i64 b, .int .i64 c, .int .i64 v]) wr ∧ Kept (w3.heap.size + 1) wr.heap.size (OwnFK 66 4 tcell (w3.heap.size + 1) (wr.heap.size) I n1 c1 its) wr ∧ Hid (I.map (·.block) ≠ some (w5.heap.size)) ∧ Kept w2.heap.size w3.heap.size (OwnFK 66 4 tcell (w2.heap.size) (w3.heap.size) E m d ys) wr ∧ Hid (w7.heap.size ≤ wr.heap.size) ∧ Hid (Below w.heap.size w wr)) (fun t6 _ => 150 - (match t6 with | .slice _ n _ => n | _ => 0))
        case atStart => exact ⟨I, n1, c1, its, a, b, c, v, rfl, by omega, HX1, HX2, HX4, HI1, HNE, HO, Lib.hid (by have := Y10.out; omega), HB⟩
        case round =>
          clear HX1 HX2 HX4 HI HI1 HNE HO HB hj
          obtain ⟨I, n1, c1, its, a, b, c, v, rfl, hn1, HX1, HX2, HX4, HI, HNE, HO, HZW, HB⟩ := hrel
          have Y98 := Lib.hid (And.intro Y10.out HZW.out); clear Y10 HZW
          by_cases hl : (n1 : Int) < vp
          · obtain ⟨r1, hr1⟩ : ∃ z, IntKind.i64.wrap (v + 1) = z := ⟨_, rfl⟩
            have c9_0 := HX4.look 0
            have c9_1 := HX4.look 1
            have c9_2 := HX4.look 2
            have c9_3 := HX4.look 3
            have l9_0 := HX1.bx.lt
            have l9_1 := HX2.bx.lt
            have l9_2 := HX4.bx.lt
            go_wp2_with (first | (at_builtin; refine wpList_name ?_; intro U11 hU11; have hb : Below wr.heap.size wr U11 := (by rw [hU11]; exact ((Below.refl _ _).alloc (Nat.le_refl _) _)); have zz : Hid (wr.heap.size + 1 = U11.heap.size) := Lib.hid (by rw [hU11]; simp); have HX6 : Kept wr.heap.size (wr.heap.size + 1) (BoxK wr.heap.size 66 #[.int .i64 a, .int .i64 b, .int .i64 c, .int .i64 v]) U11 := (by rw [hU11]; exact Kept.box (Box.made_at _ _ _ rfl)); replace HX1 := HX1.below hb; replace HX2 := HX2.below hb; replace HX4 := HX4.below hb; replace HI := HI.below hb; replace HO := HO.below hb; replace HB := Lib.hid (below_step HB.out hb); clear hb; have Z12 := zz; clear zz; have Y11 := Lib.hid (And.intro Y98.out Z12.out); clear Y98 Z12; clear hU11; refine wpList_appAtQ tcell_len tcell_one Try.underlying57 itemInfo rfl (by decide) (by decide) rfl (.tmp 45) (.tmp 47) rfl (B := (w3.heap.size + 1)) rfl HI.ownF rfl (ys := [⟨a, b, c, v⟩]) rfl (fun j v hj => by rw [Addr.add_lit, Nat.zero_add]; exact (HX6.bx.look j).trans (by simpa [tcell] using hj)) (by omega) (by have := Y11.out; omega) ?_; intro I2 c2 w12 ho hg hab; have hq : Only (w3.heap.size + 1) wr.heap.size U11 w12 := Only.of_grown hg (fun r hr => by have := HI.ownF.block r hr; have := HI.lim r hr; omega); have HNE2 : Hid (I2.map (·.block) ≠ some (w5.heap.size)) := Lib.hid (by rcases hab with h | h; exact (by rw [h]; exact HNE.out); exact (by rw [h]; intro e; injection e with e; have := HX4.le; omega)); replace HX4 := Kept.grown_ne1 HX4 hg HNE.out; clear hab HNE; have Z13 := Lib.hid hq.size; have Y12 := Lib.hid (And.intro Y11.out Z13.out); clear Y11 Z13; clear HI; replace HX1 := HX1.only hq (by have := Y12.out; omega); replace HX2 := HX2.only hq (by have := Y12.out; omega); skip; replace HO := HO.only hq (by have := Y12.out; omega); replace HX6 := HX6.only hq (by have := Y12.out; omega); replace HB := Lib.hid (Below.only HB.out hq (by have := Y12.out; omega) HB.out.size); clear hq hg; skip; have HI2 := ho.kept rfl; clear ho; have c10_0 := HX4.look 3; have f10_0 := HX4.free 3; have l10_0 := HX1.bx.lt; have l10_1 := HX2.bx.lt; have l10_2 := HX4.bx.lt; have l10_3 := HX6.bx.lt))
            clear c9_0 c9_1 c9_2 c9_3 l9_0 l9_1 l9_2 c10_0 f10_0 l10_0 l10_1 l10_2 l10_3
            have HIo := Lib.hid HI2.ownF; clear HI2
            obtain ⟨U13, hU13⟩ : ∃ W : World, W = (w12.setCell ⟨w5.heap.size, 3, none⟩ (.int .i64 r1)) := ⟨_, rfl⟩
            have ho : Only w5.heap.size (w5.heap.size + 1) w12 U13 := by rw [hU13]; exact ((Only.refl _ _ _).set (p := ⟨w5.heap.size, 3, none⟩) (Nat.le_refl _) (Nat.lt_succ_self _) _)
            have hOt := HIo.out.aside (Only.grown_ ho) (fun r hr e => by injection e with e; exact HNE2.out (by rw [hr, e]))
            replace HIo := Lib.hid hOt; clear hOt
            replace HX4 : Kept w5.heap.size (w5.heap.size + 1) (BoxK w5.heap.size 66 #[.int .i64 a, .int .i64 b, .int .i64 c, .int .i64 r1]) U13 := by rw [hU13]; exact Kept.box (HX4.bx.puts 3 (.int .i64 r1) (cs' := #[.int .i64 a, .int .i64 b, .int .i64 c, .int .i64 r1]) rfl)
            replace HX1 := HX1.only ho (by have := Y12.out; omega)
            replace HX2 := HX2.only ho (by have := Y12.out; omega)
            replace HO := HO.only ho (by have := Y12.out; omega)
            replace HX6 := HX6.only ho (by have := Y12.out; omega)
            replace HB := Lib.hid (Below.only HB.out ho (by have := Y12.out; omega) HB.out.size)
            have Z14 : Hid (U13.heap.size = w12.heap.size) := Lib.hid (by rw [hU13]; simp [World.setCell]); clear ho
            have Y13 := Lib.hid (And.intro Y12.out Z14.out); clear Y12 Z14
            subst hU13
            go_roundw
            case rel => exact ⟨I2, _, c2, _, a, b, c, r1, rfl, by omega, HX1, HX2, HX4, HIo.out.kept rfl, HNE2, HO, Lib.hid (by have := Y13.out; omega), HB⟩
            case measure => simp <;> omega
          · have c9_0 := HX1.look 0
            have c9_1 := HX1.look 1
            have c9_2 := HX1.look 2
            have c9_3 := HX2.look 0
            have c9_4 := HX2.look 1
            have c9_5 := HX2.look 2
            have f9_0 := HX1.free 0
            have f9_1 := HX1.free 1
            have f9_2 := HX1.free 2
            have l9_0 := HX1.bx.lt
            have l9_1 := HX2.bx.lt
            have l9_2 := HX4.bx.lt
            have n9_0_1 : ¬ w.heap.size = w3.heap.size := (by have := Y98.out; omega)
            have m9_0_1 : ¬ w3.heap.size = w.heap.size := (by have := Y98.out; omega)
            go_wp2
            clear c9_0 c9_1 c9_2 c9_3 c9_4 c9_5 f9_0 f9_1 f9_2 l9_0 l9_1 l9_2 n9_0_1 m9_0_1
            obtain ⟨U11, hU11⟩ : ∃ W : World, W = (((wr.setCell ⟨w.heap.size, 0, none⟩ (.int .i64 cap)).setCell ⟨w.heap.size, 1, none⟩ (.bool mk)).setCell ⟨w.heap.size, 2, none⟩ (.slice E m d)) := ⟨_, rfl⟩
            have ho : Only w.heap.size (w.heap.size + 1) wr U11 := by rw [hU11]; exact ((((Only.refl _ _ _).set (p := ⟨w.heap.size, 0, none⟩) (Nat.le_refl _) (Nat.lt_succ_self _) _).set (p := ⟨w.heap.size, 1, none⟩) (Nat.le_refl _) (Nat.lt_succ_self _) _).set (p := ⟨w.heap.size, 2, none⟩) (Nat.le_refl _) (Nat.lt_succ_self _) _)
            replace HX1 : Kept w.heap.size (w.heap.size + 1) (BoxK w.heap.size 59 #[.int .i64 cap, .bool mk, .slice E m d]) U11 := by rw [hU11]; exact Kept.box (((HX1.bx.puts 0 (.int .i64 cap) (cs' := #[.int .i64 cap, .bool false, .slice none 0 0]) rfl).puts 1 (.bool mk) (cs' := #[.int .i64 cap, .bool mk, .slice none 0 0]) rfl).puts 2 (.slice E m d) (cs' := #[.int .i64 cap, .bool mk, .slice E m d]) rfl)
            replace HX2 := HX2.only ho (by have := Y98.out; omega)
            replace HX4 := HX4.only ho (by have := Y98.out; omega)
            replace HI := HI.only ho (by have := Y98.out; omega)
            replace HO := HO.only ho (by have := Y98.out; omega)
            replace HB := Lib.hid (Below.only HB.out ho (by have := Y98.out; omega) HB.out.size)
            have Z12 : Hid (U11.heap.size = wr.heap.size) := Lib.hid (by rw [hU11]; simp [World.setCell]); clear ho
            have Y11 := Lib.hid (And.intro Y98.out Z12.out); clear Y98 Z12
            have q0_0 := HX1.look 0
            have q0_1 := HX1.look 1
            have q0_2 := HX1.look 2
            have fin : ∀ e, e = Ending.returned (.tuple #[.agg #[.int .i64 cap, .bool mk, .slice E m d], .slice I n1 c1]) → (PAOut w e U11) := by rintro _ rfl; exact (by unfold PAOut; exact ⟨cap, mk, E, m, d, ys, I, n1, c1, its, rfl, OwnFK.widen HO (by have := Y11.out; omega) (by have := HO.le; omega) (Nat.le_refl _), OwnFK.widen HI (by have := Y11.out; omega) (by have := HI.le; omega) (Nat.le_refl _), hm16, by omega, HB.out⟩)
            subst hU11
            exact bodyPost_ret (v := .tuple #[.agg #[.int .i64 cap, .bool mk, .slice E m d], .slice I n1 c1]) (by simp [results, Try.results40, go_sem, q0_0, q0_1, q0_2]) rfl (fin _ rfl)


end Go.Proofs.Ytiffhjofabaflaa

namespace Go.Proofs.Ytiffhjofabaflaa
open Go.RowKit
set_option linter.unusedVariables false

theorem fit_3 {ys : List Tmr} {x : Tmr} (h : ¬ (1 ≤ x.due ∧ x.due ≤ 100000)) : fit ys x = 3 := if_pos h
theorem fit_r {ys : List Tmr} {x : Tmr} (h : 1 ≤ x.due ∧ x.due ≤ 100000) : fit ys x = if ¬ ups (revs ys ++ [x.due]) then 1 else 0 := if_neg (fun h' => h' h)

set_option maxRecDepth 100000 in
set_option maxHeartbeats 3200000 in
theorem itemFault_any (cap : Int) (mk : Bool) (g B : Nat) (A : Option Addr) (n c : Nat) (ys : List Tmr) (x : Tmr) (w : World) (hg : Box w g 202 #[.int .i64 cap, .bool mk, .slice A n c]) (ho : OwnF 66 4 tcell w B A n c ys) (hn : n ≤ 1000) :
    Calls Try.prog 124 #[.pointer (some ⟨g, 0, none⟩), .agg #[.int .i64 x.typ, .int .i64 x.id, .int .i64 x.adv, .int .i64 x.due]] w fun e w' => e = .returned (.int .i64 (fit ys x)) ∧ Below w.heap.size w w' := by
  obtain ⟨V, hV⟩ : ∃ V : World, V = w.alloc (.cells #[.int .i64 x.typ, .int .i64 x.id, .int .i64 x.adv, .int .i64 x.due] 66) := ⟨_, rfl⟩
  have hbV : Below w.heap.size w V := by rw [hV]; exact (Below.refl _ _).alloc (Nat.le_refl _) _
  have HX : Hid (Box V w.heap.size 66 #[.int .i64 x.typ, .int .i64 x.id, .int .i64 x.adv, .int .i64 x.due]) := Lib.hid (by rw [hV]; exact Box.made _ _ _)
  have HG := Lib.hid (hg.below hbV)
  have HO := Lib.hid (ho.below hbV)
  have HB := Lib.hid hbV
  clear hg ho hbV
  by_cases hin : 1 ≤ x.due ∧ x.due ≤ 100000
  · have HI := Lib.hid (allIn_one_yes hin.1 hin.2)
    have HF := Lib.hid (fit_r (ys := ys) hin)
    obtain ⟨ru, hru⟩ : ∃ r, decide (ups (revs ys ++ [x.due])) = r := ⟨_, rfl⟩
    have HRU := Lib.hid hru
    clear hin hru
    have x3 := HX.out.look 3
    have xl := HX.out.lt
    go_enter Try.func124, Try.ntmps124
    go_upto_region 1 with (fail)
    rw [← hV]
    clear hV
    go_wp2_with fail
    refine Calls.name ?_
    intro U hU
    have hbU : Below V.heap.size V U := by rw [hU]; exact (Below.refl _ _).alloc (Nat.le_refl _) _
    have HL : Hid (U.cell? ⟨V.heap.size, 0, none⟩ = some (.int .i64 x.due)) := Lib.hid (by rw [hU]; exact (Box.made V 2 #[.int .i64 x.due]).look 0)
    have HX1 := Lib.hid (HX.out.below hbU)
    have HG1 := Lib.hid (HG.out.below hbU)
    have HO1 := Lib.hid (HO.out.below hbU)
    have HB1 := Lib.hid (below_step HB.out hbU)
    clear hU hbU HX HG HO HB x3 xl
    refine (allWithin_one _ _ _ x.due _ HL.out).mono ?_
    rw [HI.out]
    rintro e w2 ⟨rfl, rfl⟩
    clear HL
    go_wp2
    have x3 := HX1.out.look 3
    have xl := HX1.out.lt
    have g2 := HG1.out.look 2
    have gl := HG1.out.lt
    have hbA : Below w2.heap.size w2 (w2.alloc (.cells #[.int .i64 x.due] 2)).drew := ((Below.refl _ _).alloc (Nat.le_refl _) _).drew
    have VA := Lib.hid hbA
    have V0 : Hid (Below w2.heap.size w2 w2.drew) := (Below.refl _ _).drew
    have HSA := Lib.hid (own_items (HO1.out.below VA.out))
    have HS0 := Lib.hid (own_items (HO1.out.below V0.out))
    have HLA : Hid (Kept w2.heap.size (w2.heap.size + 1) (BoxK w2.heap.size 2 #[.int .i64 x.due]) (w2.alloc (.cells #[.int .i64 x.due] 2)).drew) := Lib.hid (Kept.box (show Box (w2.alloc (.cells #[.int .i64 x.due] 2)).drew w2.heap.size 2 #[.int .i64 x.due] from Box.made _ _ _))
    clear hbA
    go_region_law (first
      | ((show (if Region.wanted (Oper.mk (some 14) _ _ _ _ _) _ = true then _ else _)); go_simp; have PC := revsOf_any true _ _ A n c ys (w2.drew) HS0.out (Nat.le_refl _) (by omega); with_reducible refine PC.mono ?_; clear PC; rintro e u1 ⟨R, d, rfl, hr, hb⟩; have V1 := Lib.hid (below_step V0.out hb); have HR := Lib.hid hr; have HBS := Lib.hid V0.out.size; have k3 := (HX1.out.below V1.out).look 3; have kl := (HX1.out.below V1.out).lt; have HU1 : Hid (Below u1.heap.size u1 (u1.alloc (.cells #[.int .i64 x.due] 2))) := Lib.hid ((Below.refl _ _).alloc (Nat.le_refl _) _); have HRL := Lib.hid (HR.out.below HU1.out); have HE : Hid (InF 1 icell (u1.alloc (.cells #[.int .i64 x.due] 2)) (some ⟨u1.heap.size, 0, none⟩) 1 [x.due]) := Lib.hid ((Box.made u1 2 #[.int .i64 x.due]).inF [x.due] rfl); have VB := Lib.hid (below_step V1.out HU1.out); have HBZ := Lib.hid (Nat.le_trans hb.size HU1.out.size); clear hr hb)
      | ((show (if Region.wanted (Oper.mk (some 14) _ _ _ _ _) _ = true then _ else _)); go_simp; have PC := revsOf_any true _ _ A n c ys ((w2.alloc (.cells #[.int .i64 x.due] 2)).drew) HSA.out (Nat.le_refl _) (by omega); with_reducible refine PC.mono ?_; clear PC; rintro e u1 ⟨R, d, rfl, hr, hb⟩; have VB := Lib.hid (below_step VA.out hb); have HBS := Lib.hid VA.out.size; have HBZ := Lib.hid hb.size; have HRL := Lib.hid hr; have HE : Hid (InF 1 icell u1 (some ⟨w2.heap.size, 0, none⟩) 1 [x.due]) := Lib.hid ((HLA.out.below hb).bx.inF [x.due] rfl); clear hr hb)
      | ((show (if Region.wanted (Oper.mk (some 18) _ _ _ _ _) _ = true then _ else _)); refine step_appI0 icell_len icell_one Try.underlying78 wordInfo rfl (by decide) (by decide) (by rfl) (.tmp 14) (.tmp 17) (by rfl) (by rfl) HRL.out (by rfl) HE.out (by omega) HBZ.out ?_; intro R2 d2 u2 hr2 hgr; have HR2 := Lib.hid hr2; have VC := Lib.hid (VB.out.grown hgr VB.out.size (fun r hr => Nat.le_trans HBS.out (HRL.out.block r hr).1)); clear hr2 hgr)
      | ((show (if Region.wanted (Oper.mk (some 19) _ _ _ _ _) _ = true then _ else _)); go_simp; have PC := isRising_below true _ _ R2 (n + 1) d2 (revs ys ++ [x.due]) u2 (ints_of_own HR2.out) (by omega); rw [HRU.out] at PC; with_reducible refine PC.mono ?_; clear PC; rintro e u3 ⟨rfl, hb⟩; have VD := Lib.hid (below_step VC.out hb); clear hb))
    all_goals
      have HB4 := Lib.hid (below_step HB1.out VD.out)
      clear x3 xl g2 gl
      cases ru with
      | true =>
        have HQ : Hid (fit ys x = 0) := Lib.hid (by rw [HF.out, if_neg (fun h => h (of_decide_eq_true HRU.out))])
        go_wp2
        go_ret
        exact ⟨by rw [HQ.out]; rfl, HB4.out⟩
      | false =>
        have HQ : Hid (fit ys x = 1) := Lib.hid (by rw [HF.out, if_pos (of_decide_eq_false HRU.out)])
        go_wp2
        go_ret
        exact ⟨by rw [HQ.out]; rfl, HB4.out⟩
  · have HI := Lib.hid (allIn_one_no hin)
    have HF := Lib.hid (fit_3 (ys := ys) hin)
    clear hin
    have x3 := HX.out.look 3
    have xl := HX.out.lt
    go_enter Try.func124, Try.ntmps124
    go_upto_region 1 with (fail)
    rw [← hV]
    clear hV
    go_wp2_with fail
    refine Calls.name ?_
    intro U hU
    have hbU : Below V.heap.size V U := by rw [hU]; exact (Below.refl _ _).alloc (Nat.le_refl _) _
    have HL : Hid (U.cell? ⟨V.heap.size, 0, none⟩ = some (.int .i64 x.due)) := Lib.hid (by rw [hU]; exact (Box.made V 2 #[.int .i64 x.due]).look 0)
    have HB1 := Lib.hid (below_step HB.out hbU)
    clear hU hbU x3 xl
    refine (allWithin_one _ _ _ x.due _ HL.out).mono ?_
    rw [HI.out]
    rintro e w2 ⟨rfl, rfl⟩
    go_wp2
    go_ret
    exact ⟨by rw [HF.out]; rfl, HB1.out⟩

set_option maxRecDepth 100000 in
set_option maxHeartbeats 3200000 in
theorem put_any (cap : Int) (mk : Bool) (g B gk : Nat) (A : Option Addr) (n c : Nat) (ys : List Tmr) (x : Tmr) (w : World) (hg : Box w g 202 #[.int .i64 cap, .bool mk, .slice A n c]) (ho : OwnF 66 4 tcell w B A n c ys) (hk : Box w gk 34 #[.int .i64 x.typ, .int .i64 x.id, .int .i64 x.adv]) (hn : n ≤ 100) (hBg : B ≤ g) (hBw : B ≤ w.heap.size) :
    Calls Try.prog 125 #[.pointer (some ⟨g, 0, none⟩), .agg #[.int .i64 x.typ, .int .i64 x.id, .int .i64 x.adv, .int .i64 x.due], ofKeyV gk] w fun e w' => e = .returned (.tuple #[]) ∧ ∃ A' n' c', Box w' g 202 #[.int .i64 cap, .bool (putM cap mk ys x), .slice A' n' c'] ∧ OwnF 66 4 tcell w' B A' n' c' (putY cap ys x) ∧ Below B w w' := by
  obtain ⟨V, hV⟩ : ∃ V : World, V = w.alloc (.cells #[.int .i64 x.typ, .int .i64 x.id, .int .i64 x.adv, .int .i64 x.due] 66) := ⟨_, rfl⟩
  have hbV : Below w.heap.size w V := by rw [hV]; exact (Below.refl _ _).alloc (Nat.le_refl _) _
  have HX : Hid (Box V w.heap.size 66 #[.int .i64 x.typ, .int .i64 x.id, .int .i64 x.adv, .int .i64 x.due]) := Lib.hid (by rw [hV]; exact Box.made _ _ _)
  have HG := Lib.hid (hg.below hbV)
  have HO := Lib.hid (ho.below hbV)
  have HK := Lib.hid (hk.below hbV)
  have HB := Lib.hid (hbV.mono hBw)
  have HBV : Hid (B ≤ V.heap.size) := Lib.hid (Nat.le_trans hBw hbV.size)
  have HGW := Lib.hid hg.lt
  have hne : ∀ r, A.map (·.block) = some r → g ≠ r := fun r hr e => OwnF.ne_box ho hg (by decide) (by rw [hr, e])
  have HNE := Lib.hid hne
  have HAW : Hid (∀ r, A.map (·.block) = some r → r < w.heap.size) := Lib.hid (fun r hr => (ho.block r hr).2)
  have HVS : Hid (w.heap.size + 1 = V.heap.size) := Lib.hid (by rw [hV]; simp)
  clear hg ho hk hbV hne
  have g2 := HG.out.look 2
  have gl := HG.out.lt
  go_enter Try.func125, Try.ntmps125
  go_upto_region 1 with (fail)
  rw [← hV]
  clear hV
  go_wp2_with fail
  clear g2 gl
  refine (deleteOf_any B A n c ys x gk _ HO.out (by omega) HK.out).mono ?_
  rintro e w1 ⟨n', rfl, ho1, hgr⟩
  have hn' : n' ≤ 100 := by have h1 := ho1.1; have h2 := without_le ys x; have h3 := HO.out.1; omega
  have HL1 := Lib.hid ho1.1
  have HO1 := Lib.hid ho1
  have HG1 := Lib.hid (HG.out.grown hgr (fun e => HNE.out g e rfl))
  have HX1 := Lib.hid (HX.out.grown hgr (fun e => by have := HAW.out _ e; omega))
  have HB1 := Lib.hid (HB.out.grown hgr HBV.out (fun r hr => (HO.out.block r hr).1))
  have HSZ1 := Lib.hid hgr.size
  clear ho1 hgr HG HX HO HB
  have g2 := HG1.out.look 2
  have f2 := HG1.out.free 2
  have gl := HG1.out.lt
  go_upto_region 2 with (fail)
  refine Code.wp_name ?_
  intro W1 hW1
  have hgx : w1.grownBy W1 (some g) := by rw [hW1]; exact setCell_grown _ _ _
  have HG2 : Hid (Box W1 g 202 #[.int .i64 cap, .bool mk, .slice A n' c]) := Lib.hid (by rw [hW1]; exact HG1.out.puts 2 (.slice A n' c) rfl)
  have HO2 := Lib.hid (HO1.out.aside hgx (fun r hr e => HNE.out r hr (by injection e)))
  have HX2 := Lib.hid (HX1.out.grown hgx (fun e => by injection e with e; have := HGW.out; omega))
  have HSZ2 : Hid (B ≤ W1.heap.size ∧ w.heap.size + 1 ≤ W1.heap.size ∧ B ≤ w1.heap.size) := Lib.hid (by have h1 := HSZ1.out; have h2 := HVS.out; have h3 := hgx.size; omega)
  have HB2 := Lib.hid (HB1.out.grown hgx HSZ2.out.2.2 (fun r hr => by injection hr with hr; omega))
  clear hW1 hgx g2 f2 gl HG1 HO1 HX1 HB1
  have g0 := HG2.out.look 0
  have g2 := HG2.out.look 2
  have gl := HG2.out.lt
  go_quiet (fail)
  obtain ⟨Wq, hWq⟩ : ∃ W : World, W = W1.drewN nq := ⟨_, rfl⟩
  rw [← hWq]
  have HGq : Hid (Box Wq g 202 #[.int .i64 cap, .bool mk, .slice A n' c]) := Lib.hid (by rw [hWq]; exact HG2.out)
  have HOq : Hid (OwnF 66 4 tcell Wq B A n' c (without ys x)) := Lib.hid (by rw [hWq]; exact HO2.out)
  have HXq : Hid (Box Wq w.heap.size 66 #[.int .i64 x.typ, .int .i64 x.id, .int .i64 x.adv, .int .i64 x.due]) := Lib.hid (by rw [hWq]; exact HX2.out)
  have HBq : Hid (Below B w Wq) := Lib.hid (by rw [hWq]; first | exact below_drewN HB2.out _ | exact HB2.out.drew)
  have HSq : Hid (B ≤ Wq.heap.size ∧ w.heap.size + 1 ≤ Wq.heap.size) := Lib.hid (by rw [hWq]; exact ⟨HSZ2.out.1, HSZ2.out.2.1⟩)
  clear g0 g2 gl hWq HG2 HO2 HX2 HB2 HSZ2
  by_cases hfull : ((without ys x).length : Int) = cap
  · have HPM : Hid (putM cap mk ys x = true ∧ putY cap ys x = [] ++ [x]) := Lib.hid ⟨if_pos hfull, by unfold putY; rw [if_pos hfull]; rfl⟩
    have hc1 : ((n' : Int) == cap) = true := by rw [← hfull, HL1.out]; simp
    clear hfull
    have g1 := HGq.out.look 1
    have g2 := HGq.out.look 2
    have f1 := HGq.out.free 1
    have f2 := HGq.out.free 2
    have gl := HGq.out.lt
    go_upto_region 4 with (fail)
    refine Code.wp_name ?_
    intro W2 hW2
    have ho3 : Only g (g + 1) Wq W2 := by rw [hW2]; exact ((Only.refl _ _ _).set (p := ⟨g, 2, none⟩) (Nat.le_refl _) (Nat.lt_succ_self _) _).set (p := ⟨g, 1, none⟩) (Nat.le_refl _) (Nat.lt_succ_self _) _
    have HG4 : Hid (Box W2 g 202 #[.int .i64 cap, .bool true, .slice none 0 0]) := Lib.hid (by rw [hW2]; exact ((show Box Wq g 202 #[.int .i64 cap, .bool mk, .slice A n' c] from HGq.out).puts 2 (.slice none 0 0) (cs' := #[.int .i64 cap, .bool mk, .slice none 0 0]) rfl).puts 1 (.bool true) (cs' := #[.int .i64 cap, .bool true, .slice none 0 0]) rfl)
    have HO4 : Hid (OwnF 66 4 tcell W2 B none 0 0 []) := Lib.hid (OwnF.nil_ _ _ _ _ _)
    have HX4 := Lib.hid ((show Box Wq w.heap.size 66 #[.int .i64 x.typ, .int .i64 x.id, .int .i64 x.adv, .int .i64 x.due] from HXq.out).only ho3 (.inr HGW.out) )
    have HB4 : Hid (Below B w W2) := Lib.hid (Below.only (HBq.out) ho3 hBg HSq.out.1)
    have HS4 : Hid (B ≤ W2.heap.size ∧ w.heap.size < W2.heap.size) := Lib.hid (by have h1 := HSq.out; have h2 : Wq.heap.size ≤ W2.heap.size := ho3.size; omega)
    clear hW2 ho3
    clear g1 g2 f1 f2 gl HGq HOq HXq HBq
    have x0 := HX4.out.look 0
    have x1 := HX4.out.look 1
    have x2 := HX4.out.look 2
    have x3 := HX4.out.look 3
    have xl := HX4.out.lt
    have g2 := HG4.out.look 2
    have gl := HG4.out.lt
    have hbE : Below W2.heap.size W2 (W2.alloc (.cells #[.int .i64 x.typ, .int .i64 x.id, .int .i64 x.adv, .int .i64 x.due] 66)).drew := ((Below.refl _ _).alloc (Nat.le_refl _) _).drew
    have HOL : Hid (OwnF 66 4 tcell (W2.alloc (.cells #[.int .i64 x.typ, .int .i64 x.id, .int .i64 x.adv, .int .i64 x.due] 66)).drew B none 0 0 []) := Lib.hid (HO4.out.below hbE)
    have HGL : Hid (Box (W2.alloc (.cells #[.int .i64 x.typ, .int .i64 x.id, .int .i64 x.adv, .int .i64 x.due] 66)).drew g 202 #[.int .i64 cap, .bool true, .slice none 0 0]) := Lib.hid (HG4.out.below hbE)
    have HE : Hid (InF 4 tcell (W2.alloc (.cells #[.int .i64 x.typ, .int .i64 x.id, .int .i64 x.adv, .int .i64 x.due] 66)).drew (some ⟨W2.heap.size, 0, none⟩) 1 [x]) := Lib.hid ((show Box (W2.alloc (.cells #[.int .i64 x.typ, .int .i64 x.id, .int .i64 x.adv, .int .i64 x.due] 66)).drew W2.heap.size 66 #[.int .i64 x.typ, .int .i64 x.id, .int .i64 x.adv, .int .i64 x.due] from Box.made _ _ _).inF [x] rfl)
    have HBL : Hid (B ≤ (W2.alloc (.cells #[.int .i64 x.typ, .int .i64 x.id, .int .i64 x.adv, .int .i64 x.due] 66)).drew.heap.size) := Lib.hid (Nat.le_trans HS4.out.1 hbE.size)
    have HBW := Lib.hid ((HB4.out).trans (hbE.mono HS4.out.1))
    have HNL : Hid ((none : Option Addr).map (·.block) ≠ some g) := Lib.hid (by simp)
    clear hbE
    go_region_law (first | ((show (if Region.wanted (Oper.mk (some 38) _ _ _ _ _) _ = true then _ else _)); refine step_appI0 tcell_len tcell_one Try.underlying57 itemInfo rfl (by decide) (by decide) (by rfl) (.tmp 35) (.tmp 37) (by rfl) (B := B) (by rfl) HOL.out (by rfl) HE.out (by omega) HBL.out ?_; intro A3 c3 u3 ho3 hgr; have HO3 := Lib.hid ho3; have HG3 := Lib.hid (HGL.out.grown hgr HNL.out); have HB3 := Lib.hid (HBW.out.grown hgr HBL.out (fun r hr => (HOL.out.block r hr).1)); have k2 := HG3.out.look 2; have kf := HG3.out.free 2; have kl := HG3.out.lt; clear ho3 hgr))
    all_goals
      have HOF : Hid (OwnF 66 4 tcell u3 B A3 (0 + 1) c3 (putY cap ys x)) := Lib.hid (by rw [HPM.out.2]; exact HO3.out)
      obtain ⟨X, hX⟩ : ∃ X : World, X = u3.setCell ⟨g, 2, none⟩ (.slice A3 (0 + 1) c3) := ⟨_, rfl⟩
      have hgx : u3.grownBy X (some g) := by rw [hX]; exact setCell_grown _ _ _
      have HGF : Hid (Box X g 202 #[.int .i64 cap, .bool (putM cap mk ys x), .slice A3 (0 + 1) c3]) := Lib.hid (by rw [hX, HPM.out.1]; exact HG3.out.puts 2 (.slice A3 (0 + 1) c3) rfl)
      have HOX := Lib.hid (HOF.out.aside hgx (fun r hr e => OwnF.ne_box HOF.out HG3.out (by decide) (by rw [hr]; exact e.symm)))
      have HBX := Lib.hid (HB3.out.grown hgx (Nat.le_trans hBw HB3.out.size) (fun r hr => by injection hr with hr; omega))
      clear x0 x1 x2 x3 xl g2 gl k2 kf kl hgx HO3
      go_wp2
      rw [← hX]
      exact ⟨rfl, .tuple #[], by simp [results, Try.results125, go_sem], rfl, A3, 0 + 1, c3, HGF.out, HOX.out, HBX.out⟩
  · have HPM : Hid (putM cap mk ys x = mk ∧ putY cap ys x = (without ys x) ++ [x]) := Lib.hid ⟨if_neg hfull, by unfold putY; rw [if_neg hfull]⟩
    have hc1 : ((n' : Int) == cap) = false := by rw [beq_eq_false_iff_ne]; intro h; exact hfull (by rw [HL1.out]; exact h)
    clear hfull
    have g1 := HGq.out.look 1
    have g2 := HGq.out.look 2
    have f1 := HGq.out.free 1
    have f2 := HGq.out.free 2
    have gl := HGq.out.lt
    go_upto_region 4 with (fail)
    refine Code.wp_name ?_
    intro W2 hW2
    have HG4 : Hid (Box W2 g 202 #[.int .i64 cap, .bool mk, .slice A n' c]) := Lib.hid (by rw [hW2]; exact HGq.out)
    have HO4 : Hid (OwnF 66 4 tcell W2 B A n' c (without ys x)) := Lib.hid (by rw [hW2]; exact HOq.out)
    have HX4 : Hid (Box W2 w.heap.size 66 #[.int .i64 x.typ, .int .i64 x.id, .int .i64 x.adv, .int .i64 x.due]) := Lib.hid (by rw [hW2]; exact HXq.out)
    have HB4 : Hid (Below B w W2) := Lib.hid (by rw [hW2]; exact HBq.out)
    have HS4 : Hid (B ≤ W2.heap.size ∧ w.heap.size < W2.heap.size) := Lib.hid (by rw [hW2]; have h1 := HSq.out; exact ⟨h1.1, h1.2⟩)
    clear hW2
    clear g1 g2 f1 f2 gl HGq HOq HXq HBq
    have x0 := HX4.out.look 0
    have x1 := HX4.out.look 1
    have x2 := HX4.out.look 2
    have x3 := HX4.out.look 3
    have xl := HX4.out.lt
    have g2 := HG4.out.look 2
    have gl := HG4.out.lt
    have hbE : Below W2.heap.size W2 (W2.alloc (.cells #[.int .i64 x.typ, .int .i64 x.id, .int .i64 x.adv, .int .i64 x.due] 66)).drew := ((Below.refl _ _).alloc (Nat.le_refl _) _).drew
    have HOL : Hid (OwnF 66 4 tcell (W2.alloc (.cells #[.int .i64 x.typ, .int .i64 x.id, .int .i64 x.adv, .int .i64 x.due] 66)).drew B A n' c (without ys x)) := Lib.hid (HO4.out.below hbE)
    have HGL : Hid (Box (W2.alloc (.cells #[.int .i64 x.typ, .int .i64 x.id, .int .i64 x.adv, .int .i64 x.due] 66)).drew g 202 #[.int .i64 cap, .bool mk, .slice A n' c]) := Lib.hid (HG4.out.below hbE)
    have HE : Hid (InF 4 tcell (W2.alloc (.cells #[.int .i64 x.typ, .int .i64 x.id, .int .i64 x.adv, .int .i64 x.due] 66)).drew (some ⟨W2.heap.size, 0, none⟩) 1 [x]) := Lib.hid ((show Box (W2.alloc (.cells #[.int .i64 x.typ, .int .i64 x.id, .int .i64 x.adv, .int .i64 x.due] 66)).drew W2.heap.size 66 #[.int .i64 x.typ, .int .i64 x.id, .int .i64 x.adv, .int .i64 x.due] from Box.made _ _ _).inF [x] rfl)
    have HBL : Hid (B ≤ (W2.alloc (.cells #[.int .i64 x.typ, .int .i64 x.id, .int .i64 x.adv, .int .i64 x.due] 66)).drew.heap.size) := Lib.hid (Nat.le_trans HS4.out.1 hbE.size)
    have HBW := Lib.hid ((HB4.out).trans (hbE.mono HS4.out.1))
    have HNL : Hid ((A : Option Addr).map (·.block) ≠ some g) := Lib.hid (fun e => HNE.out g e rfl)
    clear hbE
    go_region_law (first | ((show (if Region.wanted (Oper.mk (some 38) _ _ _ _ _) _ = true then _ else _)); refine step_appI0 tcell_len tcell_one Try.underlying57 itemInfo rfl (by decide) (by decide) (by rfl) (.tmp 35) (.tmp 37) (by rfl) (B := B) (by rfl) HOL.out (by rfl) HE.out (by omega) HBL.out ?_; intro A3 c3 u3 ho3 hgr; have HO3 := Lib.hid ho3; have HG3 := Lib.hid (HGL.out.grown hgr HNL.out); have HB3 := Lib.hid (HBW.out.grown hgr HBL.out (fun r hr => (HOL.out.block r hr).1)); have k2 := HG3.out.look 2; have kf := HG3.out.free 2; have kl := HG3.out.lt; clear ho3 hgr))
    all_goals
      have HOF : Hid (OwnF 66 4 tcell u3 B A3 (n' + 1) c3 (putY cap ys x)) := Lib.hid (by rw [HPM.out.2]; exact HO3.out)
      obtain ⟨X, hX⟩ : ∃ X : World, X = u3.setCell ⟨g, 2, none⟩ (.slice A3 (n' + 1) c3) := ⟨_, rfl⟩
      have hgx : u3.grownBy X (some g) := by rw [hX]; exact setCell_grown _ _ _
      have HGF : Hid (Box X g 202 #[.int .i64 cap, .bool (putM cap mk ys x), .slice A3 (n' + 1) c3]) := Lib.hid (by rw [hX, HPM.out.1]; exact HG3.out.puts 2 (.slice A3 (n' + 1) c3) rfl)
      have HOX := Lib.hid (HOF.out.aside hgx (fun r hr e => OwnF.ne_box HOF.out HG3.out (by decide) (by rw [hr]; exact e.symm)))
      have HBX := Lib.hid (HB3.out.grown hgx (Nat.le_trans hBw HB3.out.size) (fun r hr => by injection hr with hr; omega))
      clear x0 x1 x2 x3 xl g2 gl k2 kf kl hgx HO3
      go_wp2
      rw [← hX]
      exact ⟨rfl, .tuple #[], by simp [results, Try.results125, go_sem], rfl, A3, n' + 1, c3, HGF.out, HOX.out, HBX.out⟩


end Go.Proofs.Ytiffhjofabaflaa

namespace Go.Proofs.Ytiffhjofabaflaa
open Go.RowKit
set_option linter.unusedVariables false

set_option maxRecDepth 100000 in
set_option maxHeartbeats 6400000 in
theorem pushAll_any (cap : Int) (mk : Bool) (q : Bool) (lo hi : Nat) (A : Option Addr) (n c : Nat) (ys : List Tmr) (q2 : Bool) (lo2 hi2 : Nat) (A2 : Option Addr) (n2 c2 : Nat) (xs : List Tmr) (w : World) (ha : Rep.timer.Sl q lo hi w A n ys) (hh : hi ≤ w.heap.size) (hn : n ≤ 1048576) (hx : Rep.timer.Sl q2 lo2 hi2 w A2 n2 xs) (hh2 : hi2 ≤ w.heap.size) (hn2 : n2 ≤ 1048576) (hc : n ≤ c) :
    Calls Try.prog 41 #[.agg #[.int .i64 cap, .bool mk, .slice A n c], .slice A2 n2 c2] w fun e w' => ∃ O j k E m d, e = .returned (.agg #[.int .i64 (paC cap mk ys xs), .int .i64 (paX cap mk ys xs), .bool (paP cap mk ys xs), .slice O j k, .bool (paT ys), .slice E m d]) ∧ Kept w.heap.size w'.heap.size (QK w.heap.size w'.heap.size O j (paU cap mk ys xs) E m (paZ ys)) w' ∧ Below w.heap.size w w' := by
  have hl := ha.1
  have hl2 := hx.1
  by_cases h0 : ¬ qf cap ys = 0
  · have HB := Lib.hid (Below.refl w.heap.size w)
    have HA := Rep.Sl.kept ha hh
    have Zh := Lib.hid hh
    have HXS := Rep.Sl.kept hx hh2
    have Zh2 := Lib.hid hh2
    obtain ⟨r, hr⟩ : ∃ z, qf cap ys = z := ⟨_, rfl⟩
    have HR := Lib.hid hr
    have h0r : ¬ r = 0 := by rw [← hr]; exact h0
    have hr0 : (r != 0) = true := by simpa using h0r
    have HV : Hid (paC cap mk ys xs = r ∧ paX cap mk ys xs = 0 ∧ paP cap mk ys xs = false ∧ paU cap mk ys xs = [] ∧ paT ys = false ∧ paZ ys = []) := Lib.hid (by refine ⟨?_, ?_, ?_, ?_, ?_, ?_⟩ <;> simp [paC, paX, paP, paU, paT, paZ, hr, h0r])
    clear h0 hr h0r
    clear ha hl hh hx hl2 hh2
    go_enter Try.func41, Try.ntmps41
    go_wp2_with fail
    refine Calls.name ?_
    intro U1 hU1
    have hb : Below w.heap.size w U1 := by rw [hU1]; exact (((Below.refl _ _).alloc (Nat.le_refl _) _).alloc (by simp <;> omega) _)
    have zz : Hid (w.heap.size + 2 = U1.heap.size) := Lib.hid (by rw [hU1]; simp)
    have HX1 : Kept w.heap.size (w.heap.size + 1) (BoxK w.heap.size 59 #[.int .i64 cap, .bool mk, .slice A n c]) U1 := by rw [hU1]; exact Kept.box ((Box.made_at _ _ _ rfl).over _)
    have HX2 : Kept (w.heap.size + 1) (w.heap.size + 1 + 1) (BoxK (w.heap.size + 1) 63 #[.int .i64 0, .int .i64 0, .bool false, .slice none 0 0, .bool false, .slice none 0 0]) U1 := by rw [hU1]; exact Kept.box (Box.made_at _ _ _ (by simp <;> omega))
    replace HA := HA.below hb
    replace HXS := HXS.below hb
    replace HB := Lib.hid (below_step HB.out hb)
    clear hb
    have Z1 := zz; clear zz
    clear hU1
    refine (queueFault_any cap mk q lo hi A n c ys _ HA.sl HA.le hn hc).mono ?_
    rw [HR.out]
    rintro e w2 ⟨rfl, hb⟩
    have Z2 := Lib.hid hb.size
    replace HA := HA.below hb
    replace HXS := HXS.below hb
    replace HX1 := HX1.below hb
    replace HX2 := HX2.below hb
    replace HB := Lib.hid (below_step HB.out hb)
    clear hb
    have c2_0 := HX2.look 0
    have c2_1 := HX2.look 1
    have c2_2 := HX2.look 2
    have c2_3 := HX2.look 3
    have c2_4 := HX2.look 4
    have c2_5 := HX2.look 5
    have f2_0 := HX2.free 0
    have f2_1 := HX2.free 1
    have f2_2 := HX2.free 2
    have f2_3 := HX2.free 3
    have f2_4 := HX2.free 4
    have f2_5 := HX2.free 5
    have l2_0 := HX1.bx.lt
    have l2_1 := HX2.bx.lt
    go_wp2
    clear c2_0 c2_1 c2_2 c2_3 c2_4 c2_5 f2_0 f2_1 f2_2 f2_3 f2_4 f2_5 l2_0 l2_1
    obtain ⟨U3, hU3⟩ : ∃ W : World, W = ((((((w2.setCell ⟨w.heap.size + 1, 0, none⟩ (.int .i64 r)).setCell ⟨w.heap.size + 1, 1, none⟩ (.int .i64 0)).setCell ⟨w.heap.size + 1, 2, none⟩ (.bool false)).setCell ⟨w.heap.size + 1, 3, none⟩ (.slice none 0 0)).setCell ⟨w.heap.size + 1, 4, none⟩ (.bool false)).setCell ⟨w.heap.size + 1, 5, none⟩ (.slice none 0 0)) := ⟨_, rfl⟩
    have ho : Only (w.heap.size + 1) (w.heap.size + 1 + 1) w2 U3 := by rw [hU3]; exact (((((((Only.refl _ _ _).set (p := ⟨w.heap.size + 1, 0, none⟩) (Nat.le_refl _) (Nat.lt_succ_self _) _).set (p := ⟨w.heap.size + 1, 1, none⟩) (Nat.le_refl _) (Nat.lt_succ_self _) _).set (p := ⟨w.heap.size + 1, 2, none⟩) (Nat.le_refl _) (Nat.lt_succ_self _) _).set (p := ⟨w.heap.size + 1, 3, none⟩) (Nat.le_refl _) (Nat.lt_succ_self _) _).set (p := ⟨w.heap.size + 1, 4, none⟩) (Nat.le_refl _) (Nat.lt_succ_self _) _).set (p := ⟨w.heap.size + 1, 5, none⟩) (Nat.le_refl _) (Nat.lt_succ_self _) _)
    replace HX2 : Kept (w.heap.size + 1) (w.heap.size + 1 + 1) (BoxK (w.heap.size + 1) 63 #[.int .i64 r, .int .i64 0, .bool false, .slice none 0 0, .bool false, .slice none 0 0]) U3 := by rw [hU3]; exact Kept.box ((((((HX2.bx.puts 0 (.int .i64 r) (cs' := #[.int .i64 r, .int .i64 0, .bool false, .slice none 0 0, .bool false, .slice none 0 0]) rfl).puts 1 (.int .i64 0) (cs' := #[.int .i64 r, .int .i64 0, .bool false, .slice none 0 0, .bool false, .slice none 0 0]) rfl).puts 2 (.bool false) (cs' := #[.int .i64 r, .int .i64 0, .bool false, .slice none 0 0, .bool false, .slice none 0 0]) rfl).puts 3 (.slice none 0 0) (cs' := #[.int .i64 r, .int .i64 0, .bool false, .slice none 0 0, .bool false, .slice none 0 0]) rfl).puts 4 (.bool false) (cs' := #[.int .i64 r, .int .i64 0, .bool false, .slice none 0 0, .bool false, .slice none 0 0]) rfl).puts 5 (.slice none 0 0) (cs' := #[.int .i64 r, .int .i64 0, .bool false, .slice none 0 0, .bool false, .slice none 0 0]) rfl)
    replace HA := HA.only ho (by have := Zh.out; have := Zh2.out; have := Z1.out; have := Z2.out; omega)
    replace HXS := HXS.only ho (by have := Zh.out; have := Zh2.out; have := Z1.out; have := Z2.out; omega)
    replace HX1 := HX1.only ho (by have := Zh.out; have := Zh2.out; have := Z1.out; have := Z2.out; omega)
    replace HB := Lib.hid (Below.only HB.out ho (by have := Zh.out; have := Zh2.out; have := Z1.out; have := Z2.out; omega) HB.out.size)
    have Z3 : Hid (U3.heap.size = w2.heap.size) := Lib.hid (by rw [hU3]; simp [World.setCell]); clear ho
    have q_0 := HX2.look 0
    have q_1 := HX2.look 1
    have q_2 := HX2.look 2
    have q_3 := HX2.look 3
    have q_4 := HX2.look 4
    have q_5 := HX2.look 5
    subst hU3
    exact bodyPost_ret (v := .agg #[.int .i64 r, .int .i64 0, .bool false, .slice none 0 0, .bool false, .slice none 0 0]) (by simp [results, Try.results41, go_sem, q_0, q_1, q_2, q_3, q_4, q_5]) rfl ⟨none, 0, 0, none, 0, 0, by rw [HV.out.1, HV.out.2.1, HV.out.2.2.1, HV.out.2.2.2.2.1], by rw [HV.out.2.2.2.1, HV.out.2.2.2.2.2]; exact QK.kept (QK.nil _ _ _ _ _) (Nat.le_refl _), HB.out⟩
  have h0 : qf cap ys = 0 := Classical.byContradiction h0
  by_cases h1 : 100 < xs.length
  · have HB := Lib.hid (Below.refl w.heap.size w)
    have HA := Rep.Sl.kept ha hh
    have Zh := Lib.hid hh
    have HXS := Rep.Sl.kept hx hh2
    have Zh2 := Lib.hid hh2
    have HR := Lib.hid h0
    have hm1 : 100 < n2 := by omega
    have hm2 : (100 : Int) < n2 := by omega
    have HV : Hid (paC cap mk ys xs = 2 ∧ paX cap mk ys xs = 0 ∧ paP cap mk ys xs = false ∧ paU cap mk ys xs = [] ∧ paT ys = false ∧ paZ ys = []) := Lib.hid (by refine ⟨?_, ?_, ?_, ?_, ?_, ?_⟩ <;> simp [paC, paX, paP, paU, paT, paZ, h0, h1])
    clear h0 h1 hm1
    clear ha hl hh hx hl2 hh2
    go_enter Try.func41, Try.ntmps41
    go_wp2_with fail
    refine Calls.name ?_
    intro U1 hU1
    have hb : Below w.heap.size w U1 := by rw [hU1]; exact (((Below.refl _ _).alloc (Nat.le_refl _) _).alloc (by simp <;> omega) _)
    have zz : Hid (w.heap.size + 2 = U1.heap.size) := Lib.hid (by rw [hU1]; simp)
    have HX1 : Kept w.heap.size (w.heap.size + 1) (BoxK w.heap.size 59 #[.int .i64 cap, .bool mk, .slice A n c]) U1 := by rw [hU1]; exact Kept.box ((Box.made_at _ _ _ rfl).over _)
    have HX2 : Kept (w.heap.size + 1) (w.heap.size + 1 + 1) (BoxK (w.heap.size + 1) 63 #[.int .i64 0, .int .i64 0, .bool false, .slice none 0 0, .bool false, .slice none 0 0]) U1 := by rw [hU1]; exact Kept.box (Box.made_at _ _ _ (by simp <;> omega))
    replace HA := HA.below hb
    replace HXS := HXS.below hb
    replace HB := Lib.hid (below_step HB.out hb)
    clear hb
    have Z1 := zz; clear zz
    clear hU1
    refine (queueFault_any cap mk q lo hi A n c ys _ HA.sl HA.le hn hc).mono ?_
    rw [HR.out]
    rintro e w2 ⟨rfl, hb⟩
    have Z2 := Lib.hid hb.size
    replace HA := HA.below hb
    replace HXS := HXS.below hb
    replace HX1 := HX1.below hb
    replace HX2 := HX2.below hb
    replace HB := Lib.hid (below_step HB.out hb)
    clear hb
    have c2_0 := HX2.look 0
    have c2_1 := HX2.look 1
    have c2_2 := HX2.look 2
    have c2_3 := HX2.look 3
    have c2_4 := HX2.look 4
    have c2_5 := HX2.look 5
    have f2_0 := HX2.free 0
    have f2_1 := HX2.free 1
    have f2_2 := HX2.free 2
    have f2_3 := HX2.free 3
    have f2_4 := HX2.free 4
    have f2_5 := HX2.free 5
    have l2_0 := HX1.bx.lt
    have l2_1 := HX2.bx.lt
    go_wp2
    clear c2_0 c2_1 c2_2 c2_3 c2_4 c2_5 f2_0 f2_1 f2_2 f2_3 f2_4 f2_5 l2_0 l2_1
    obtain ⟨U3, hU3⟩ : ∃ W : World, W = ((((((w2.setCell ⟨w.heap.size + 1, 0, none⟩ (.int .i64 2)).setCell ⟨w.heap.size + 1, 1, none⟩ (.int .i64 0)).setCell ⟨w.heap.size + 1, 2, none⟩ (.bool false)).setCell ⟨w.heap.size + 1, 3, none⟩ (.slice none 0 0)).setCell ⟨w.heap.size + 1, 4, none⟩ (.bool false)).setCell ⟨w.heap.size + 1, 5, none⟩ (.slice none 0 0)) := ⟨_, rfl⟩
    have ho : Only (w.heap.size + 1) (w.heap.size + 1 + 1) w2 U3 := by rw [hU3]; exact (((((((Only.refl _ _ _).set (p := ⟨w.heap.size + 1, 0, none⟩) (Nat.le_refl _) (Nat.lt_succ_self _) _).set (p := ⟨w.heap.size + 1, 1, none⟩) (Nat.le_refl _) (Nat.lt_succ_self _) _).set (p := ⟨w.heap.size + 1, 2, none⟩) (Nat.le_refl _) (Nat.lt_succ_self _) _).set (p := ⟨w.heap.size + 1, 3, none⟩) (Nat.le_refl _) (Nat.lt_succ_self _) _).set (p := ⟨w.heap.size + 1, 4, none⟩) (Nat.le_refl _) (Nat.lt_succ_self _) _).set (p := ⟨w.heap.size + 1, 5, none⟩) (Nat.le_refl _) (Nat.lt_succ_self _) _)
    replace HX2 : Kept (w.heap.size + 1) (w.heap.size + 1 + 1) (BoxK (w.heap.size + 1) 63 #[.int .i64 2, .int .i64 0, .bool false, .slice none 0 0, .bool false, .slice none 0 0]) U3 := by rw [hU3]; exact Kept.box ((((((HX2.bx.puts 0 (.int .i64 2) (cs' := #[.int .i64 2, .int .i64 0, .bool false, .slice none 0 0, .bool false, .slice none 0 0]) rfl).puts 1 (.int .i64 0) (cs' := #[.int .i64 2, .int .i64 0, .bool false, .slice none 0 0, .bool false, .slice none 0 0]) rfl).puts 2 (.bool false) (cs' := #[.int .i64 2, .int .i64 0, .bool false, .slice none 0 0, .bool false, .slice none 0 0]) rfl).puts 3 (.slice none 0 0) (cs' := #[.int .i64 2, .int .i64 0, .bool false, .slice none 0 0, .bool false, .slice none 0 0]) rfl).puts 4 (.bool false) (cs' := #[.int .i64 2, .int .i64 0, .bool false, .slice none 0 0, .bool false, .slice none 0 0]) rfl).puts 5 (.slice none 0 0) (cs' := #[.int .i64 2, .int .i64 0, .bool false, .slice none 0 0, .bool false, .slice none 0 0]) rfl)
    replace HA := HA.only ho (by have := Zh.out; have := Zh2.out; have := Z1.out; have := Z2.out; omega)
    replace HXS := HXS.only ho (by have := Zh.out; have := Zh2.out; have := Z1.out; have := Z2.out; omega)
    replace HX1 := HX1.only ho (by have := Zh.out; have := Zh2.out; have := Z1.out; have := Z2.out; omega)
    replace HB := Lib.hid (Below.only HB.out ho (by have := Zh.out; have := Zh2.out; have := Z1.out; have := Z2.out; omega) HB.out.size)
    have Z3 : Hid (U3.heap.size = w2.heap.size) := Lib.hid (by rw [hU3]; simp [World.setCell]); clear ho
    have q_0 := HX2.look 0
    have q_1 := HX2.look 1
    have q_2 := HX2.look 2
    have q_3 := HX2.look 3
    have q_4 := HX2.look 4
    have q_5 := HX2.look 5
    subst hU3
    exact bodyPost_ret (v := .agg #[.int .i64 2, .int .i64 0, .bool false, .slice none 0 0, .bool false, .slice none 0 0]) (by simp [results, Try.results41, go_sem, q_0, q_1, q_2, q_3, q_4, q_5]) rfl ⟨none, 0, 0, none, 0, 0, by rw [HV.out.1, HV.out.2.1, HV.out.2.2.1, HV.out.2.2.2.2.1], by rw [HV.out.2.2.2.1, HV.out.2.2.2.2.2]; exact QK.kept (QK.nil _ _ _ _ _) (Nat.le_refl _), HB.out⟩
  have HB := Lib.hid (Below.refl w.heap.size w)
  have HA := Rep.Sl.kept ha hh
  have Zh := Lib.hid hh
  have HXS := Rep.Sl.kept hx hh2
  have Zh2 := Lib.hid hh2
  have HR := Lib.hid h0
  have hq8 := qf_ok h0
  have hn8 : n ≤ 1000 := by have := hq8.2.2.1; omega
  have HPI := Lib.hid (PInv.of_qf h0)
  have hn100 : n2 ≤ 100 := by omega
  have hm2 : ¬ (100 : Int) < n2 := by omega
  have HLX := Lib.hid hl2
  obtain ⟨pc, hpc⟩ : ∃ z, (pushL cap xs mk ys).1 = z := ⟨_, rfl⟩
  obtain ⟨pm, hpm⟩ : ∃ z, (pushL cap xs mk ys).2.1 = z := ⟨_, rfl⟩
  obtain ⟨pu, hpu⟩ : ∃ z, (pushL cap xs mk ys).2.2 = z := ⟨_, rfl⟩
  have HV : Hid (paC cap mk ys xs = pc ∧ paX cap mk ys xs = (if pc = 0 then cap else 0) ∧ paP cap mk ys xs = pm ∧ paU cap mk ys xs = pu ∧ paT ys = false ∧ paZ ys = []) := Lib.hid (by refine ⟨?_, ?_, ?_, ?_, ?_, ?_⟩ <;> simp [paC, paX, paP, paU, paT, paZ, h0, h1, hpc, hpm, hpu])
  have HPL : Hid (pushL cap xs mk ys = (pc, pm, pu)) := Lib.hid (by rw [← hpc, ← hpm, ← hpu])
  clear h0 h1 hq8 hpc hpm hpu
  clear ha hl hh hx hl2 hh2
  go_enter Try.func41, Try.ntmps41
  go_wp2_with fail
  refine Calls.name ?_
  intro U1 hU1
  have hb : Below w.heap.size w U1 := by rw [hU1]; exact (((Below.refl _ _).alloc (Nat.le_refl _) _).alloc (by simp <;> omega) _)
  have zz : Hid (w.heap.size + 2 = U1.heap.size) := Lib.hid (by rw [hU1]; simp)
  have HX1 : Kept w.heap.size (w.heap.size + 1) (BoxK w.heap.size 59 #[.int .i64 cap, .bool mk, .slice A n c]) U1 := by rw [hU1]; exact Kept.box ((Box.made_at _ _ _ rfl).over _)
  have HX2 : Kept (w.heap.size + 1) (w.heap.size + 1 + 1) (BoxK (w.heap.size + 1) 63 #[.int .i64 0, .int .i64 0, .bool false, .slice none 0 0, .bool false, .slice none 0 0]) U1 := by rw [hU1]; exact Kept.box (Box.made_at _ _ _ (by simp <;> omega))
  replace HA := HA.below hb
  replace HXS := HXS.below hb
  replace HB := Lib.hid (below_step HB.out hb)
  clear hb
  have Z1 := zz; clear zz
  clear hU1
  refine (queueFault_any cap mk q lo hi A n c ys _ HA.sl HA.le hn hc).mono ?_
  rw [HR.out]
  rintro e w2 ⟨rfl, hb⟩
  have Z2 := Lib.hid hb.size
  replace HA := HA.below hb
  replace HXS := HXS.below hb
  replace HX1 := HX1.below hb
  replace HX2 := HX2.below hb
  replace HB := Lib.hid (below_step HB.out hb)
  clear hb
  have c2_0 := HX1.look 0
  have c2_1 := HX1.look 1
  have c2_2 := HX1.look 2
  have l2_0 := HX1.bx.lt
  have l2_1 := HX2.bx.lt
  go_wp2_with fail
  clear c2_0 c2_1 c2_2 l2_0 l2_1
  refine (backlogOf_any cap mk q lo hi A n c ys _ HA.sl HA.le hn8).mono ?_
  rintro e w3 ⟨g, E0, d0, rfl, hg, ho, hle, hb⟩
  have Z3 := Lib.hid hb.size
  replace HA := HA.below hb
  replace HXS := HXS.below hb
  replace HX1 := HX1.below hb
  replace HX2 := HX2.below hb
  replace HB := Lib.hid (below_step HB.out hb)
  clear hb
  have HG := Lib.hid hg.bx; have HO := Lib.hid ho.ownF; have Zg := Lib.hid hle; clear hg ho hle
  have Zg2 := Lib.hid HG.out.lt
  have l3_0 := HX1.bx.lt
  have l3_1 := HX2.bx.lt
  go_wp2
  clear l3_0 l3_1
  go_loopw [24] (fun i wr => ∃ (k : Nat) (E : Option Addr) (m d : Nat) (mk' : Bool) (ys' : List Tmr), k ≤ n2 ∧ i = .int .i64 k ∧ Hid (Box wr g 202 #[.int .i64 cap, .bool mk', .slice E m d]) ∧ Hid (OwnF 66 4 tcell wr (w2.heap.size) E m d ys') ∧ Hid (PInv cap ys') ∧ Hid (pushL cap xs mk ys = pushL cap (xs.drop k) mk' ys') ∧ Hid (Below (w2.heap.size) w3 wr)) (fun i _ => n2 - (intOf i).toNat)
  case atStart => exact ⟨0, E0, n, d0, mk, ys, Nat.zero_le _, rfl, HG, HO, HPI, Lib.hid rfl, Lib.hid (Below.refl _ _)⟩
  case round =>
    obtain ⟨k, E, m, d, mk', ys', hk, rfl, HG, HO, HPI, HPJ, HVB⟩ := hrel
    have ho := Below.only_from HVB.out
    have Z4 := Lib.hid ho.size
    replace HA := HA.only ho (by have := Zh.out; have := Zh2.out; have := Z1.out; have := Z2.out; have := Z3.out; have := Zg.out; have := Zg2.out; have := Z4.out; omega)
    replace HXS := HXS.only ho (by have := Zh.out; have := Zh2.out; have := Z1.out; have := Z2.out; have := Z3.out; have := Zg.out; have := Zg2.out; have := Z4.out; omega)
    replace HX1 := HX1.only ho (by have := Zh.out; have := Zh2.out; have := Z1.out; have := Z2.out; have := Z3.out; have := Zg.out; have := Zg2.out; have := Z4.out; omega)
    replace HX2 := HX2.only ho (by have := Zh.out; have := Zh2.out; have := Z1.out; have := Z2.out; have := Z3.out; have := Zg.out; have := Zg2.out; have := Z4.out; omega)
    replace HB := Lib.hid (Below.only HB.out ho (by have := Zh.out; have := Zh2.out; have := Z1.out; have := Z2.out; have := Z3.out; have := Zg.out; have := Zg2.out; have := Z4.out; omega) HB.out.size)
    clear ho
    have hm : m ≤ 100 := by have h1 := HO.out.1; have h2 := HPI.out.le; omega
    by_cases hlt : k < n2
    · obtain ⟨b, o, x, rfl, hya, x0, x1, x2, x3⟩ := Rep.timer_at HXS.sl hlt
      have hlt' : (k : Int) < n2 := by omega
      have HPK := Lib.hid (pushL_drop (cap := cap) hya mk' ys')
      clear hya
      obtain ⟨f, hf⟩ : ∃ z, fit ys' x = z := ⟨_, rfl⟩
      have HF := Lib.hid hf
      clear hf
      have l4_0 := HX1.bx.lt
      have l4_1 := HX2.bx.lt
      go_wp2_with fail
      clear l4_0 l4_1
      refine Calls.name ?_
      intro U4 hU4
      have hb : Below wr.heap.size wr U4 := by rw [hU4]; exact ((Below.refl _ _).alloc (Nat.le_refl _) _)
      have zz : Hid (wr.heap.size + 1 = U4.heap.size) := Lib.hid (by rw [hU4]; simp)
      have HX3 : Kept wr.heap.size (wr.heap.size + 1) (BoxK wr.heap.size 66 #[.int .i64 x.typ, .int .i64 x.id, .int .i64 x.adv, .int .i64 x.due]) U4 := by rw [hU4]; exact Kept.box (Box.made_at _ _ _ rfl)
      have HBU := Lib.hid hb
      replace HA := HA.below hb
      replace HXS := HXS.below hb
      replace HX1 := HX1.below hb
      replace HX2 := HX2.below hb
      replace HB := Lib.hid (below_step HB.out hb)
      clear hb
      have Z5 := zz; clear zz
      clear hU4
      clear x0 x1 x2 x3
      skip
      replace HG := Lib.hid (HG.out.below HBU.out); replace HO := Lib.hid (HO.out.below HBU.out)
      refine (itemFault_any cap mk' g (w2.heap.size) E m d ys' x _ HG.out HO.out (by omega)).mono ?_
      rw [HF.out]
      rintro e w5 ⟨rfl, hb⟩
      have Z6 := Lib.hid hb.size
      replace HA := HA.below hb
      replace HXS := HXS.below hb
      replace HX1 := HX1.below hb
      replace HX2 := HX2.below hb
      replace HX3 := HX3.below hb
      replace HB := Lib.hid (below_step HB.out hb)
      replace HG := Lib.hid (HG.out.below hb); replace HO := Lib.hid (HO.out.below hb)
      have HVW := Lib.hid ((HVB.out.trans (HBU.out.mono (by have := Zh.out; have := Zh2.out; have := Z1.out; have := Z2.out; have := Z3.out; have := Zg.out; have := Zg2.out; have := Z4.out; have := Z5.out; have := Z6.out; omega))).trans (hb.mono (by have := Zh.out; have := Zh2.out; have := Z1.out; have := Z2.out; have := Z3.out; have := Zg.out; have := Zg2.out; have := Z4.out; have := Z5.out; have := Z6.out; omega)))
      clear hb HBU HVB
      by_cases hfz : ¬ f = 0
      · have hf0 : (f != 0) = true := by simpa using hfz
        have HE : Hid (pc = f ∧ pm = false ∧ pu = []) := Lib.hid (by have h := HPL.out; rw [HPJ.out, HPK.out, HF.out, if_neg hfz] at h; injection h with h1 h2; injection h2 with h2 h3; exact ⟨h1.symm, h2.symm, h3.symm⟩)
        obtain ⟨rfl, rfl, rfl⟩ := HE.out
        have HV2 : Hid ((if pc = 0 then cap else 0) = 0) := Lib.hid (if_neg hfz)
        clear hfz
        have c5_0 := HX2.look 0
        have c5_1 := HX2.look 1
        have c5_2 := HX2.look 2
        have c5_3 := HX2.look 3
        have c5_4 := HX2.look 4
        have c5_5 := HX2.look 5
        have f5_0 := HX2.free 0
        have f5_1 := HX2.free 1
        have f5_2 := HX2.free 2
        have f5_3 := HX2.free 3
        have f5_4 := HX2.free 4
        have f5_5 := HX2.free 5
        have l5_0 := HX1.bx.lt
        have l5_1 := HX2.bx.lt
        have l5_2 := HX3.bx.lt
        go_wp2
        clear c5_0 c5_1 c5_2 c5_3 c5_4 c5_5 f5_0 f5_1 f5_2 f5_3 f5_4 f5_5 l5_0 l5_1 l5_2
        obtain ⟨U6, hU6⟩ : ∃ W : World, W = ((((((w5.setCell ⟨w.heap.size + 1, 0, none⟩ (.int .i64 pc)).setCell ⟨w.heap.size + 1, 1, none⟩ (.int .i64 0)).setCell ⟨w.heap.size + 1, 2, none⟩ (.bool false)).setCell ⟨w.heap.size + 1, 3, none⟩ (.slice none 0 0)).setCell ⟨w.heap.size + 1, 4, none⟩ (.bool false)).setCell ⟨w.heap.size + 1, 5, none⟩ (.slice none 0 0)) := ⟨_, rfl⟩
        have ho : Only (w.heap.size + 1) (w.heap.size + 1 + 1) w5 U6 := by rw [hU6]; exact (((((((Only.refl _ _ _).set (p := ⟨w.heap.size + 1, 0, none⟩) (Nat.le_refl _) (Nat.lt_succ_self _) _).set (p := ⟨w.heap.size + 1, 1, none⟩) (Nat.le_refl _) (Nat.lt_succ_self _) _).set (p := ⟨w.heap.size + 1, 2, none⟩) (Nat.le_refl _) (Nat.lt_succ_self _) _).set (p := ⟨w.heap.size + 1, 3, none⟩) (Nat.le_refl _) (Nat.lt_succ_self _) _).set (p := ⟨w.heap.size + 1, 4, none⟩) (Nat.le_refl _) (Nat.lt_succ_self _) _).set (p := ⟨w.heap.size + 1, 5, none⟩) (Nat.le_refl _) (Nat.lt_succ_self _) _)
        replace HX2 : Kept (w.heap.size + 1) (w.heap.size + 1 + 1) (BoxK (w.heap.size + 1) 63 #[.int .i64 pc, .int .i64 0, .bool false, .slice none 0 0, .bool false, .slice none 0 0]) U6 := by rw [hU6]; exact Kept.box ((((((HX2.bx.puts 0 (.int .i64 pc) (cs' := #[.int .i64 pc, .int .i64 0, .bool false, .slice none 0 0, .bool false, .slice none 0 0]) rfl).puts 1 (.int .i64 0) (cs' := #[.int .i64 pc, .int .i64 0, .bool false, .slice none 0 0, .bool false, .slice none 0 0]) rfl).puts 2 (.bool false) (cs' := #[.int .i64 pc, .int .i64 0, .bool false, .slice none 0 0, .bool false, .slice none 0 0]) rfl).puts 3 (.slice none 0 0) (cs' := #[.int .i64 pc, .int .i64 0, .bool false, .slice none 0 0, .bool false, .slice none 0 0]) rfl).puts 4 (.bool false) (cs' := #[.int .i64 pc, .int .i64 0, .bool false, .slice none 0 0, .bool false, .slice none 0 0]) rfl).puts 5 (.slice none 0 0) (cs' := #[.int .i64 pc, .int .i64 0, .bool false, .slice none 0 0, .bool false, .slice none 0 0]) rfl)
        replace HA := HA.only ho (by have := Zh.out; have := Zh2.out; have := Z1.out; have := Z2.out; have := Z3.out; have := Zg.out; have := Zg2.out; have := Z4.out; have := Z5.out; have := Z6.out; omega)
        replace HXS := HXS.only ho (by have := Zh.out; have := Zh2.out; have := Z1.out; have := Z2.out; have := Z3.out; have := Zg.out; have := Zg2.out; have := Z4.out; have := Z5.out; have := Z6.out; omega)
        replace HX1 := HX1.only ho (by have := Zh.out; have := Zh2.out; have := Z1.out; have := Z2.out; have := Z3.out; have := Zg.out; have := Zg2.out; have := Z4.out; have := Z5.out; have := Z6.out; omega)
        replace HX3 := HX3.only ho (by have := Zh.out; have := Zh2.out; have := Z1.out; have := Z2.out; have := Z3.out; have := Zg.out; have := Zg2.out; have := Z4.out; have := Z5.out; have := Z6.out; omega)
        replace HB := Lib.hid (Below.only HB.out ho (by have := Zh.out; have := Zh2.out; have := Z1.out; have := Z2.out; have := Z3.out; have := Zg.out; have := Zg2.out; have := Z4.out; have := Z5.out; have := Z6.out; omega) HB.out.size)
        have Z7 : Hid (U6.heap.size = w5.heap.size) := Lib.hid (by rw [hU6]; simp [World.setCell]); clear ho
        have q_0 := HX2.look 0
        have q_1 := HX2.look 1
        have q_2 := HX2.look 2
        have q_3 := HX2.look 3
        have q_4 := HX2.look 4
        have q_5 := HX2.look 5
        subst hU6
        exact bodyPost_ret (v := .agg #[.int .i64 pc, .int .i64 0, .bool false, .slice none 0 0, .bool false, .slice none 0 0]) (by simp [results, Try.results41, go_sem, q_0, q_1, q_2, q_3, q_4, q_5]) rfl ⟨none, 0, 0, none, 0, 0, by rw [HV.out.1, HV.out.2.1, HV.out.2.2.1, HV.out.2.2.2.2.1, HV2.out], by rw [HV.out.2.2.2.1, HV.out.2.2.2.2.2]; exact QK.kept (QK.nil _ _ _ _ _) (Nat.le_refl _), HB.out⟩
      · obtain rfl : f = 0 := Classical.byContradiction hfz
        have l5_0 := HX1.bx.lt
        have l5_1 := HX2.bx.lt
        have l5_2 := HX3.bx.lt
        go_wp2
        clear l5_0 l5_1 l5_2
        have V0 : Hid (Below w5.heap.size w5 w5.drew) := (Below.refl _ _).drew
        have t0 := HX3.look 0
        have t1 := HX3.look 1
        have t2 := HX3.look 2
        have t3 := HX3.look 3
        have tl := HX3.bx.lt
        have HBg : Hid (w2.heap.size ≤ g) := Lib.hid (by have := Zh.out; have := Zh2.out; have := Z1.out; have := Z2.out; have := Z3.out; have := Zg.out; have := Zg2.out; have := Z4.out; have := Z5.out; have := Z6.out; omega)
        have HBu : Hid (w2.heap.size ≤ w5.heap.size) := Lib.hid (by have := Zh.out; have := Zh2.out; have := Z1.out; have := Z2.out; have := Z3.out; have := Zg.out; have := Zg2.out; have := Z4.out; have := Z5.out; have := Z6.out; omega)
        have PK : Hid (Calls Try.prog 126 #[.agg #[.int .i64 x.typ, .int .i64 x.id, .int .i64 x.adv]] w5.drew fun e w' => e = .returned (ofKeyV w5.heap.size) ∧ Kept w5.heap.size (w5.heap.size + 1) (BoxK w5.heap.size 34 #[.int .i64 x.typ, .int .i64 x.id, .int .i64 x.adv]) w' ∧ Below w5.drew.heap.size w5.drew w') := Lib.hid (ofKey_any x w5.drew)
        go_region_law (first | ((show (if Region.wanted (Oper.mk (some 39) _ _ _ _ _) _ = true then _ else _)); go_simp; with_reducible refine PK.out.mono ?_; rintro e u1 ⟨rfl, hkb, hb⟩; have V1 := Lib.hid (below_step V0.out hb); have HK1 : Hid (Kept w5.heap.size (w5.heap.size + 1) (BoxK w5.heap.size 34 #[.int .i64 x.typ, .int .i64 x.id, .int .i64 x.adv]) u1) := Lib.hid hkb; have HG1 := Lib.hid (HG.out.below V1.out); have HO1 := Lib.hid (HO.out.below V1.out); have z0 := (HX3.below V1.out).look 0; have z1 := (HX3.below V1.out).look 1; have z2 := (HX3.below V1.out).look 2; have z3 := (HX3.below V1.out).look 3; have zl := (HX3.below V1.out).bx.lt; clear hkb hb) | ((show (if Region.wanted (Oper.mk (some 40) _ _ _ _ _) _ = true then _ else _)); go_simp; have PC := put_any cap mk' g (w2.heap.size) w5.heap.size E m d ys' x u1 HG1.out HO1.out HK1.out.bx hm HBg.out (Nat.le_trans HBu.out V1.out.size); with_reducible refine PC.mono ?_; clear PC; rintro e u2 ⟨rfl, A3, n3, c3, hg3, ho3, hb3⟩; have HG3 := Lib.hid hg3; have HO3 := Lib.hid ho3; have HB3 := Lib.hid hb3; clear hg3 ho3 hb3))
        all_goals
          have HVX := Lib.hid ((HVW.out.trans (V1.out.mono HBu.out)).trans HB3.out)
          have HPX := Lib.hid (PInv.put HPI.out HF.out)
          have HPN : Hid (pushL cap xs mk ys = pushL cap (xs.drop (k + 1)) (putM cap mk' ys' x) (putY cap ys' x)) := Lib.hid (by rw [HPJ.out, HPK.out, if_pos HF.out])
          clear t0 t1 t2 t3 tl z0 z1 z2 z3 zl
          go_wp2
          go_roundw
          case rel => exact ⟨k + 1, A3, n3, c3, putM cap mk' ys' x, putY cap ys' x, by omega, by go_num, HG3, HO3, HPX, HPN, HVX⟩
          case measure => simp [intOf]; omega
    · have HE : Hid (pc = 0 ∧ pm = mk' ∧ pu = ys') := Lib.hid (by have h := HPL.out; rw [HPJ.out, List.drop_of_length_le (by have := HLX.out; omega)] at h; injection h with h1 h2; injection h2 with h2 h3; exact ⟨h1.symm, h2.symm, h3.symm⟩)
      obtain ⟨rfl, rfl, rfl⟩ := HE.out
      have HOK := HO.out.kept rfl
      have HEM : Hid (OwnF 66 4 tcell wr (w2.heap.size) E m d pu) := HO
      have l4_0 := HX1.bx.lt
      have l4_1 := HX2.bx.lt
      go_wp2_with fail
      clear l4_0 l4_1
      refine (queueOf_any cap pm g E m d _ HG.out).mono ?_
      rintro e w4 ⟨rfl, hb⟩
      have Z5 := Lib.hid hb.size
      replace HA := HA.below hb
      replace HXS := HXS.below hb
      replace HX1 := HX1.below hb
      replace HX2 := HX2.below hb
      replace HOK := HOK.below hb
      replace HB := Lib.hid (below_step HB.out hb)
      clear hb
      have c5_0 := HX2.look 0
      have c5_1 := HX2.look 1
      have c5_2 := HX2.look 2
      have c5_3 := HX2.look 3
      have c5_4 := HX2.look 4
      have c5_5 := HX2.look 5
      have f5_0 := HX2.free 0
      have f5_1 := HX2.free 1
      have f5_2 := HX2.free 2
      have f5_3 := HX2.free 3
      have f5_4 := HX2.free 4
      have f5_5 := HX2.free 5
      have l5_0 := HX1.bx.lt
      have l5_1 := HX2.bx.lt
      go_wp2
      clear c5_0 c5_1 c5_2 c5_3 c5_4 c5_5 f5_0 f5_1 f5_2 f5_3 f5_4 f5_5 l5_0 l5_1
      obtain ⟨U5, hU5⟩ : ∃ W : World, W = ((((((w4.setCell ⟨w.heap.size + 1, 0, none⟩ (.int .i64 0)).setCell ⟨w.heap.size + 1, 1, none⟩ (.int .i64 cap)).setCell ⟨w.heap.size + 1, 2, none⟩ (.bool pm)).setCell ⟨w.heap.size + 1, 3, none⟩ (.slice E m d)).setCell ⟨w.heap.size + 1, 4, none⟩ (.bool false)).setCell ⟨w.heap.size + 1, 5, none⟩ (.slice none 0 0)) := ⟨_, rfl⟩
      have ho : Only (w.heap.size + 1) (w.heap.size + 1 + 1) w4 U5 := by rw [hU5]; exact (((((((Only.refl _ _ _).set (p := ⟨w.heap.size + 1, 0, none⟩) (Nat.le_refl _) (Nat.lt_succ_self _) _).set (p := ⟨w.heap.size + 1, 1, none⟩) (Nat.le_refl _) (Nat.lt_succ_self _) _).set (p := ⟨w.heap.size + 1, 2, none⟩) (Nat.le_refl _) (Nat.lt_succ_self _) _).set (p := ⟨w.heap.size + 1, 3, none⟩) (Nat.le_refl _) (Nat.lt_succ_self _) _).set (p := ⟨w.heap.size + 1, 4, none⟩) (Nat.le_refl _) (Nat.lt_succ_self _) _).set (p := ⟨w.heap.size + 1, 5, none⟩) (Nat.le_refl _) (Nat.lt_succ_self _) _)
      replace HX2 : Kept (w.heap.size + 1) (w.heap.size + 1 + 1) (BoxK (w.heap.size + 1) 63 #[.int .i64 0, .int .i64 cap, .bool pm, .slice E m d, .bool false, .slice none 0 0]) U5 := by rw [hU5]; exact Kept.box ((((((HX2.bx.puts 0 (.int .i64 0) (cs' := #[.int .i64 0, .int .i64 0, .bool false, .slice none 0 0, .bool false, .slice none 0 0]) rfl).puts 1 (.int .i64 cap) (cs' := #[.int .i64 0, .int .i64 cap, .bool false, .slice none 0 0, .bool false, .slice none 0 0]) rfl).puts 2 (.bool pm) (cs' := #[.int .i64 0, .int .i64 cap, .bool pm, .slice none 0 0, .bool false, .slice none 0 0]) rfl).puts 3 (.slice E m d) (cs' := #[.int .i64 0, .int .i64 cap, .bool pm, .slice E m d, .bool false, .slice none 0 0]) rfl).puts 4 (.bool false) (cs' := #[.int .i64 0, .int .i64 cap, .bool pm, .slice E m d, .bool false, .slice none 0 0]) rfl).puts 5 (.slice none 0 0) (cs' := #[.int .i64 0, .int .i64 cap, .bool pm, .slice E m d, .bool false, .slice none 0 0]) rfl)
      replace HA := HA.only ho (by have := Zh.out; have := Zh2.out; have := Z1.out; have := Z2.out; have := Z3.out; have := Zg.out; have := Zg2.out; have := Z4.out; have := Z5.out; omega)
      replace HXS := HXS.only ho (by have := Zh.out; have := Zh2.out; have := Z1.out; have := Z2.out; have := Z3.out; have := Zg.out; have := Zg2.out; have := Z4.out; have := Z5.out; omega)
      replace HX1 := HX1.only ho (by have := Zh.out; have := Zh2.out; have := Z1.out; have := Z2.out; have := Z3.out; have := Zg.out; have := Zg2.out; have := Z4.out; have := Z5.out; omega)
      replace HOK := HOK.only ho (by have := Zh.out; have := Zh2.out; have := Z1.out; have := Z2.out; have := Z3.out; have := Zg.out; have := Zg2.out; have := Z4.out; have := Z5.out; omega)
      replace HB := Lib.hid (Below.only HB.out ho (by have := Zh.out; have := Zh2.out; have := Z1.out; have := Z2.out; have := Z3.out; have := Zg.out; have := Zg2.out; have := Z4.out; have := Z5.out; omega) HB.out.size)
      have Z6 : Hid (U5.heap.size = w4.heap.size) := Lib.hid (by rw [hU5]; simp [World.setCell]); clear ho
      have q_0 := HX2.look 0
      have q_1 := HX2.look 1
      have q_2 := HX2.look 2
      have q_3 := HX2.look 3
      have q_4 := HX2.look 4
      have q_5 := HX2.look 5
      subst hU5
      exact bodyPost_ret (v := .agg #[.int .i64 0, .int .i64 cap, .bool pm, .slice E m d, .bool false, .slice none 0 0]) (by simp [results, Try.results41, go_sem, q_0, q_1, q_2, q_3, q_4, q_5]) rfl ⟨E, m, d, none, 0, 0, by rw [HV.out.1, HV.out.2.1, HV.out.2.2.1, HV.out.2.2.2.2.1]; rfl, by rw [HV.out.2.2.2.1, HV.out.2.2.2.2.2]; exact QK.kept (QK.of_own (HOK.ownF.mono (by have := Zh.out; have := Zh2.out; have := Z1.out; have := Z2.out; have := Z3.out; have := Zg.out; have := Zg2.out; have := Z4.out; have := Z5.out; have := Z6.out; omega)) (OwnF.nil_ _ _ _ _ _) (fun r _ h => by cases h)) (Nat.le_refl _), HB.out⟩


end Go.Proofs.Ytiffhjofabaflaa

