/-
  The program's BothEnds answers as the model's, writes into no argument, and its answer owns its memory. No condition.
-/
import Derived.Test.YtooogjfnnmacjaaTcell
import Derived.Test.YtooogjfnnmacjaaTimerSS
import Derived.Test.YtooogjfnnmacjaaTimerMark
import Derived.Test.YtooogjfnnmacjaaBaseFault
import Derived.Test.YtooogjfnnmacjaaSpecBaseFault
import Derived.Test.YtooogjfnnmacjaaWalk
import Derived.Test.YtooogjfnnmacjaaFlat
import Derived.RangeFuncNested
import Derived.Laws.CopyRow
import Derived.Shelf.Abstract
import Derived.ChangeKeysEq
import Derived.Lib.SliceRun
import Derived.Deep.DeepCutAuto
import Derived.Test.YtooogjfnnmacjaaEnt
import Derived.Test.YtooogjfnnmacjaaEntSz
import Derived.Test.YtooogjfnnmacjaaWheelMark
import Derived.Test.YtooogjfnnmacjaaEntTo
import Derived.Test.YtooogjfnnmacjaaEntEq
import Derived.Test.YtooogjfnnmacjaaOpenBase
import Derived.Test.YtooogjfnnmacjaaRows
import Derived.WalkKit
import Derived.ProofKit
import Derived.OpenShut
import Derived.ShutString
import Derived.ChangeOld
import Derived.Below
namespace Go.Proofs.Ytooogjfnnmacjaa
open Go.RowKit
set_option linter.unusedVariables false

/-- The first m cells of a row are these. -/
def Marks (w : World) (b o : Nat) (g : Nat → Value) (m : Nat) : Prop := ∀ j, j < m → w.cell? ⟨b, o + j, none⟩ = some (g j)
theorem Marks.next {w : World} {b o N : Nat} {g : Nat → Value} {m : Nat} (h : Marks w b o g m) (hR : Room w b o N) (hm : m < N) (v : Value) (hv : g m = v) : Marks (w.setCell ⟨b, o + m, none⟩ v) b o g (m + 1) := by
  intro j hj
  by_cases e : j = m
  · subst e
    obtain ⟨u, hu⟩ := hR.1 j hm
    rw [World.cell?_setCell_same _ _ _ hu, hv]
  · rw [World.cell?_setCell_other _ _ _ _ (fun h' => e (by injection h' with _ h' _; omega))]
    exact h j (by omega)

theorem nodeInfo : (Try.prog.info? 105).map (fun i => (i.zero, i.size, i.bytes)) = some (some (.agg #[.bool false, .int .i64 0]), 2, 16) := by kernel_rfl

/-- A node, as its truth and its number. -/
structure Nd where
  net : Bool
  id : Int
instance : DecidableEq Nd := fun a b => decidable_of_iff (a.net = b.net ∧ a.id = b.id) (by cases a; cases b; simp)
def Rep.node : Rep Nd where
  size := 2
  rel _ _ _ _ cs a := cs = [.bool a.net, .int .i64 a.id]
  len h := by rw [h]; rfl
  keep h _ := h
  mono h _ _ := h
def nodecell (a : Nd) : List Value := [.bool a.net, .int .i64 a.id]
theorem nodecell_len (a : Nd) : (nodecell a).length = 2 := rfl
theorem nodecell_one : ∀ a : Nd, ∀ u ∈ nodecell a, u.oneCell' = true := by
  intro a u hu
  simp only [nodecell, List.mem_cons, List.not_mem_nil, or_false] at hu
  rcases hu with rfl | rfl <;> rfl
theorem Rep.node_inF {q : Bool} {lo hi : Nat} {w : World} {A : Option Addr} {n : Nat} {ys : List Nd} (h : Rep.node.Sl q lo hi w A n ys) : InF 2 nodecell w A n ys := Rep.Sl.inF (r := Rep.node) nodecell_len (fun _ _ _ _ _ _ h => h) h
theorem Rep.node_at {q : Bool} {lo hi : Nat} {w : World} {A : Option Addr} {n : Nat} {ys : List Nd} (h : Rep.node.Sl q lo hi w A n ys) {k : Nat} (hk : k < n) :
    ∃ b o a, A = some ⟨b, o, none⟩ ∧ ys[k]? = some a ∧ w.cell? ⟨b, o + k * 2, none⟩ = some (.bool a.net) ∧ w.cell? ⟨b, o + k * 2 + 1, none⟩ = some (.int .i64 a.id) := by
  obtain ⟨b, o, a, cs, e, ha, hr, hc⟩ := h.at_ hk
  have hr : cs = [.bool a.net, .int .i64 a.id] := hr
  subst hr
  exact ⟨b, o, a, e, ha, hc 0 _ rfl, hc 1 _ rfl⟩

set_option maxRecDepth 100000 in
set_option maxHeartbeats 1600000 in
theorem toNode_any (x0 : Bool) (x1 : Int) (w : World) :
    Calls Try.prog 73 #[.agg #[.bool x0, .int .i64 x1]] w fun e w' => e = .returned (.agg #[.bool x0, .int .i64 x1]) ∧ Below w.heap.size w w' := by
  have HB := Lib.hid (Below.refl w.heap.size w)
  go_enter Try.func73, Try.ntmps73
  go_wp2
  obtain ⟨U1, hU1⟩ : ∃ W : World, W = (((w.alloc (.cells #[.bool x0, .int .i64 x1] 98)).alloc (.cells #[.bool x0, .int .i64 x1] 105)).alloc (.cells #[.bool x0, .int .i64 x1] 105)) := ⟨_, rfl⟩
  have hb : Below w.heap.size w U1 := by rw [hU1]; exact ((((Below.refl _ _).alloc (Nat.le_refl _) _).alloc (by simp <;> omega) _).alloc (by simp <;> omega) _)
  have zz : Hid (w.heap.size + 3 = U1.heap.size) := Lib.hid (by rw [hU1]; simp)
  have HX1 : Kept w.heap.size (w.heap.size + 1) (BoxK w.heap.size 98 #[.bool x0, .int .i64 x1]) U1 := by rw [hU1]; exact Kept.box (((Box.made_at _ _ _ rfl).over _).over _)
  have HX2 : Kept (w.heap.size + 1) (w.heap.size + 1 + 1) (BoxK (w.heap.size + 1) 105 #[.bool x0, .int .i64 x1]) U1 := by rw [hU1]; exact Kept.box ((Box.made_at _ _ _ (by simp <;> omega)).over _)
  have HX3 : Kept (w.heap.size + 1 + 1) (w.heap.size + 1 + 1 + 1) (BoxK (w.heap.size + 1 + 1) 105 #[.bool x0, .int .i64 x1]) U1 := by rw [hU1]; exact Kept.box (Box.made_at _ _ _ (by simp <;> omega))
  replace HB := Lib.hid (below_step HB.out hb)
  clear hb
  have Z1 := zz; clear zz
  have q_0 := HX2.look 0
  have q_1 := HX2.look 1
  subst hU1
  exact bodyPost_ret (v := .agg #[.bool x0, .int .i64 x1]) (by simp [results, Try.results73, go_sem, q_0, q_1]) rfl ⟨rfl, HB.out⟩

set_option maxRecDepth 100000 in
set_option maxHeartbeats 1600000 in
theorem toNodeS_any (q : Bool) (lo hi : Nat) (A : Option Addr) (n c : Nat) (ys : List Nd) (w : World) (ha : Rep.node.Sl q lo hi w A n ys) (hh : hi ≤ w.heap.size) (hn : n ≤ 1048576) :
    Calls Try.prog 178 #[.slice A n c] w fun e w' => e = .returned (.slice (some ⟨w.heap.size, 0, none⟩) n n) ∧
      Rep.node.Sl true w.heap.size (w.heap.size + 1) w' (some ⟨w.heap.size, 0, none⟩) n ys ∧ w.heap.size < w'.heap.size ∧ Below w.heap.size w w' := by
  obtain ⟨i0, hi0, hz0, hz1, hz2⟩ := info_parts nodeInfo
  go_enter Try.func178, Try.ntmps178
  go_wp2_with (at_make; refine wpList_make_full _ rfl _ _ 199 rfl w.heap.size 105 i0 _ 2 Try.underlying199 hi0 hz0 hz1 .i64 .i64 _ _ n rfl rfl rfl rfl (by rw [hz2]; omega) (by unfold maxLen; omega) (Nat.le_refl _) ?_; intro w1 hown1 hg1)
  have hb1 := below_of_grown hg1
  clear hg1 hi0 hz0 hz1 hz2
  obtain ⟨B, HB⟩ : ∃ B, Hid (B = w.heap.size) := ⟨_, Lib.hid rfl⟩
  rw [← HB.out] at hown1 hb1 ⊢
  go_loopw [4] (fun i wr => ∃ k : Nat, k ≤ n ∧ i = .int .i64 k ∧ ∃ xs : List Value, wr.ownsRow B 105 2 (.slice (some ⟨B, 0, none⟩) n n) n xs ∧ Below B w wr ∧
      Hid (∀ j a, j < k → ys[j]? = some a → xs[j * 2]? = some (.bool a.net) ∧ xs[j * 2 + 1]? = some (.int .i64 a.id)))
    (fun i _ => n - (intOf i).toNat)
  case atStart => exact ⟨0, Nat.zero_le _, rfl, _, hown1, hb1, fun j a hj => absurd hj (by omega)⟩
  case round =>
    obtain ⟨k, hk, rfl, xs, hown, hbw, HS⟩ := hrel
    by_cases hlt : k < n
    · obtain ⟨b, o, a, rfl, hya, ca0, ca1⟩ := Rep.node_at (ha.below (by rw [← HB.out]; exact hbw) hh) hlt
      have hlt' : (k : Int) < n := by omega
      have HYA := Lib.hid hya
      clear hya
      go_wp2_with fail
      refine (toNode_any _ _ _).mono ?_
      rintro e w2 ⟨rfl, hb2⟩
      have hown2 : w2.ownsRow B 105 2 (.slice (some ⟨B, 0, none⟩) n n) n xs := World.ownsRow.kept hown (grownBy_of_below hb2 none) (by simp [Value.ownBlock])
      have hbw2 : Below B w w2 := hbw.trans (hb2.mono (Nat.le_of_lt (World.ownsRow.lt hown B rfl).2))
      have hl : xs.length = n * 2 := hown2.1
      have h4 : k * 2 + 1 < n * 2 := by omega
      obtain ⟨v0, d0⟩ := own_some hown2 (j := k * 2) (by omega)
      obtain ⟨v1, d1⟩ := own_some hown2 (j := k * 2 + 1) (by omega)
      have f0 := World.ownsRow.frozenAt hown2 (k * 2)
      have f1 := World.ownsRow.frozenAt hown2 (k * 2 + 1)
      obtain ⟨s1, _⟩ := World.ownsRow.stored hown2 (k * 2) (.bool a.net)
      obtain ⟨s2, _⟩ := World.ownsRow.stored s1 (k * 2 + 1) (.int .i64 a.id)
      have HO := Lib.hid s2
      have HL := Lib.hid hl
      have HBW := Lib.hid hbw2
      clear s1 s2 hl hbw2 hown hown2 hbw hb2
      go_wp2
      go_roundw
      case rel =>
        refine ⟨k + 1, by omega, by go_num, _, HO.out, ((HBW.out.setCell (Nat.le_refl _) _).setCell (Nat.le_refl _) _), fun j x hj hx => ?_⟩
        have hl := HL.out
        by_cases e : j = k
        · subst e
          have hax : x = a := by have := HYA.out; rw [hx] at this; injection this
          subst hax
          refine ⟨?_, ?_⟩ <;> simp only [List.getElem?_set, List.length_set]
          · rw [if_neg (by omega), if_pos trivial, if_pos (by omega)]
          · rw [if_pos trivial, if_pos (by omega)]
        · obtain ⟨e0, e1⟩ := HS.out j x (by omega) hx
          refine ⟨?_, ?_⟩ <;> simp only [List.getElem?_set, List.length_set]
          · rw [if_neg (by omega), if_neg (by omega)]; exact e0
          · rw [if_neg (by omega), if_neg (by omega)]; exact e1
      case measure => simp [intOf]; omega
    · have HO := Lib.hid hown
      have hlen := ha.1
      clear hown
      go_wp2
      go_ret
      obtain rfl := HB.out
      have hlt2 : w.heap.size < wr.heap.size := (World.ownsRow.lt HO.out w.heap.size rfl).2
      refine ⟨rfl, ⟨hlen, fun _ => ⟨w.heap.size, 0, rfl, Nat.le_refl _, by omega, fun _ i => World.ownsRow.frozenAt HO.out i, fun i a hi' => ?_⟩⟩, hlt2, hbw⟩
      have hin : i < n := by
        rcases Nat.lt_or_ge i ys.length with h' | h'
        · omega
        · rw [List.getElem?_eq_none h'] at hi'; cases hi'
      obtain ⟨e0, e1⟩ := HS.out i a (by omega) hi'
      refine ⟨[.bool a.net, .int .i64 a.id], rfl, fun j u hj => ?_⟩
      have hj4 : j < 2 := by
        rcases Nat.lt_or_ge j 2 with h' | h'
        · exact h'
        · rw [List.getElem?_eq_none (by simpa using h')] at hj; cases hj
      have hc := World.ownsRow.cellAt HO.out (i * 2 + j) (by omega)
      show wr.cell? ⟨w.heap.size, 0 + i * 2 + j, none⟩ = some u
      rw [Nat.zero_add, hc, ← hj]
      rcases (show j = 0 ∨ j = 1 by omega) with rfl | rfl
      · exact e0
      · exact e1

set_option maxRecDepth 100000 in
set_option maxHeartbeats 1600000 in
theorem eqNode_yes (x0 : Bool) (x1 : Int) (w : World) :
    Calls Try.prog 179 #[.agg #[.bool x0, .int .i64 x1], .agg #[.bool x0, .int .i64 x1]] w fun e w' => e = .returned (.bool true) ∧ Below w.heap.size w w' := by
  have HB := Lib.hid (Below.refl w.heap.size w)
  go_enter Try.func179, Try.ntmps179
  go_wp2
  obtain ⟨U1, hU1⟩ : ∃ W : World, W = ((w.alloc (.cells #[.bool x0, .int .i64 x1] 105)).alloc (.cells #[.bool x0, .int .i64 x1] 105)) := ⟨_, rfl⟩
  have hb : Below w.heap.size w U1 := by rw [hU1]; exact (((Below.refl _ _).alloc (Nat.le_refl _) _).alloc (by simp <;> omega) _)
  have zz : Hid (w.heap.size + 2 = U1.heap.size) := Lib.hid (by rw [hU1]; simp)
  have HX1 : Kept w.heap.size (w.heap.size + 1) (BoxK w.heap.size 105 #[.bool x0, .int .i64 x1]) U1 := by rw [hU1]; exact Kept.box ((Box.made_at _ _ _ rfl).over _)
  have HX2 : Kept (w.heap.size + 1) (w.heap.size + 1 + 1) (BoxK (w.heap.size + 1) 105 #[.bool x0, .int .i64 x1]) U1 := by rw [hU1]; exact Kept.box (Box.made_at _ _ _ (by simp <;> omega))
  replace HB := Lib.hid (below_step HB.out hb)
  clear hb
  have Z1 := zz; clear zz
  subst hU1
  go_ret
  exact ⟨rfl, HB.out⟩

set_option maxRecDepth 100000 in
set_option maxHeartbeats 3200000 in
theorem eqNodeS_yes (q1 q2 : Bool) (l1 h1 l2 h2 : Nat) (A B : Option Addr) (n c d : Nat) (ys : List Nd) (w : World) (ha : Rep.node.Sl q1 l1 h1 w A n ys) (hb : Rep.node.Sl q2 l2 h2 w B n ys) (hh1 : h1 ≤ w.heap.size) (hh2 : h2 ≤ w.heap.size) (hn : n ≤ 1048576) :
    Calls Try.prog 180 #[.slice A n c, .slice B n d] w fun e w' => e = .returned (.bool true) ∧ Below w.heap.size w w' := by
  go_enter Try.func180, Try.ntmps180
  go_wp2
  go_loopw [5] (fun i wr => ∃ k : Nat, k ≤ n ∧ i = .int .i64 k ∧ Hid (Below w.heap.size w wr)) (fun i _ => n - (intOf i).toNat)
  case atStart => exact ⟨0, Nat.zero_le _, rfl, Below.refl _ _⟩
  case round =>
    obtain ⟨k, hk, rfl, HB⟩ := hrel
    by_cases hlt : k < n
    · obtain ⟨b, o, a, rfl, hya, a0, a1⟩ := Rep.node_at (ha.below HB.out hh1) hlt
      obtain ⟨b', o', a', rfl, hya', b0, b1⟩ := Rep.node_at (hb.below HB.out hh2) hlt
      obtain rfl : a' = a := by rw [hya] at hya'; injection hya' with e; exact e.symm
      have hlt' : (k : Int) < n := by omega
      clear hya hya'
      have SB : Hid (∀ W, Hid (Below wr.heap.size wr W) → (fun W => W.cell? ⟨b, o + k * 2, none⟩ = some (.bool a'.net) ∧ W.cell? ⟨b, o + k * 2 + 1, none⟩ = some (.int .i64 a'.id) ∧ W.cell? ⟨b', o' + k * 2, none⟩ = some (.bool a'.net) ∧ W.cell? ⟨b', o' + k * 2 + 1, none⟩ = some (.int .i64 a'.id)) W) := fun W h => ⟨(h.out.cell (World.block_lt_of_cell? wr _ a0)).trans a0, (h.out.cell (World.block_lt_of_cell? wr _ a1)).trans a1, (h.out.cell (World.block_lt_of_cell? wr _ b0)).trans b0, (h.out.cell (World.block_lt_of_cell? wr _ b1)).trans b1⟩
      have V0 : Hid (Below wr.heap.size wr wr.drew) := (Below.refl _ _).drew
      clear a0 a1 b0 b1
      go_wp2
      go_region_held3 (fun W => W.cell? ⟨b, o + k * 2, none⟩ = some (.bool a'.net) ∧ W.cell? ⟨b, o + k * 2 + 1, none⟩ = some (.int .i64 a'.id) ∧ W.cell? ⟨b', o' + k * 2, none⟩ = some (.bool a'.net) ∧ W.cell? ⟨b', o' + k * 2 + 1, none⟩ = some (.int .i64 a'.id)) (exact SB.out _ (by assumption))
        (first | (go_at_call 179; refine (eqNode_yes _ _ _).mono ?_; rintro e u ⟨rfl, hbu⟩; have U0 := Lib.hid (below_step V0.out hbu); clear hbu))
      have HU := Lib.hid (below_step HB.out U0.out)
      clear SB V0 U0 HB
      go_wp2
      go_roundw
      case rel => exact ⟨k + 1, by omega, by go_num, HU⟩
      case measure => simp [intOf]; omega
    · go_wp2
      go_ret
      exact ⟨rfl, HB.out⟩

theorem szNodeS_any (A : Option Addr) (n c : Nat) (left : Int) (w : World) (h0 : 0 ≤ left) (h1 : left ≤ 1048576) (hn : n ≤ maxLen) :
    Calls Try.prog 177 #[.slice A n c, .int .i64 left] w fun e w' => e = .returned (.int .i64 (if left - n < 0 then -1 else left - n)) ∧ w' = w := by
  unfold maxLen at hn
  by_cases h : left - n < 0
  · rw [if_pos h]
    go_enter Try.func177, Try.ntmps177
    go_wp2
    go_ret
    exact ⟨rfl, rfl⟩
  · rw [if_neg h]
    go_enter Try.func177, Try.ntmps177
    go_wp2
    go_ret
    exact ⟨rfl, rfl⟩

theorem Rep.node_room {lo hi : Nat} {w : World} {A : Option Addr} {n : Nat} {ys : List Nd} (h : Rep.node.Sl true lo hi w A n ys) (hn : 0 < n) : ∃ b o, A = some ⟨b, o, none⟩ ∧ lo ≤ b ∧ b < hi ∧ Room w b o (2 * n) := by
  obtain ⟨b, o, e, h1, h2, hf, _⟩ := h.2 hn
  refine ⟨b, o, e, h1, h2, fun j hj => ?_, hf rfl⟩
  obtain ⟨b', o', a, e', _, c0, c1⟩ := Rep.node_at h (k := j / 2) (by omega)
  rw [e] at e'; injection e' with e'; injection e' with e1 e2 _
  subst e1 e2
  rcases (show j % 2 = 0 ∨ j % 2 = 1 by omega) with hm | hm
  · exact ⟨_, by rw [show o + j = o + j / 2 * 2 by omega]; exact c0⟩
  · exact ⟨_, by rw [show o + j = o + j / 2 * 2 + 1 by omega]; exact c1⟩

/-- What the marks write, cell by cell. -/
def nodemark (k0 : Int) (j : Nat) : Value := if j % 2 = 0 then .bool ((k0 + (j : Int)) % 3 == 0) else .int .i64 (k0 + (j : Int))
theorem nodemark_at (k0 : Int) (k j : Nat) (hj : j < 2) : nodemark k0 (k * 2 + j) = [.bool ((k0 + 2 * (k : Int)) % 3 == 0), .int .i64 (k0 + 2 * (k : Int) + 1)].getD j undef := by
  have hm : (k * 2 + j) % 2 = j := by omega
  have hi : k0 + ((k * 2 + j : Nat) : Int) = k0 + 2 * (k : Int) + j := by omega
  unfold nodemark
  rw [hm, hi]
  rcases (show j = 0 ∨ j = 1 by omega) with rfl | rfl <;> simp
def mNodes (k0 : Int) (n : Nat) : List Nd := (List.range n).map fun (i : Nat) => ⟨((k0 + 2 * (i : Int)) % 3 == 0), k0 + 2 * (i : Int) + 1⟩
theorem mNodes_len (k0 : Int) (n : Nat) : (mNodes k0 n).length = n := by simp [mNodes]
theorem mNodes_at (k0 : Int) (n k : Nat) (h : k < n) : (mNodes k0 n)[k]? = some ⟨((k0 + 2 * (k : Int)) % 3 == 0), k0 + 2 * (k : Int) + 1⟩ := by simp [mNodes, h]
theorem node_of_marks {q : Bool} {lo hi : Nat} {w : World} {b o : Nat} {k0 : Int} {n : Nat} (h : Marks w b o (nodemark k0) (2 * n)) (hR : Room w b o (2 * n)) (h1 : lo ≤ b) (h2 : b < hi) : Rep.node.Sl q lo hi w (some ⟨b, o, none⟩) n (mNodes k0 n) :=
  ⟨mNodes_len _ _, fun _ => ⟨b, o, rfl, h1, h2, fun _ => hR.2, fun i a ha => by
    have hi' : i < n := by
      rcases Nat.lt_or_ge i (mNodes k0 n).length with h' | h'
      · rwa [mNodes_len] at h'
      · rw [List.getElem?_eq_none h'] at ha; cases ha
    rw [mNodes_at _ _ _ hi'] at ha
    injection ha with ha
    subst ha
    refine ⟨_, rfl, fun j u hj => ?_⟩
    have hj3 : j < 2 := by
      rcases Nat.lt_or_ge j 2 with h' | h'
      · exact h'
      · rw [List.getElem?_eq_none (by simpa using h')] at hj; cases hj
    have := h (i * 2 + j) (by omega)
    show w.cell? ⟨b, o + i * 2 + j, none⟩ = some u
    rw [Nat.add_assoc, this, ← hj, nodemark_at k0 i j hj3]
    rcases (show j = 0 ∨ j = 1 by omega) with rfl | rfl <;> rfl⟩⟩

end Go.Proofs.Ytooogjfnnmacjaa

namespace Go.Proofs.Ytooogjfnnmacjaa
open Go.RowKit
set_option linter.unusedVariables false

theorem edgeInfo : (Try.prog.info? 191).map (fun i => (i.zero, i.size, i.bytes)) = some (some (.agg #[.bool false, .int .i64 0, .bool false, .int .i64 0, .int .i64 0]), 5, 40) := by kernel_rfl

/-- An edge. -/
structure Eg where
  frm : Nd
  dst : Nd
  cost : Int
instance : DecidableEq Eg := fun a b => decidable_of_iff (a.frm = b.frm ∧ a.dst = b.dst ∧ a.cost = b.cost) (by cases a; cases b; simp)
def Rep.edge : Rep Eg where
  size := 5
  rel _ _ _ _ cs a := cs = [.bool a.frm.net, .int .i64 a.frm.id, .bool a.dst.net, .int .i64 a.dst.id, .int .i64 a.cost]
  len h := by rw [h]; rfl
  keep h _ := h
  mono h _ _ := h
def edgecell (a : Eg) : List Value := [.bool a.frm.net, .int .i64 a.frm.id, .bool a.dst.net, .int .i64 a.dst.id, .int .i64 a.cost]
theorem edgecell_len (a : Eg) : (edgecell a).length = 5 := rfl
theorem edgecell_one : ∀ a : Eg, ∀ u ∈ edgecell a, u.oneCell' = true := by
  intro a u hu
  simp only [edgecell, List.mem_cons, List.not_mem_nil, or_false] at hu
  rcases hu with rfl | rfl | rfl | rfl | rfl <;> rfl
theorem Rep.edge_inF {q : Bool} {lo hi : Nat} {w : World} {A : Option Addr} {n : Nat} {ys : List Eg} (h : Rep.edge.Sl q lo hi w A n ys) : InF 5 edgecell w A n ys := Rep.Sl.inF (r := Rep.edge) edgecell_len (fun _ _ _ _ _ _ h => h) h
theorem Rep.edge_at {q : Bool} {lo hi : Nat} {w : World} {A : Option Addr} {n : Nat} {ys : List Eg} (h : Rep.edge.Sl q lo hi w A n ys) {k : Nat} (hk : k < n) :
    ∃ b o a, A = some ⟨b, o, none⟩ ∧ ys[k]? = some a ∧ w.cell? ⟨b, o + k * 5, none⟩ = some (.bool a.frm.net) ∧ w.cell? ⟨b, o + k * 5 + 1, none⟩ = some (.int .i64 a.frm.id) ∧ w.cell? ⟨b, o + k * 5 + 2, none⟩ = some (.bool a.dst.net) ∧ w.cell? ⟨b, o + k * 5 + 3, none⟩ = some (.int .i64 a.dst.id) ∧ w.cell? ⟨b, o + k * 5 + 4, none⟩ = some (.int .i64 a.cost) := by
  obtain ⟨b, o, a, cs, e, ha, hr, hc⟩ := h.at_ hk
  have hr : cs = [.bool a.frm.net, .int .i64 a.frm.id, .bool a.dst.net, .int .i64 a.dst.id, .int .i64 a.cost] := hr
  subst hr
  exact ⟨b, o, a, e, ha, hc 0 _ rfl, hc 1 _ rfl, hc 2 _ rfl, hc 3 _ rfl, hc 4 _ rfl⟩

set_option maxRecDepth 100000 in
set_option maxHeartbeats 1600000 in
theorem toEdge_any (x0 : Bool) (x1 : Int) (x2 : Bool) (x3 : Int) (x4 : Int) (w : World) :
    Calls Try.prog 146 #[.agg #[.bool x0, .int .i64 x1, .bool x2, .int .i64 x3, .int .i64 x4]] w fun e w' => e = .returned (.agg #[.bool x0, .int .i64 x1, .bool x2, .int .i64 x3, .int .i64 x4]) ∧ Below w.heap.size w w' := by
  have HB := Lib.hid (Below.refl w.heap.size w)
  go_enter Try.func146, Try.ntmps146
  go_wp2_with fail
  refine Calls.name ?_
  intro U1 hU1
  have hb : Below w.heap.size w U1 := by rw [hU1]; exact ((((Below.refl _ _).alloc (Nat.le_refl _) _).alloc (by simp <;> omega) _).alloc (by simp <;> omega) _)
  have zz : Hid (w.heap.size + 3 = U1.heap.size) := Lib.hid (by rw [hU1]; simp)
  have HX1 : Kept w.heap.size (w.heap.size + 1) (BoxK w.heap.size 206 #[.bool x0, .int .i64 x1, .bool x2, .int .i64 x3, .int .i64 x4]) U1 := by rw [hU1]; exact Kept.box (((Box.made_at _ _ _ rfl).over _).over _)
  have HX2 : Kept (w.heap.size + 1) (w.heap.size + 1 + 1) (BoxK (w.heap.size + 1) 191 #[.bool false, .int .i64 0, .bool false, .int .i64 0, .int .i64 0]) U1 := by rw [hU1]; exact Kept.box ((Box.made_at _ _ _ (by simp <;> omega)).over _)
  have HX3 : Kept (w.heap.size + 1 + 1) (w.heap.size + 1 + 1 + 1) (BoxK (w.heap.size + 1 + 1) 191 #[.bool false, .int .i64 0, .bool false, .int .i64 0, .int .i64 0]) U1 := by rw [hU1]; exact Kept.box (Box.made_at _ _ _ (by simp <;> omega))
  replace HB := Lib.hid (below_step HB.out hb)
  clear hb
  have Z1 := zz; clear zz
  clear hU1
  refine (toNode_any x0 x1 _).mono ?_
  rintro e w2 ⟨rfl, hb⟩
  have Z2 := Lib.hid hb.size
  replace HX1 := HX1.below hb
  replace HX2 := HX2.below hb
  replace HX3 := HX3.below hb
  replace HB := Lib.hid (below_step HB.out hb)
  clear hb
  have c2_0 := HX1.look 2
  have c2_1 := HX1.look 3
  have c2_2 := HX3.look 0
  have c2_3 := HX3.look 1
  have f2_0 := HX3.free 0
  have f2_1 := HX3.free 1
  have l2_0 := HX1.bx.lt
  have l2_1 := HX2.bx.lt
  have l2_2 := HX3.bx.lt
  have n2_0_0 : ¬ (w.heap.size + 1 + 1) = w.heap.size := (by have := Z1.out; have := Z2.out; omega)
  have m2_0_0 : ¬ w.heap.size = (w.heap.size + 1 + 1) := (by have := Z1.out; have := Z2.out; omega)
  go_wp2_with fail
  clear c2_0 c2_1 c2_2 c2_3 f2_0 f2_1 l2_0 l2_1 l2_2 n2_0_0 m2_0_0
  refine Calls.name ?_
  intro U3 hU3
  have ho : Only (w.heap.size + 1 + 1) (w.heap.size + 1 + 1 + 1) w2 U3 := by rw [hU3]; exact (((Only.refl _ _ _).set (p := ⟨w.heap.size + 1 + 1, 0, none⟩) (Nat.le_refl _) (Nat.lt_succ_self _) _).set (p := ⟨w.heap.size + 1 + 1, 1, none⟩) (Nat.le_refl _) (Nat.lt_succ_self _) _)
  replace HX3 : Kept (w.heap.size + 1 + 1) (w.heap.size + 1 + 1 + 1) (BoxK (w.heap.size + 1 + 1) 191 #[.bool x0, .int .i64 x1, .bool false, .int .i64 0, .int .i64 0]) U3 := by rw [hU3]; exact Kept.box ((HX3.bx.puts 0 (.bool x0) (cs' := #[.bool x0, .int .i64 0, .bool false, .int .i64 0, .int .i64 0]) rfl).puts 1 (.int .i64 x1) (cs' := #[.bool x0, .int .i64 x1, .bool false, .int .i64 0, .int .i64 0]) rfl)
  replace HX1 := HX1.only ho (by have := Z1.out; have := Z2.out; omega)
  replace HX2 := HX2.only ho (by have := Z1.out; have := Z2.out; omega)
  replace HB := Lib.hid (Below.only HB.out ho (by have := Z1.out; have := Z2.out; omega) HB.out.size)
  have Z3 : Hid (U3.heap.size = w2.heap.size) := Lib.hid (by rw [hU3]; simp [World.setCell]); clear ho
  clear hU3
  refine (toNode_any x2 x3 _).mono ?_
  rintro e w4 ⟨rfl, hb⟩
  have Z4 := Lib.hid hb.size
  replace HX1 := HX1.below hb
  replace HX2 := HX2.below hb
  replace HX3 := HX3.below hb
  replace HB := Lib.hid (below_step HB.out hb)
  clear hb
  have c3_0 := HX1.look 4
  have c3_1 := HX2.look 0
  have c3_2 := HX2.look 1
  have c3_3 := HX2.look 2
  have c3_4 := HX2.look 3
  have c3_5 := HX2.look 4
  have c3_6 := HX3.look 0
  have c3_7 := HX3.look 1
  have c3_8 := HX3.look 2
  have c3_9 := HX3.look 3
  have c3_10 := HX3.look 4
  have f3_0 := HX2.free 0
  have f3_1 := HX2.free 1
  have f3_2 := HX2.free 2
  have f3_3 := HX2.free 3
  have f3_4 := HX2.free 4
  have f3_5 := HX3.free 2
  have f3_6 := HX3.free 3
  have f3_7 := HX3.free 4
  have l3_0 := HX1.bx.lt
  have l3_1 := HX2.bx.lt
  have l3_2 := HX3.bx.lt
  have n3_0_0 : ¬ (w.heap.size + 1) = w.heap.size := (by have := Z1.out; have := Z2.out; have := Z3.out; have := Z4.out; omega)
  have m3_0_0 : ¬ w.heap.size = (w.heap.size + 1) := (by have := Z1.out; have := Z2.out; have := Z3.out; have := Z4.out; omega)
  have n3_0_2 : ¬ (w.heap.size + 1) = (w.heap.size + 1 + 1) := (by have := Z1.out; have := Z2.out; have := Z3.out; have := Z4.out; omega)
  have m3_0_2 : ¬ (w.heap.size + 1 + 1) = (w.heap.size + 1) := (by have := Z1.out; have := Z2.out; have := Z3.out; have := Z4.out; omega)
  have n3_1_0 : ¬ (w.heap.size + 1 + 1) = w.heap.size := (by have := Z1.out; have := Z2.out; have := Z3.out; have := Z4.out; omega)
  have m3_1_0 : ¬ w.heap.size = (w.heap.size + 1 + 1) := (by have := Z1.out; have := Z2.out; have := Z3.out; have := Z4.out; omega)
  go_wp2
  clear c3_0 c3_1 c3_2 c3_3 c3_4 c3_5 c3_6 c3_7 c3_8 c3_9 c3_10 f3_0 f3_1 f3_2 f3_3 f3_4 f3_5 f3_6 f3_7 l3_0 l3_1 l3_2 n3_0_0 m3_0_0 n3_0_2 m3_0_2 n3_1_0 m3_1_0
  obtain ⟨U5, hU5⟩ : ∃ W : World, W = (((w4.setCell ⟨w.heap.size + 1 + 1, 2, none⟩ (.bool x2)).setCell ⟨w.heap.size + 1 + 1, 3, none⟩ (.int .i64 x3)).setCell ⟨w.heap.size + 1 + 1, 4, none⟩ (.int .i64 x4)) := ⟨_, rfl⟩
  have ho : Only (w.heap.size + 1 + 1) (w.heap.size + 1 + 1 + 1) w4 U5 := by rw [hU5]; exact ((((Only.refl _ _ _).set (p := ⟨w.heap.size + 1 + 1, 2, none⟩) (Nat.le_refl _) (Nat.lt_succ_self _) _).set (p := ⟨w.heap.size + 1 + 1, 3, none⟩) (Nat.le_refl _) (Nat.lt_succ_self _) _).set (p := ⟨w.heap.size + 1 + 1, 4, none⟩) (Nat.le_refl _) (Nat.lt_succ_self _) _)
  replace HX3 : Kept (w.heap.size + 1 + 1) (w.heap.size + 1 + 1 + 1) (BoxK (w.heap.size + 1 + 1) 191 #[.bool x0, .int .i64 x1, .bool x2, .int .i64 x3, .int .i64 x4]) U5 := by rw [hU5]; exact Kept.box (((HX3.bx.puts 2 (.bool x2) (cs' := #[.bool x0, .int .i64 x1, .bool x2, .int .i64 0, .int .i64 0]) rfl).puts 3 (.int .i64 x3) (cs' := #[.bool x0, .int .i64 x1, .bool x2, .int .i64 x3, .int .i64 0]) rfl).puts 4 (.int .i64 x4) (cs' := #[.bool x0, .int .i64 x1, .bool x2, .int .i64 x3, .int .i64 x4]) rfl)
  replace HX1 := HX1.only ho (by have := Z1.out; have := Z2.out; have := Z3.out; have := Z4.out; omega)
  replace HX2 := HX2.only ho (by have := Z1.out; have := Z2.out; have := Z3.out; have := Z4.out; omega)
  replace HB := Lib.hid (Below.only HB.out ho (by have := Z1.out; have := Z2.out; have := Z3.out; have := Z4.out; omega) HB.out.size)
  have Z5 : Hid (U5.heap.size = w4.heap.size) := Lib.hid (by rw [hU5]; simp [World.setCell]); clear ho
  obtain ⟨U6, hU6⟩ : ∃ W : World, W = (((((U5.setCell ⟨w.heap.size + 1, 0, none⟩ (.bool x0)).setCell ⟨w.heap.size + 1, 1, none⟩ (.int .i64 x1)).setCell ⟨w.heap.size + 1, 2, none⟩ (.bool x2)).setCell ⟨w.heap.size + 1, 3, none⟩ (.int .i64 x3)).setCell ⟨w.heap.size + 1, 4, none⟩ (.int .i64 x4)) := ⟨_, rfl⟩
  have ho : Only (w.heap.size + 1) (w.heap.size + 1 + 1) U5 U6 := by rw [hU6]; exact ((((((Only.refl _ _ _).set (p := ⟨w.heap.size + 1, 0, none⟩) (Nat.le_refl _) (Nat.lt_succ_self _) _).set (p := ⟨w.heap.size + 1, 1, none⟩) (Nat.le_refl _) (Nat.lt_succ_self _) _).set (p := ⟨w.heap.size + 1, 2, none⟩) (Nat.le_refl _) (Nat.lt_succ_self _) _).set (p := ⟨w.heap.size + 1, 3, none⟩) (Nat.le_refl _) (Nat.lt_succ_self _) _).set (p := ⟨w.heap.size + 1, 4, none⟩) (Nat.le_refl _) (Nat.lt_succ_self _) _)
  replace HX2 : Kept (w.heap.size + 1) (w.heap.size + 1 + 1) (BoxK (w.heap.size + 1) 191 #[.bool x0, .int .i64 x1, .bool x2, .int .i64 x3, .int .i64 x4]) U6 := by rw [hU6]; exact Kept.box (((((HX2.bx.puts 0 (.bool x0) (cs' := #[.bool x0, .int .i64 0, .bool false, .int .i64 0, .int .i64 0]) rfl).puts 1 (.int .i64 x1) (cs' := #[.bool x0, .int .i64 x1, .bool false, .int .i64 0, .int .i64 0]) rfl).puts 2 (.bool x2) (cs' := #[.bool x0, .int .i64 x1, .bool x2, .int .i64 0, .int .i64 0]) rfl).puts 3 (.int .i64 x3) (cs' := #[.bool x0, .int .i64 x1, .bool x2, .int .i64 x3, .int .i64 0]) rfl).puts 4 (.int .i64 x4) (cs' := #[.bool x0, .int .i64 x1, .bool x2, .int .i64 x3, .int .i64 x4]) rfl)
  replace HX1 := HX1.only ho (by have := Z1.out; have := Z2.out; have := Z3.out; have := Z4.out; have := Z5.out; omega)
  replace HX3 := HX3.only ho (by have := Z1.out; have := Z2.out; have := Z3.out; have := Z4.out; have := Z5.out; omega)
  replace HB := Lib.hid (Below.only HB.out ho (by have := Z1.out; have := Z2.out; have := Z3.out; have := Z4.out; have := Z5.out; omega) HB.out.size)
  have Z6 : Hid (U6.heap.size = U5.heap.size) := Lib.hid (by rw [hU6]; simp [World.setCell]); clear ho
  have q_0 := HX2.look 0
  have q_1 := HX2.look 1
  have q_2 := HX2.look 2
  have q_3 := HX2.look 3
  have q_4 := HX2.look 4
  subst hU6 hU5
  exact bodyPost_ret (v := .agg #[.bool x0, .int .i64 x1, .bool x2, .int .i64 x3, .int .i64 x4]) (by simp [results, Try.results146, go_sem, q_0, q_1, q_2, q_3, q_4]) rfl ⟨rfl, HB.out⟩

set_option maxRecDepth 100000 in
set_option maxHeartbeats 1600000 in
theorem toEdgeS_any (q : Bool) (lo hi : Nat) (A : Option Addr) (n c : Nat) (ys : List Eg) (w : World) (ha : Rep.edge.Sl q lo hi w A n ys) (hh : hi ≤ w.heap.size) (hn : n ≤ 1048576) :
    Calls Try.prog 71 #[.slice A n c] w fun e w' => e = .returned (.slice (some ⟨w.heap.size, 0, none⟩) n n) ∧
      Rep.edge.Sl true w.heap.size (w.heap.size + 1) w' (some ⟨w.heap.size, 0, none⟩) n ys ∧ w.heap.size < w'.heap.size ∧ Below w.heap.size w w' := by
  obtain ⟨i0, hi0, hz0, hz1, hz2⟩ := info_parts edgeInfo
  go_enter Try.func71, Try.ntmps71
  go_wp2_with (at_make; refine wpList_make_full _ rfl _ _ 82 rfl w.heap.size 191 i0 _ 5 Try.underlying82 hi0 hz0 hz1 .i64 .i64 _ _ n rfl rfl rfl rfl (by rw [hz2]; omega) (by unfold maxLen; omega) (Nat.le_refl _) ?_; intro w1 hown1 hg1)
  have hb1 := below_of_grown hg1
  clear hg1 hi0 hz0 hz1 hz2
  obtain ⟨B, HB⟩ : ∃ B, Hid (B = w.heap.size) := ⟨_, Lib.hid rfl⟩
  rw [← HB.out] at hown1 hb1 ⊢
  go_loopw [4] (fun i wr => ∃ k : Nat, k ≤ n ∧ i = .int .i64 k ∧ ∃ xs : List Value, wr.ownsRow B 191 5 (.slice (some ⟨B, 0, none⟩) n n) n xs ∧ Below B w wr ∧
      Hid (∀ j a, j < k → ys[j]? = some a → xs[j * 5]? = some (.bool a.frm.net) ∧ xs[j * 5 + 1]? = some (.int .i64 a.frm.id) ∧ xs[j * 5 + 2]? = some (.bool a.dst.net) ∧ xs[j * 5 + 3]? = some (.int .i64 a.dst.id) ∧ xs[j * 5 + 4]? = some (.int .i64 a.cost)))
    (fun i _ => n - (intOf i).toNat)
  case atStart => exact ⟨0, Nat.zero_le _, rfl, _, hown1, hb1, fun j a hj => absurd hj (by omega)⟩
  case round =>
    obtain ⟨k, hk, rfl, xs, hown, hbw, HS⟩ := hrel
    by_cases hlt : k < n
    · obtain ⟨b, o, a, rfl, hya, ca0, ca1, ca2, ca3, ca4⟩ := Rep.edge_at (ha.below (by rw [← HB.out]; exact hbw) hh) hlt
      have hlt' : (k : Int) < n := by omega
      have HYA := Lib.hid hya
      clear hya
      go_wp2_with fail
      refine (toEdge_any _ _ _ _ _ _).mono ?_
      rintro e w2 ⟨rfl, hb2⟩
      have hown2 : w2.ownsRow B 191 5 (.slice (some ⟨B, 0, none⟩) n n) n xs := World.ownsRow.kept hown (grownBy_of_below hb2 none) (by simp [Value.ownBlock])
      have hbw2 : Below B w w2 := hbw.trans (hb2.mono (Nat.le_of_lt (World.ownsRow.lt hown B rfl).2))
      have hl : xs.length = n * 5 := hown2.1
      have h4 : k * 5 + 4 < n * 5 := by omega
      obtain ⟨v0, d0⟩ := own_some hown2 (j := k * 5) (by omega)
      obtain ⟨v1, d1⟩ := own_some hown2 (j := k * 5 + 1) (by omega)
      obtain ⟨v2, d2⟩ := own_some hown2 (j := k * 5 + 2) (by omega)
      obtain ⟨v3, d3⟩ := own_some hown2 (j := k * 5 + 3) (by omega)
      obtain ⟨v4, d4⟩ := own_some hown2 (j := k * 5 + 4) (by omega)
      have f0 := World.ownsRow.frozenAt hown2 (k * 5)
      have f1 := World.ownsRow.frozenAt hown2 (k * 5 + 1)
      have f2 := World.ownsRow.frozenAt hown2 (k * 5 + 2)
      have f3 := World.ownsRow.frozenAt hown2 (k * 5 + 3)
      have f4 := World.ownsRow.frozenAt hown2 (k * 5 + 4)
      obtain ⟨s1, _⟩ := World.ownsRow.stored hown2 (k * 5) (.bool a.frm.net)
      obtain ⟨s2, _⟩ := World.ownsRow.stored s1 (k * 5 + 1) (.int .i64 a.frm.id)
      obtain ⟨s3, _⟩ := World.ownsRow.stored s2 (k * 5 + 2) (.bool a.dst.net)
      obtain ⟨s4, _⟩ := World.ownsRow.stored s3 (k * 5 + 3) (.int .i64 a.dst.id)
      obtain ⟨s5, _⟩ := World.ownsRow.stored s4 (k * 5 + 4) (.int .i64 a.cost)
      have HO := Lib.hid s5
      have HL := Lib.hid hl
      have HBW := Lib.hid hbw2
      clear s1 s2 s3 s4 s5 hl hbw2 hown hown2 hbw hb2
      go_wp2
      go_roundw
      case rel =>
        refine ⟨k + 1, by omega, by go_num, _, HO.out, (((((HBW.out.setCell (Nat.le_refl _) _).setCell (Nat.le_refl _) _).setCell (Nat.le_refl _) _).setCell (Nat.le_refl _) _).setCell (Nat.le_refl _) _), fun j x hj hx => ?_⟩
        have hl := HL.out
        by_cases e : j = k
        · subst e
          have hax : x = a := by have := HYA.out; rw [hx] at this; injection this
          subst hax
          refine ⟨?_, ?_, ?_, ?_, ?_⟩ <;> simp only [List.getElem?_set, List.length_set]
          · rw [if_neg (by omega), if_neg (by omega), if_neg (by omega), if_neg (by omega), if_pos trivial, if_pos (by omega)]
          · rw [if_neg (by omega), if_neg (by omega), if_neg (by omega), if_pos trivial, if_pos (by omega)]
          · rw [if_neg (by omega), if_neg (by omega), if_pos trivial, if_pos (by omega)]
          · rw [if_neg (by omega), if_pos trivial, if_pos (by omega)]
          · rw [if_pos trivial, if_pos (by omega)]
        · obtain ⟨e0, e1, e2, e3, e4⟩ := HS.out j x (by omega) hx
          refine ⟨?_, ?_, ?_, ?_, ?_⟩ <;> simp only [List.getElem?_set, List.length_set]
          · rw [if_neg (by omega), if_neg (by omega), if_neg (by omega), if_neg (by omega), if_neg (by omega)]; exact e0
          · rw [if_neg (by omega), if_neg (by omega), if_neg (by omega), if_neg (by omega), if_neg (by omega)]; exact e1
          · rw [if_neg (by omega), if_neg (by omega), if_neg (by omega), if_neg (by omega), if_neg (by omega)]; exact e2
          · rw [if_neg (by omega), if_neg (by omega), if_neg (by omega), if_neg (by omega), if_neg (by omega)]; exact e3
          · rw [if_neg (by omega), if_neg (by omega), if_neg (by omega), if_neg (by omega), if_neg (by omega)]; exact e4
      case measure => simp [intOf]; omega
    · have HO := Lib.hid hown
      have hlen := ha.1
      clear hown
      go_wp2
      go_ret
      obtain rfl := HB.out
      have hlt2 : w.heap.size < wr.heap.size := (World.ownsRow.lt HO.out w.heap.size rfl).2
      refine ⟨rfl, ⟨hlen, fun _ => ⟨w.heap.size, 0, rfl, Nat.le_refl _, by omega, fun _ i => World.ownsRow.frozenAt HO.out i, fun i a hi' => ?_⟩⟩, hlt2, hbw⟩
      have hin : i < n := by
        rcases Nat.lt_or_ge i ys.length with h' | h'
        · omega
        · rw [List.getElem?_eq_none h'] at hi'; cases hi'
      obtain ⟨e0, e1, e2, e3, e4⟩ := HS.out i a (by omega) hi'
      refine ⟨[.bool a.frm.net, .int .i64 a.frm.id, .bool a.dst.net, .int .i64 a.dst.id, .int .i64 a.cost], rfl, fun j u hj => ?_⟩
      have hj4 : j < 5 := by
        rcases Nat.lt_or_ge j 5 with h' | h'
        · exact h'
        · rw [List.getElem?_eq_none (by simpa using h')] at hj; cases hj
      have hc := World.ownsRow.cellAt HO.out (i * 5 + j) (by omega)
      show wr.cell? ⟨w.heap.size, 0 + i * 5 + j, none⟩ = some u
      rw [Nat.zero_add, hc, ← hj]
      rcases (show j = 0 ∨ j = 1 ∨ j = 2 ∨ j = 3 ∨ j = 4 by omega) with rfl | rfl | rfl | rfl | rfl
      · exact e0
      · exact e1
      · exact e2
      · exact e3
      · exact e4

set_option maxRecDepth 100000 in
set_option maxHeartbeats 1600000 in
theorem eqEdge_yes (x0 : Bool) (x1 : Int) (x2 : Bool) (x3 : Int) (x4 : Int) (w : World) :
    Calls Try.prog 151 #[.agg #[.bool x0, .int .i64 x1, .bool x2, .int .i64 x3, .int .i64 x4], .agg #[.bool x0, .int .i64 x1, .bool x2, .int .i64 x3, .int .i64 x4]] w fun e w' => e = .returned (.bool true) ∧ Below w.heap.size w w' := by
  have HB := Lib.hid (Below.refl w.heap.size w)
  go_enter Try.func151, Try.ntmps151
  go_wp2_with fail
  refine Calls.name ?_
  intro U1 hU1
  have hb : Below w.heap.size w U1 := by rw [hU1]; exact (((Below.refl _ _).alloc (Nat.le_refl _) _).alloc (by simp <;> omega) _)
  have zz : Hid (w.heap.size + 2 = U1.heap.size) := Lib.hid (by rw [hU1]; simp)
  have HX1 : Kept w.heap.size (w.heap.size + 1) (BoxK w.heap.size 191 #[.bool x0, .int .i64 x1, .bool x2, .int .i64 x3, .int .i64 x4]) U1 := by rw [hU1]; exact Kept.box ((Box.made_at _ _ _ rfl).over _)
  have HX2 : Kept (w.heap.size + 1) (w.heap.size + 1 + 1) (BoxK (w.heap.size + 1) 191 #[.bool x0, .int .i64 x1, .bool x2, .int .i64 x3, .int .i64 x4]) U1 := by rw [hU1]; exact Kept.box (Box.made_at _ _ _ (by simp <;> omega))
  replace HB := Lib.hid (below_step HB.out hb)
  clear hb
  have Z1 := zz; clear zz
  clear hU1
  refine (eqNode_yes x0 x1 _).mono ?_
  rintro e w2 ⟨rfl, hb⟩
  have Z2 := Lib.hid hb.size
  replace HX1 := HX1.below hb
  replace HX2 := HX2.below hb
  replace HB := Lib.hid (below_step HB.out hb)
  clear hb
  have c2_0 := HX1.look 2
  have c2_1 := HX1.look 3
  have c2_2 := HX2.look 2
  have c2_3 := HX2.look 3
  have l2_0 := HX1.bx.lt
  have l2_1 := HX2.bx.lt
  go_wp2_with fail
  clear c2_0 c2_1 c2_2 c2_3 l2_0 l2_1
  refine (eqNode_yes x2 x3 _).mono ?_
  rintro e w3 ⟨rfl, hb⟩
  have Z3 := Lib.hid hb.size
  replace HX1 := HX1.below hb
  replace HX2 := HX2.below hb
  replace HB := Lib.hid (below_step HB.out hb)
  clear hb
  have c3_0 := HX1.look 4
  have c3_1 := HX2.look 4
  have l3_0 := HX1.bx.lt
  have l3_1 := HX2.bx.lt
  go_wp2
  clear c3_0 c3_1 l3_0 l3_1
  go_ret
  exact ⟨rfl, HB.out⟩

set_option maxRecDepth 100000 in
set_option maxHeartbeats 3200000 in
theorem eqEdgeS_yes (q1 q2 : Bool) (l1 h1 l2 h2 : Nat) (A B : Option Addr) (n c d : Nat) (ys : List Eg) (w : World) (ha : Rep.edge.Sl q1 l1 h1 w A n ys) (hb : Rep.edge.Sl q2 l2 h2 w B n ys) (hh1 : h1 ≤ w.heap.size) (hh2 : h2 ≤ w.heap.size) (hn : n ≤ 1048576) :
    Calls Try.prog 75 #[.slice A n c, .slice B n d] w fun e w' => e = .returned (.bool true) ∧ Below w.heap.size w w' := by
  go_enter Try.func75, Try.ntmps75
  go_wp2
  go_loopw [5] (fun i wr => ∃ k : Nat, k ≤ n ∧ i = .int .i64 k ∧ Hid (Below w.heap.size w wr)) (fun i _ => n - (intOf i).toNat)
  case atStart => exact ⟨0, Nat.zero_le _, rfl, Below.refl _ _⟩
  case round =>
    obtain ⟨k, hk, rfl, HB⟩ := hrel
    by_cases hlt : k < n
    · obtain ⟨b, o, a, rfl, hya, a0, a1, a2, a3, a4⟩ := Rep.edge_at (ha.below HB.out hh1) hlt
      obtain ⟨b', o', a', rfl, hya', b0, b1, b2, b3, b4⟩ := Rep.edge_at (hb.below HB.out hh2) hlt
      obtain rfl : a' = a := by rw [hya] at hya'; injection hya' with e; exact e.symm
      have hlt' : (k : Int) < n := by omega
      clear hya hya'
      have SB : Hid (∀ W, Hid (Below wr.heap.size wr W) → (fun W => W.cell? ⟨b, o + k * 5, none⟩ = some (.bool a'.frm.net) ∧ W.cell? ⟨b, o + k * 5 + 1, none⟩ = some (.int .i64 a'.frm.id) ∧ W.cell? ⟨b, o + k * 5 + 2, none⟩ = some (.bool a'.dst.net) ∧ W.cell? ⟨b, o + k * 5 + 3, none⟩ = some (.int .i64 a'.dst.id) ∧ W.cell? ⟨b, o + k * 5 + 4, none⟩ = some (.int .i64 a'.cost) ∧ W.cell? ⟨b', o' + k * 5, none⟩ = some (.bool a'.frm.net) ∧ W.cell? ⟨b', o' + k * 5 + 1, none⟩ = some (.int .i64 a'.frm.id) ∧ W.cell? ⟨b', o' + k * 5 + 2, none⟩ = some (.bool a'.dst.net) ∧ W.cell? ⟨b', o' + k * 5 + 3, none⟩ = some (.int .i64 a'.dst.id) ∧ W.cell? ⟨b', o' + k * 5 + 4, none⟩ = some (.int .i64 a'.cost)) W) := fun W h => ⟨(h.out.cell (World.block_lt_of_cell? wr _ a0)).trans a0, (h.out.cell (World.block_lt_of_cell? wr _ a1)).trans a1, (h.out.cell (World.block_lt_of_cell? wr _ a2)).trans a2, (h.out.cell (World.block_lt_of_cell? wr _ a3)).trans a3, (h.out.cell (World.block_lt_of_cell? wr _ a4)).trans a4, (h.out.cell (World.block_lt_of_cell? wr _ b0)).trans b0, (h.out.cell (World.block_lt_of_cell? wr _ b1)).trans b1, (h.out.cell (World.block_lt_of_cell? wr _ b2)).trans b2, (h.out.cell (World.block_lt_of_cell? wr _ b3)).trans b3, (h.out.cell (World.block_lt_of_cell? wr _ b4)).trans b4⟩
      have V0 : Hid (Below wr.heap.size wr wr.drew) := (Below.refl _ _).drew
      clear a0 a1 a2 a3 a4 b0 b1 b2 b3 b4
      go_wp2
      go_region_held3 (fun W => W.cell? ⟨b, o + k * 5, none⟩ = some (.bool a'.frm.net) ∧ W.cell? ⟨b, o + k * 5 + 1, none⟩ = some (.int .i64 a'.frm.id) ∧ W.cell? ⟨b, o + k * 5 + 2, none⟩ = some (.bool a'.dst.net) ∧ W.cell? ⟨b, o + k * 5 + 3, none⟩ = some (.int .i64 a'.dst.id) ∧ W.cell? ⟨b, o + k * 5 + 4, none⟩ = some (.int .i64 a'.cost) ∧ W.cell? ⟨b', o' + k * 5, none⟩ = some (.bool a'.frm.net) ∧ W.cell? ⟨b', o' + k * 5 + 1, none⟩ = some (.int .i64 a'.frm.id) ∧ W.cell? ⟨b', o' + k * 5 + 2, none⟩ = some (.bool a'.dst.net) ∧ W.cell? ⟨b', o' + k * 5 + 3, none⟩ = some (.int .i64 a'.dst.id) ∧ W.cell? ⟨b', o' + k * 5 + 4, none⟩ = some (.int .i64 a'.cost)) (exact SB.out _ (by assumption))
        (first | (go_at_call 151; refine (eqEdge_yes _ _ _ _ _ _).mono ?_; rintro e u ⟨rfl, hbu⟩; have U0 := Lib.hid (below_step V0.out hbu); clear hbu))
      have HU := Lib.hid (below_step HB.out U0.out)
      clear SB V0 U0 HB
      go_wp2
      go_roundw
      case rel => exact ⟨k + 1, by omega, by go_num, HU⟩
      case measure => simp [intOf]; omega
    · go_wp2
      go_ret
      exact ⟨rfl, HB.out⟩

theorem szEdgeS_any (A : Option Addr) (n c : Nat) (left : Int) (w : World) (h0 : 0 ≤ left) (h1 : left ≤ 1048576) (hn : n ≤ maxLen) :
    Calls Try.prog 68 #[.slice A n c, .int .i64 left] w fun e w' => e = .returned (.int .i64 (if left - n < 0 then -1 else left - n)) ∧ w' = w := by
  unfold maxLen at hn
  by_cases h : left - n < 0
  · rw [if_pos h]
    go_enter Try.func68, Try.ntmps68
    go_wp2
    go_ret
    exact ⟨rfl, rfl⟩
  · rw [if_neg h]
    go_enter Try.func68, Try.ntmps68
    go_wp2
    go_ret
    exact ⟨rfl, rfl⟩

theorem Rep.edge_room {lo hi : Nat} {w : World} {A : Option Addr} {n : Nat} {ys : List Eg} (h : Rep.edge.Sl true lo hi w A n ys) (hn : 0 < n) : ∃ b o, A = some ⟨b, o, none⟩ ∧ lo ≤ b ∧ b < hi ∧ Room w b o (5 * n) := by
  obtain ⟨b, o, e, h1, h2, hf, _⟩ := h.2 hn
  refine ⟨b, o, e, h1, h2, fun j hj => ?_, hf rfl⟩
  obtain ⟨b', o', a, e', _, c0, c1, c2, c3, c4⟩ := Rep.edge_at h (k := j / 5) (by omega)
  rw [e] at e'; injection e' with e'; injection e' with e1 e2 _
  subst e1 e2
  rcases (show j % 5 = 0 ∨ j % 5 = 1 ∨ j % 5 = 2 ∨ j % 5 = 3 ∨ j % 5 = 4 by omega) with hm | hm | hm | hm | hm
  · exact ⟨_, by rw [show o + j = o + j / 5 * 5 by omega]; exact c0⟩
  · exact ⟨_, by rw [show o + j = o + j / 5 * 5 + 1 by omega]; exact c1⟩
  · exact ⟨_, by rw [show o + j = o + j / 5 * 5 + 2 by omega]; exact c2⟩
  · exact ⟨_, by rw [show o + j = o + j / 5 * 5 + 3 by omega]; exact c3⟩
  · exact ⟨_, by rw [show o + j = o + j / 5 * 5 + 4 by omega]; exact c4⟩

/-- What the marks write, cell by cell. -/
def edgemark (k0 : Int) (j : Nat) : Value := if j % 5 = 0 ∨ j % 5 = 2 then .bool ((k0 + (j : Int)) % 3 == 0) else .int .i64 (k0 + (j : Int))
theorem edgemark_at (k0 : Int) (k j : Nat) (hj : j < 5) : edgemark k0 (k * 5 + j) = [.bool ((k0 + 5 * (k : Int)) % 3 == 0), .int .i64 (k0 + 5 * (k : Int) + 1), .bool ((k0 + 5 * (k : Int) + 2) % 3 == 0), .int .i64 (k0 + 5 * (k : Int) + 3), .int .i64 (k0 + 5 * (k : Int) + 4)].getD j undef := by
  have hm : (k * 5 + j) % 5 = j := by omega
  have hi : k0 + ((k * 5 + j : Nat) : Int) = k0 + 5 * (k : Int) + j := by omega
  unfold edgemark
  rw [hm, hi]
  rcases (show j = 0 ∨ j = 1 ∨ j = 2 ∨ j = 3 ∨ j = 4 by omega) with rfl | rfl | rfl | rfl | rfl <;> simp
def mEdges (k0 : Int) (n : Nat) : List Eg := (List.range n).map fun (i : Nat) => ⟨⟨((k0 + 5 * (i : Int)) % 3 == 0), k0 + 5 * (i : Int) + 1⟩, ⟨((k0 + 5 * (i : Int) + 2) % 3 == 0), k0 + 5 * (i : Int) + 3⟩, k0 + 5 * (i : Int) + 4⟩
theorem mEdges_len (k0 : Int) (n : Nat) : (mEdges k0 n).length = n := by simp [mEdges]
theorem mEdges_at (k0 : Int) (n k : Nat) (h : k < n) : (mEdges k0 n)[k]? = some ⟨⟨((k0 + 5 * (k : Int)) % 3 == 0), k0 + 5 * (k : Int) + 1⟩, ⟨((k0 + 5 * (k : Int) + 2) % 3 == 0), k0 + 5 * (k : Int) + 3⟩, k0 + 5 * (k : Int) + 4⟩ := by simp [mEdges, h]
theorem edge_of_marks {q : Bool} {lo hi : Nat} {w : World} {b o : Nat} {k0 : Int} {n : Nat} (h : Marks w b o (edgemark k0) (5 * n)) (hR : Room w b o (5 * n)) (h1 : lo ≤ b) (h2 : b < hi) : Rep.edge.Sl q lo hi w (some ⟨b, o, none⟩) n (mEdges k0 n) :=
  ⟨mEdges_len _ _, fun _ => ⟨b, o, rfl, h1, h2, fun _ => hR.2, fun i a ha => by
    have hi' : i < n := by
      rcases Nat.lt_or_ge i (mEdges k0 n).length with h' | h'
      · rwa [mEdges_len] at h'
      · rw [List.getElem?_eq_none h'] at ha; cases ha
    rw [mEdges_at _ _ _ hi'] at ha
    injection ha with ha
    subst ha
    refine ⟨_, rfl, fun j u hj => ?_⟩
    have hj3 : j < 5 := by
      rcases Nat.lt_or_ge j 5 with h' | h'
      · exact h'
      · rw [List.getElem?_eq_none (by simpa using h')] at hj; cases hj
    have := h (i * 5 + j) (by omega)
    show w.cell? ⟨b, o + i * 5 + j, none⟩ = some u
    rw [Nat.add_assoc, this, ← hj, edgemark_at k0 i j hj3]
    rcases (show j = 0 ∨ j = 1 ∨ j = 2 ∨ j = 3 ∨ j = 4 by omega) with rfl | rfl | rfl | rfl | rfl <;> rfl⟩⟩

set_option maxRecDepth 100000 in
set_option maxHeartbeats 3200000 in
theorem markEdgeS_any (lo hi : Nat) (A : Option Addr) (n c : Nat) (ys : List Eg) (k0 : Int) (w : World) (ha : Rep.edge.Sl true lo hi w A n ys) (hn : n ≤ 1048576) (h0 : 0 ≤ k0) (h1 : k0 ≤ 4294967296) :
    Calls Try.prog 138 #[.slice A n c, .int .i64 k0] w fun e w' => e = .returned (.int .i64 (k0 + 5 * n)) ∧ Rep.edge.Sl true lo hi w' A n (mEdges k0 n) ∧ Only lo hi w w' := by
  by_cases hz : n = 0
  · subst hz
    go_enter Try.func138, Try.ntmps138
    go_wp2
    go_loop [1, 5] (fun q i => i = .int .i64 0 ∧ q = .int .i64 k0) (fun _ _ => 0)
    case atStart => exact ⟨rfl, rfl⟩
    case round =>
      obtain ⟨rfl, rfl⟩ := hrel
      go_wp2
      go_ret
      exact ⟨by simp, Rep.Sl_nil _ _ _ _ _ _, Only.refl _ _ _⟩
  · obtain ⟨b, o, rfl, hb1, hb2, hR⟩ := Rep.edge_room ha (by omega)
    have HR0 := Lib.hid hR
    have HN : Hid (0 < n) := Lib.hid (by omega)
    clear ha hR hz
    go_enter Try.func138, Try.ntmps138
    go_wp2
    go_loopw [1, 5] (fun q i wr => ∃ k : Nat, k ≤ n ∧ i = .int .i64 k ∧ q = .int .i64 (k0 + 5 * k) ∧ Hid (Room wr b o (5 * n)) ∧ Hid (Marks wr b o (edgemark k0) (5 * k)) ∧ Hid (Only lo hi w wr)) (fun _ i _ => n - (intOf i).toNat)
    case atStart => exact ⟨0, Nat.zero_le _, rfl, by simp, HR0, Lib.hid (fun j hj => absurd hj (by omega)), Lib.hid (Only.refl _ _ _)⟩
    case round =>
      obtain ⟨k, hk, rfl, rfl, HR, HC, HO⟩ := hrel
      by_cases hlt : k < n
      · have hlt' : (k : Int) < n := by omega
        have e0 : o + 5 * k = o + k * 5 := by omega
        have e1 : o + (5 * k + 1) = o + k * 5 + 1 := by omega
        have e2 : o + (5 * k + 1 + 1) = o + k * 5 + 2 := by omega
        have e3 : o + (5 * k + 1 + 1 + 1) = o + k * 5 + 2 + 1 := by omega
        have e4 : o + (5 * k + 1 + 1 + 1 + 1) = o + k * 5 + 4 := by omega
        obtain ⟨v0, d0⟩ := HR.out.1 (5 * k) (by omega)
        rw [e0] at d0
        obtain ⟨v1, d1⟩ := HR.out.1 (5 * k + 1) (by omega)
        rw [e1] at d1
        obtain ⟨v2, d2⟩ := HR.out.1 (5 * k + 1 + 1) (by omega)
        rw [e2] at d2
        obtain ⟨v3, d3⟩ := HR.out.1 (5 * k + 1 + 1 + 1) (by omega)
        rw [e3] at d3
        obtain ⟨v4, d4⟩ := HR.out.1 (5 * k + 1 + 1 + 1 + 1) (by omega)
        rw [e4] at d4
        have f0 := HR.out.2 (o + k * 5)
        have f1 := HR.out.2 (o + k * 5 + 1)
        have f2 := HR.out.2 (o + k * 5 + 2)
        have f3 := HR.out.2 (o + k * 5 + 2 + 1)
        have f4 := HR.out.2 (o + k * 5 + 4)
        have HR1 := Lib.hid ((((((HR.out.set ⟨b, o + k * 5, none⟩ (.bool ((k0 + 5 * (k : Int)) % 3 == 0))).set ⟨b, o + k * 5 + 1, none⟩ (.int .i64 (k0 + 5 * (k : Int) + 1))).set ⟨b, o + k * 5 + 2, none⟩ (.bool ((k0 + 5 * (k : Int) + 1 + 1) % 3 == 0))).set ⟨b, o + k * 5 + 2 + 1, none⟩ (.int .i64 (k0 + 5 * (k : Int) + 1 + 1 + 1))).set ⟨b, o + k * 5 + 4, none⟩ (.int .i64 (k0 + 5 * (k : Int) + 1 + 1 + 1 + 1))))
        have HC1 : Hid (Marks ((((((wr.setCell ⟨b, o + k * 5, none⟩ (.bool ((k0 + 5 * (k : Int)) % 3 == 0))).setCell ⟨b, o + k * 5 + 1, none⟩ (.int .i64 (k0 + 5 * (k : Int) + 1))).setCell ⟨b, o + k * 5 + 2, none⟩ (.bool ((k0 + 5 * (k : Int) + 1 + 1) % 3 == 0))).setCell ⟨b, o + k * 5 + 2 + 1, none⟩ (.int .i64 (k0 + 5 * (k : Int) + 1 + 1 + 1))).setCell ⟨b, o + k * 5 + 4, none⟩ (.int .i64 (k0 + 5 * (k : Int) + 1 + 1 + 1 + 1)))) b o (edgemark k0) (5 * (k + 1))) := Lib.hid (by
          have c0 := HC.out
          have r0 := HR.out
          have c1 := c0.next r0 (by omega) (.bool ((k0 + 5 * (k : Int)) % 3 == 0)) (by rw [show 5 * k = k * 5 + 0 by omega, edgemark_at k0 k 0 (by omega)]; rfl)
          rw [e0] at c1
          have r1 := r0.set ⟨b, o + k * 5, none⟩ (.bool ((k0 + 5 * (k : Int)) % 3 == 0))
          have c2 := c1.next r1 (by omega) (.int .i64 (k0 + 5 * (k : Int) + 1)) (by rw [show 5 * k + 1 = k * 5 + 1 by omega, edgemark_at k0 k 1 (by omega)]; rfl)
          rw [e1] at c2
          have r2 := r1.set ⟨b, o + k * 5 + 1, none⟩ (.int .i64 (k0 + 5 * (k : Int) + 1))
          have c3 := c2.next r2 (by omega) (.bool ((k0 + 5 * (k : Int) + 1 + 1) % 3 == 0)) (by rw [show 5 * k + 1 + 1 = k * 5 + 2 by omega, edgemark_at k0 k 2 (by omega), show k0 + 5 * (k : Int) + 1 + 1 = k0 + 5 * (k : Int) + 2 by omega]; rfl)
          rw [e2] at c3
          have r3 := r2.set ⟨b, o + k * 5 + 2, none⟩ (.bool ((k0 + 5 * (k : Int) + 1 + 1) % 3 == 0))
          have c4 := c3.next r3 (by omega) (.int .i64 (k0 + 5 * (k : Int) + 1 + 1 + 1)) (by rw [show 5 * k + 1 + 1 + 1 = k * 5 + 3 by omega, edgemark_at k0 k 3 (by omega), show k0 + 5 * (k : Int) + 1 + 1 + 1 = k0 + 5 * (k : Int) + 3 by omega]; rfl)
          rw [e3] at c4
          have r4 := r3.set ⟨b, o + k * 5 + 2 + 1, none⟩ (.int .i64 (k0 + 5 * (k : Int) + 1 + 1 + 1))
          have c5 := c4.next r4 (by omega) (.int .i64 (k0 + 5 * (k : Int) + 1 + 1 + 1 + 1)) (by rw [show 5 * k + 1 + 1 + 1 + 1 = k * 5 + 4 by omega, edgemark_at k0 k 4 (by omega), show k0 + 5 * (k : Int) + 1 + 1 + 1 + 1 = k0 + 5 * (k : Int) + 4 by omega]; rfl)
          rw [e4] at c5
          exact c5)
        have HO1 := Lib.hid ((((((HO.out.set (p := ⟨b, o + k * 5, none⟩) hb1 hb2 (.bool ((k0 + 5 * (k : Int)) % 3 == 0))).set (p := ⟨b, o + k * 5 + 1, none⟩) hb1 hb2 (.int .i64 (k0 + 5 * (k : Int) + 1))).set (p := ⟨b, o + k * 5 + 2, none⟩) hb1 hb2 (.bool ((k0 + 5 * (k : Int) + 1 + 1) % 3 == 0))).set (p := ⟨b, o + k * 5 + 2 + 1, none⟩) hb1 hb2 (.int .i64 (k0 + 5 * (k : Int) + 1 + 1 + 1))).set (p := ⟨b, o + k * 5 + 4, none⟩) hb1 hb2 (.int .i64 (k0 + 5 * (k : Int) + 1 + 1 + 1 + 1))))
        clear HR HC HO e0 e1 e2 e3 e4
        go_wp2
        go_roundw
        case rel => exact ⟨k + 1, by omega, by go_num, by go_num, HR1, HC1, HO1⟩
        case measure => simp [intOf]; omega
      · obtain rfl : k = n := by omega
        go_wp2
        go_ret
        exact ⟨rfl, edge_of_marks HC.out HR.out hb1 hb2, HO.out⟩

theorem markEdgeS_F (A : Option Addr) (n c : Nat) (ys : List Eg) (bs : List Nat) (k0 : Int) (w : World) (ha : Rep.edge.FSl w A n ys bs) (hn : n ≤ 1048576) (h0 : 0 ≤ k0) (h1 : k0 ≤ 4294967296) :
    Calls Try.prog 138 #[.slice A n c, .int .i64 k0] w fun e w' => e = .returned (.int .i64 (k0 + 5 * n)) ∧ Rep.edge.FSl w' A n (mEdges k0 n) bs ∧ OnlyB bs w w' := by
  rcases ha with ⟨rfl, rfl, rfl⟩ | ⟨hp, b, rfl, hs⟩
  · refine (markEdgeS_any 0 0 A 0 c [] k0 w (Rep.Sl_nil _ _ _ _ _ _) hn h0 h1).mono ?_
    rintro e w2 ⟨rfl, _, ho⟩
    exact ⟨rfl, .inl ⟨rfl, rfl, rfl⟩, OnlyB.of_same ho⟩
  · refine (markEdgeS_any b (b + 1) A n c ys k0 w hs hn h0 h1).mono ?_
    rintro e w2 ⟨rfl, h2, ho⟩
    exact ⟨rfl, .inr ⟨hp, b, rfl, h2⟩, OnlyB.of_only ho (by simp)⟩

set_option maxRecDepth 100000 in
set_option maxHeartbeats 1600000 in
theorem heldEdgeS_yes (q : Bool) (lo hi : Nat) (A : Option Addr) (n c : Nat) (k0 : Int) (w : World) (ha : Rep.edge.Sl q lo hi w A n (mEdges k0 n)) (hn : n ≤ 1048576) (h0 : 0 ≤ k0) (h1 : k0 ≤ 8388608) :
    Calls Try.prog 139 #[.slice A n c, .int .i64 k0] w fun e w' => e = .returned (.int .i64 (k0 + 5 * n)) ∧ w' = w := by
  go_enter Try.func139, Try.ntmps139
  go_wp2
  go_loop [1, 5] (fun q i => ∃ k : Nat, k ≤ n ∧ i = .int .i64 k ∧ q = .int .i64 (k0 + 5 * k)) (fun _ i => n - (intOf i).toNat)
  case atStart => exact ⟨0, Nat.zero_le _, rfl, by simp⟩
  case round =>
    obtain ⟨k, hk, rfl, rfl⟩ := hrel
    by_cases hlt : k < n
    · obtain ⟨b, o, a, rfl, hya, c0, c1, c2, c3, c4⟩ := Rep.edge_at ha hlt
      rw [mEdges_at _ _ _ hlt] at hya
      injection hya with hya
      subst hya
      simp only [] at c0 c1 c2 c3 c4
      have hlt' : (k : Int) < n := by omega
      rw [show k0 + 5 * (k : Int) + 2 = k0 + 5 * (k : Int) + 1 + 1 by omega] at c2
      rw [show k0 + 5 * (k : Int) + 3 = k0 + 5 * (k : Int) + 1 + 1 + 1 by omega] at c3
      rw [show k0 + 5 * (k : Int) + 4 = k0 + 5 * (k : Int) + 1 + 1 + 1 + 1 by omega] at c4
      go_wp2
      go_round
      case rel => exact ⟨k + 1, by omega, by go_num, by go_num⟩
      case measure => simp [intOf]; omega
    · obtain rfl : k = n := by omega
      go_wp2
      go_ret
      exact ⟨rfl, rfl⟩


end Go.Proofs.Ytooogjfnnmacjaa

namespace Go.Proofs.Ytooogjfnnmacjaa
open Go.RowKit
set_option linter.unusedVariables false

theorem OwnFK.wid {α : Type} {t : TypeId} {size : Nat} {f : α → List Value} {w : World} {lo hi lo' hi' : Nat} {A : Option Addr} {n c : Nat} {ys : List α} (h : Kept lo hi (OwnFK t size f lo hi A n c ys) w) (h1 : lo' ≤ lo) (h2 : hi ≤ hi') (h3 : hi' ≤ w.heap.size) : Kept lo' hi' (OwnFK t size f lo' hi' A n c ys) w :=
  ⟨h3, fun w2 k => by
    have hh := h.2 w2 (k.sub h1 h2)
    exact ⟨hh.1.mono h1, fun r hr => by have := hh.2 r hr; omega⟩⟩
/-- The edge that a link tells. -/
def lnkE (l : LsaM) (k : Lnk) : Eg := ⟨⟨false, l.adv⟩, ⟨k.kind == 2, k.to_⟩, k.cost⟩
/-- The edge to a router of a network. -/
def rtrE (l : LsaM) (z : Int) : Eg := ⟨⟨true, l.id⟩, ⟨false, z⟩, 0⟩
/-- The edges of an advertisement. -/
def edgesOf (l : LsaM) : List Eg := l.links.map (lnkE l) ++ l.routers.map (rtrE l)
/-- The edges of entries. -/
def edgesB (ys : List Ent) : List Eg := ys.flatMap fun e => edgesOf e.l
theorem map_snoc {α β : Type} (f : α → β) (xs : List α) (k : Nat) (a : α) (h : xs[k]? = some a) : (xs.take (k + 1)).map f = (xs.take k).map f ++ [f a] := by
  rw [List.take_add_one, h, List.map_append]; rfl
theorem flat_snocE (ys : List Ent) (k : Nat) (e : Ent) (h : ys[k]? = some e) : edgesB (ys.take (k + 1)) = edgesB (ys.take k) ++ edgesOf e.l := by
  unfold edgesB
  rw [List.take_add_one, h, List.flatMap_append]; simp
theorem edgesOf_len (l : LsaM) : (edgesOf l).length = l.links.length + l.routers.length := by simp [edgesOf]
/-- An advertisement without a fault has few links and routers, and of its own kind alone. -/
theorem fault_few {l : LsaM} (h : faultOf l = 0) : l.links.length ≤ 8 ∧ l.routers.length ≤ 8 ∧ (l.typ ≠ 1 → l.links = []) ∧ (l.typ ≠ 2 → l.routers = []) := by
  unfold faultOf at h
  by_cases h1 : formOf l.typ l.links.length l.routers.length l.mask l.cost = false
  · rw [if_pos h1] at h; exact absurd h (by decide)
  rw [if_neg h1] at h
  split at h
  · exact absurd h (by decide)
  by_cases h3 : 8 < l.links.length ∨ 8 < l.routers.length ∨ l.typ = 2 ∧ l.routers.length = 0
  · rw [if_pos h3] at h; exact absurd h (by decide)
  have hf : formOf l.typ l.links.length l.routers.length l.mask l.cost = true := by simpa using h1
  refine ⟨by omega, by omega, ?_, ?_⟩
  · intro ht
    refine List.eq_nil_of_length_eq_zero ?_
    generalize l.links.length = n at hf ⊢
    generalize l.routers.length = m at hf
    unfold formOf at hf
    rw [if_neg ht] at hf
    split at hf
    · simp at hf; exact hf.1
    · split at hf
      · simp at hf; exact hf.1
      · cases hf
  · intro ht
    refine List.eq_nil_of_length_eq_zero ?_
    generalize l.links.length = n at hf
    generalize l.routers.length = m at hf ⊢
    unfold formOf at hf
    split at hf
    · simp at hf; exact hf.1.1
    · split at hf
      · simp at hf; exact hf.2
      · cases hf
/-- What a base without a fault has. -/
theorem base_few {now : Int} {ys : List Ent} (h : faultB now ys = 0) : ys.length ≤ 40 ∧ ∀ e ∈ ys, faultOf e.l = 0 := by
  by_cases h0 : 0 ≤ now ∧ now ≤ 1000000
  rotate_left
  · rw [faultB_1 h0] at h; exact absurd h (by decide)
  by_cases h1 : 40 < ys.length
  · rw [faultB_2 h0 h1] at h; exact absurd h (by decide)
  refine ⟨by omega, ?_⟩
  by_cases h2 : firstC now ys = 0
  rotate_left
  · rw [faultB_3 h0 h1 h2] at h; exact absurd h h2
  clear h h0 h1
  induction ys with
  | nil => intro e he; cases he
  | cons y t ih =>
    unfold firstC at h2
    by_cases hy : entC now y = 0
    · rw [if_pos hy] at h2
      intro e he
      rcases List.mem_cons.1 he with rfl | he
      · unfold entC at hy
        by_cases hz : faultOf e.l = 0
        · exact hz
        · rw [if_neg hz] at hy; exact hy
      · exact ih h2 e he
    · rw [if_neg hy] at h2; exact absurd h2 hy
theorem edgesB_le {ys : List Ent} (h : ∀ e ∈ ys, faultOf e.l = 0) (k : Nat) : (edgesB (ys.take k)).length ≤ 16 * k := by
  induction k with
  | zero => simp [edgesB]
  | succ k ih =>
    rcases Nat.lt_or_ge k ys.length with hk | hk
    · rw [flat_snocE ys k ys[k] (List.getElem?_eq_getElem hk), List.length_append, edgesOf_len]
      have := fault_few (h ys[k] (List.getElem_mem hk))
      omega
    · rw [List.take_of_length_le (by omega)]
      rw [List.take_of_length_le (by omega)] at ih
      omega
/-- What EdgesIn answers. -/
noncomputable def eiR (now : Int) (ys : List Ent) : List Eg := if faultB now ys = 0 then edgesB ys else []
theorem eiR_no {now : Int} {ys : List Ent} (h : ¬ faultB now ys = 0) : eiR now ys = [] := if_neg h
theorem eiR_yes {now : Int} {ys : List Ent} (h : faultB now ys = 0) : eiR now ys = edgesB ys := if_pos h
theorem eiR_le (now : Int) (ys : List Ent) : (eiR now ys).length ≤ 640 := by
  by_cases h : faultB now ys = 0
  · rw [eiR_yes h]
    obtain ⟨h1, h2⟩ := base_few h
    have := edgesB_le h2 ys.length
    rw [List.take_of_length_le (Nat.le_refl _)] at this
    omega
  · rw [eiR_no h]; simp


end Go.Proofs.Ytooogjfnnmacjaa

namespace Go.Proofs.Ytooogjfnnmacjaa
open Go.RowKit
set_option linter.unusedVariables false

set_option maxRecDepth 100000 in
set_option maxHeartbeats 3200000 in
theorem edgesOf_any (l : LsaM) (q : Bool) (lo hi : Nat) (A B : Option Addr) (n c m d : Nat) (w : World) (hl : LsaAt q lo hi w A n B m l) (hn : n ≤ 1024) (hm : m ≤ 1024) :
    Calls Try.prog 135 #[.agg (lsaCells l A B n c m d)] w fun e w' => ∃ E j b, e = .returned (.slice E j b) ∧ Kept w.heap.size w'.heap.size (OwnFK 191 5 edgecell w.heap.size w'.heap.size E j b (edgesOf l)) w' ∧ Below w.heap.size w w' := by
  have HB := Lib.hid (Below.refl w.heap.size w)
  have HL := hl.kept
  have Z0 := Lib.hid hl.le
  clear hl
  go_enter Try.func135, Try.ntmps135
  go_wp2
  refine Code.wp_name ?_
  intro U1 hU1
  have hb : Below w.heap.size w U1 := by rw [hU1]; exact ((Below.refl _ _).alloc (Nat.le_refl _) _)
  have zz : Hid (w.heap.size + 1 = U1.heap.size) := Lib.hid (by rw [hU1]; simp)
  have HX1 : Kept w.heap.size (w.heap.size + 1) (BoxK w.heap.size 182 #[.int .i64 l.age, .int .i64 l.options, .int .i64 l.typ, .int .i64 l.id, .int .i64 l.adv, .int .i64 l.seq, .slice A n c, .slice B m d, .int .i64 l.mask, .int .i64 l.cost]) U1 := by rw [hU1]; exact Kept.box (Box.made_at _ _ _ rfl)
  replace HL := HL.below hb
  replace HB := Lib.hid (below_step HB.out hb)
  clear hb
  have Z1 := zz; clear zz
  clear hU1
  have HI0 := (OwnF.nil_ 191 5 edgecell U1 (w.heap.size + 1)).kept (hi := U1.heap.size) rfl
  go_loopw [3, 12] (fun t3 t12 wr => ∃ (k : Nat) (F : Option Addr) (b1 : Nat), k ≤ n ∧ t12 = .int .i64 k ∧ t3 = .slice F k b1 ∧ Kept (w.heap.size + 1) wr.heap.size (OwnFK 191 5 edgecell (w.heap.size + 1) wr.heap.size F k b1 ((l.links.take k).map (lnkE l))) wr ∧ Kept w.heap.size (w.heap.size + 1) (BoxK w.heap.size 182 #[.int .i64 l.age, .int .i64 l.options, .int .i64 l.typ, .int .i64 l.id, .int .i64 l.adv, .int .i64 l.seq, .slice A n c, .slice B m d, .int .i64 l.mask, .int .i64 l.cost]) wr ∧ Kept lo hi (LsaK q lo hi A n B m l) wr ∧ Hid (U1.heap.size ≤ wr.heap.size) ∧ Hid (Below w.heap.size w wr)) (fun _ t12 _ => n - (intOf t12).toNat)
  case atStart => exact ⟨0, none, 0, Nat.zero_le _, rfl, rfl, HI0, HX1, HL, Lib.hid (Nat.le_refl _), HB⟩
  case round =>
    clear HI0 HX1 HL HB
    obtain ⟨k, F, b1, hk, rfl, rfl, HI, HX1, HL, HZW, HB⟩ := hrel
    have Y99 := Lib.hid (And.intro Z1.out HZW.out); clear HZW
    by_cases hlt : k < n
    · obtain ⟨b, o, a, hA, hya, a0, a1, a2, a3⟩ := Rep.link_at HL.lsa.in_.links hlt
      subst hA
      have hlt' : (k : Int) < n := by omega
      have HYA := Lib.hid hya; clear hya
      have c2_0 := HX1.look 4
      have l2_0 := HX1.bx.lt
      go_wp2_with (first | (at_builtin; refine wpList_name ?_; intro U2 hU2; have hb : Below wr.heap.size wr U2 := (by rw [hU2]; exact ((((Below.refl _ _).alloc (Nat.le_refl _) _).alloc (by simp <;> omega) _).alloc (by simp <;> omega) _)); have zz : Hid (wr.heap.size + 3 = U2.heap.size) := Lib.hid (by rw [hU2]; simp); have HX2 : Kept wr.heap.size (wr.heap.size + 1) (BoxK wr.heap.size 244 #[.int .i64 a.kind, .int .i64 a.to_, .int .i64 a.own, .int .i64 a.cost]) U2 := (by rw [hU2]; exact Kept.box (((Box.made_at _ _ _ rfl).over _).over _)); have HX3 : Kept (wr.heap.size + 1) (wr.heap.size + 1 + 1) (BoxK (wr.heap.size + 1) 105 #[.bool (a.kind == 2), .int .i64 a.to_]) U2 := (by rw [hU2]; exact Kept.box ((Box.made_at _ _ _ (by simp <;> omega)).over _)); have HX4 : Kept (wr.heap.size + 1 + 1) (wr.heap.size + 1 + 1 + 1) (BoxK (wr.heap.size + 1 + 1) 191 #[.bool false, .int .i64 l.adv, .bool (a.kind == 2), .int .i64 a.to_, .int .i64 a.cost]) U2 := (by rw [hU2]; exact Kept.box (Box.made_at _ _ _ (by simp <;> omega))); replace HI := HI.below hb; replace HX1 := HX1.below hb; replace HL := HL.below hb; replace HB := Lib.hid (below_step HB.out hb); clear hb; have Z2 := zz; clear zz; clear hU2; refine wpList_appF0 edgecell_len edgecell_one Try.underlying82 edgeInfo rfl (by decide) (by decide) rfl (.tmp 22) (.tmp 31) rfl (B := (w.heap.size + 1)) rfl HI.ownF rfl (HX4.bx.inF [lnkE l a] rfl) (by omega) (by have := Z0.out; have := Z1.out; have := Y99.out; have := Z2.out; omega) ?_; intro F2 b2 w3 ho hg; have hq : Only (w.heap.size + 1) wr.heap.size U2 w3 := Only.of_grown hg (fun r hr => by have := HI.ownF.block r hr; have := HI.lim r hr; omega); have Z3 := Lib.hid hq.size; clear HI; replace HX1 := HX1.only hq (by have := Z0.out; have := Z1.out; have := Y99.out; have := Z2.out; have := Z3.out; omega); replace HL := HL.only hq (by have := Z0.out; have := Z1.out; have := Y99.out; have := Z2.out; have := Z3.out; omega); replace HX2 := HX2.only hq (by have := Z0.out; have := Z1.out; have := Y99.out; have := Z2.out; have := Z3.out; omega); replace HX3 := HX3.only hq (by have := Z0.out; have := Z1.out; have := Y99.out; have := Z2.out; have := Z3.out; omega); replace HX4 := HX4.only hq (by have := Z0.out; have := Z1.out; have := Y99.out; have := Z2.out; have := Z3.out; omega); replace HB := Lib.hid (Below.only HB.out hq (by have := Z0.out; have := Z1.out; have := Y99.out; have := Z2.out; have := Z3.out; omega) HB.out.size); clear hq hg; skip; have HI2 := ho.kept rfl; clear ho; have l3_0 := HX1.bx.lt; have l3_1 := HX2.bx.lt; have l3_2 := HX3.bx.lt; have l3_3 := HX4.bx.lt))
      clear c2_0 l2_0 l3_0 l3_1 l3_2 l3_3
      have HI3 := HI2; rw [← map_snoc (lnkE l) l.links k a HYA.out] at HI3
      go_roundw
      case rel => exact ⟨k + 1, F2, b2, by omega, by go_num, rfl, HI3, HX1, HL, Lib.hid (by have := Z0.out; have := Z1.out; have := Y99.out; have := Z2.out; have := Z3.out; omega), HB⟩
      case measure => simp [intOf]; omega
    · obtain rfl : k = n := by omega
      rw [List.take_of_length_le (by rw [show l.links.length = k from HL.lsa.in_.links.1]; exact Nat.le_refl _)] at HI
      have c2_0 := HX1.look 7
      have l2_0 := HX1.bx.lt
      go_wp2
      clear c2_0 l2_0
      obtain ⟨vv, hvv⟩ : ∃ W : World, W = wr := ⟨_, rfl⟩
      have HVV : Hid (wr.heap.size ≤ vv.heap.size) := Lib.hid (by rw [hvv]; exact Nat.le_refl _)
      clear hvv
      go_loopw [3, 37] (fun t3 t37 wr => ∃ (j : Nat) (F : Option Addr) (b1 : Nat), j ≤ m ∧ t37 = .int .i64 j ∧ t3 = .slice F (k + j) b1 ∧ Kept (w.heap.size + 1) wr.heap.size (OwnFK 191 5 edgecell (w.heap.size + 1) wr.heap.size F (k + j) b1 (l.links.map (lnkE l) ++ (l.routers.take j).map (rtrE l))) wr ∧ Kept w.heap.size (w.heap.size + 1) (BoxK w.heap.size 182 #[.int .i64 l.age, .int .i64 l.options, .int .i64 l.typ, .int .i64 l.id, .int .i64 l.adv, .int .i64 l.seq, .slice A k c, .slice B m d, .int .i64 l.mask, .int .i64 l.cost]) wr ∧ Kept lo hi (LsaK q lo hi A k B m l) wr ∧ Hid (U1.heap.size ≤ wr.heap.size) ∧ Hid (Below w.heap.size w wr)) (fun _ t37 _ => m - (intOf t37).toNat)
      case atStart => exact ⟨0, F, b1, Nat.zero_le _, rfl, rfl, by simpa using HI, HX1, HL, Lib.hid (by have := Z0.out; have := Z1.out; have := Y99.out; omega), HB⟩
      case round =>
        clear HI HX1 HL HB
        obtain ⟨j, F, b1, hj, rfl, rfl, HI, HX1, HL, HZW, HB⟩ := hrel
        have Y98 := HZW; clear HZW
        by_cases hlt2 : j < m
        · obtain ⟨b, o, hA, a0⟩ := Rep.int_at HL.lsa.in_.routers hlt2
          subst hA
          have hlt2' : (j : Int) < m := by omega
          have hya : l.routers[j]? = some (l.routers.getD j 0) := by have h := HL.lsa.in_.routers.1; rw [List.getD_eq_getElem?_getD, List.getElem?_eq_getElem (by rw [show l.routers.length = m from h]; exact hlt2)]; rfl
          obtain ⟨z, hz⟩ : ∃ z, l.routers.getD j 0 = z := ⟨_, rfl⟩
          rw [hz] at a0 hya
          have HYA := Lib.hid hya; clear hya hz
          have c3_0 := HX1.look 3
          have l3_0 := HX1.bx.lt
          go_wp2_with (first | (at_builtin; refine wpList_name ?_; intro U2 hU2; have hb : Below wr.heap.size wr U2 := (by rw [hU2]; exact ((Below.refl _ _).alloc (Nat.le_refl _) _)); have zz : Hid (wr.heap.size + 1 = U2.heap.size) := Lib.hid (by rw [hU2]; simp); have HX2 : Kept wr.heap.size (wr.heap.size + 1) (BoxK wr.heap.size 191 #[.bool true, .int .i64 l.id, .bool false, .int .i64 z, .int .i64 0]) U2 := (by rw [hU2]; exact Kept.box (Box.made_at _ _ _ rfl)); replace HI := HI.below hb; replace HX1 := HX1.below hb; replace HL := HL.below hb; replace HB := Lib.hid (below_step HB.out hb); clear hb; have Z2 := zz; clear zz; clear hU2; refine wpList_appF0 edgecell_len edgecell_one Try.underlying82 edgeInfo rfl (by decide) (by decide) rfl (.tmp 41) (.tmp 49) rfl (B := (w.heap.size + 1)) rfl HI.ownF rfl (HX2.bx.inF [rtrE l z] rfl) (by omega) (by have := Z0.out; have := Z1.out; have := Y98.out; have := Z2.out; omega) ?_; intro F2 b2 w3 ho hg; have hq : Only (w.heap.size + 1) wr.heap.size U2 w3 := Only.of_grown hg (fun r hr => by have := HI.ownF.block r hr; have := HI.lim r hr; omega); have Z3 := Lib.hid hq.size; clear HI; replace HX1 := HX1.only hq (by have := Z0.out; have := Z1.out; have := Y98.out; have := Z2.out; have := Z3.out; omega); replace HL := HL.only hq (by have := Z0.out; have := Z1.out; have := Y98.out; have := Z2.out; have := Z3.out; omega); replace HX2 := HX2.only hq (by have := Z0.out; have := Z1.out; have := Y98.out; have := Z2.out; have := Z3.out; omega); replace HB := Lib.hid (Below.only HB.out hq (by have := Z0.out; have := Z1.out; have := Y98.out; have := Z2.out; have := Z3.out; omega) HB.out.size); clear hq hg; skip; have HI2 := ho.kept rfl; clear ho; have l4_0 := HX1.bx.lt; have l4_1 := HX2.bx.lt))
          clear c3_0 l3_0 l4_0 l4_1
          have HI3 := HI2; rw [List.append_assoc, ← map_snoc (rtrE l) l.routers j z HYA.out] at HI3
          go_roundw
          case rel => exact ⟨j + 1, F2, b2, by omega, by go_num, rfl, HI3, HX1, HL, Lib.hid (by have := Z0.out; have := Z1.out; have := Y98.out; have := Z2.out; have := Z3.out; omega), HB⟩
          case measure => simp [intOf]; omega
        · obtain rfl : j = m := by omega
          rw [List.take_of_length_le (by rw [show l.routers.length = j from HL.lsa.in_.routers.1]; exact Nat.le_refl _)] at HI
          have l3_0 := HX1.bx.lt
          go_wp2
          clear l3_0
          go_ret
          exact ⟨F, k + j, b1, rfl, OwnFK.wid HI (by omega) (Nat.le_refl _) (Nat.le_refl _), HB.out⟩


end Go.Proofs.Ytooogjfnnmacjaa

namespace Go.Proofs.Ytooogjfnnmacjaa
open Go.RowKit
set_option linter.unusedVariables false

set_option maxRecDepth 100000 in
set_option maxHeartbeats 3200000 in
theorem edgesIn_any (now : Int) (q : Bool) (lo hi : Nat) (A : Option Addr) (n c : Nat) (ys : List Ent) (w : World) (ha : Rep.ent.Sl q lo hi w A n ys) (hh : hi ≤ w.heap.size) (hn : n ≤ 1048576) (hm : ∀ y ∈ ys, y.l.links.length ≤ 1048576 ∧ y.l.routers.length ≤ 1048576) :
    Calls Try.prog 60 #[.agg #[.int .i64 now, .slice A n c]] w fun e w' => ∃ E j b, e = .returned (.agg #[.int .i64 (faultB now ys), .slice E j b]) ∧ Kept w.heap.size w'.heap.size (OwnFK 191 5 edgecell w.heap.size w'.heap.size E j b (eiR now ys)) w' ∧ Below w.heap.size w w' := by
  have HB := Lib.hid (Below.refl w.heap.size w)
  have HA := Rep.Sl.kept ha hh
  have hln := ha.1
  have HM := Lib.hid hm
  clear ha hm
  obtain ⟨r, hr⟩ : ∃ z, faultB now ys = z := ⟨_, rfl⟩
  obtain ⟨xs, hxs⟩ : ∃ z, eiR now ys = z := ⟨_, rfl⟩
  have HR := Lib.hid hr
  have HXS := Lib.hid hxs
  rw [hr, hxs]
  clear hr hxs
  go_enter Try.func60, Try.ntmps60
  go_wp2_with fail
  refine Calls.name ?_
  intro U1 hU1
  have hb : Below w.heap.size w U1 := by rw [hU1]; exact (((Below.refl _ _).alloc (Nat.le_refl _) _).alloc (by simp <;> omega) _)
  have zz : Hid (w.heap.size + 2 = U1.heap.size) := Lib.hid (by rw [hU1]; simp)
  have HX1 : Kept w.heap.size (w.heap.size + 1) (BoxK w.heap.size 88 #[.int .i64 now, .slice A n c]) U1 := by rw [hU1]; exact Kept.box ((Box.made_at _ _ _ rfl).over _)
  have HX2 : Kept (w.heap.size + 1) (w.heap.size + 1 + 1) (BoxK (w.heap.size + 1) 84 #[.int .i64 0, .slice none 0 0]) U1 := by rw [hU1]; exact Kept.box (Box.made_at _ _ _ (by simp <;> omega))
  replace HA := HA.below hb
  replace HB := Lib.hid (below_step HB.out hb)
  clear hb
  have Z1 := zz; clear zz
  clear hU1
  refine (baseFault_any now q lo hi A n c ys _ HA.sl HA.le hn HM.out).mono ?_
  rw [HR.out]
  rintro e w2 ⟨rfl, hb⟩
  have Z2 := Lib.hid hb.size
  replace HA := HA.below hb
  replace HX1 := HX1.below hb
  replace HX2 := HX2.below hb
  replace HB := Lib.hid (below_step HB.out hb)
  clear hb
  by_cases hr0 : r = 0
  · have HF : Hid (xs = edgesB ys) := Lib.hid (by rw [← HXS.out]; exact eiR_yes (HR.out.trans hr0))
    have HFW := Lib.hid (base_few (HR.out.trans hr0))
    have hn40 : n ≤ 40 := by have := HFW.out.1; omega
    subst hr0
    have c2_0 := HX1.look 1
    have l2_0 := HX1.bx.lt
    have l2_1 := HX2.bx.lt
    go_wp2
    clear c2_0 l2_0 l2_1
    obtain ⟨vv, hvv⟩ : ∃ W : World, W = w2 := ⟨_, rfl⟩
    have HVV : Hid (vv.heap.size = w2.heap.size) := Lib.hid (by rw [hvv])
    clear hvv
    obtain ⟨B, hB⟩ : ∃ B, B = w2.heap.size := ⟨_, rfl⟩
    have HI0 := (OwnF.nil_ 191 5 edgecell w2 B).kept (hi := w2.heap.size) rfl
    have HBV : Hid (B = w2.heap.size) := Lib.hid hB; clear hB
    go_loopw [4, 16] (fun t4 t16 wr => ∃ (k : Nat) (F : Option Addr) (j b1 : Nat), k ≤ n ∧ t16 = .int .i64 k ∧ t4 = .slice F j b1 ∧ Kept B wr.heap.size (OwnFK 191 5 edgecell B wr.heap.size F j b1 (edgesB (ys.take k))) wr ∧ Kept (w.heap.size) (w.heap.size + 1) (BoxK (w.heap.size) 88 #[.int .i64 now, .slice A n c]) wr ∧ Kept (w.heap.size + 1) (w.heap.size + 1 + 1) (BoxK (w.heap.size + 1) 84 #[.int .i64 0, .slice none 0 0]) wr ∧ Kept lo hi (SlK Rep.ent q lo hi A n ys) wr ∧ Hid (B ≤ wr.heap.size) ∧ Hid (Below w.heap.size w wr)) (fun _ t16 _ => n - (intOf t16).toNat)
    case atStart => exact ⟨0, none, 0, 0, Nat.zero_le _, rfl, rfl, HI0, HX1, HX2, HA, Lib.hid (by have := HBV.out; omega), HB⟩
    case round =>
      clear HI0 HA HB HX1 HX2
      obtain ⟨k, F, j, b1, hk, rfl, rfl, HI, HX1, HX2, HA, HZW, HB⟩ := hrel
      have Y99 := Lib.hid (And.intro HBV.out (And.intro HZW.out HB.out.size)); clear HZW
      by_cases hlt : k < n
      · obtain ⟨b, o, e, Ea, Fa, m1, c1, m2, d1, hA, hya, hyl, a0, a1, a2, a3, a4, a5, a6, a7, a8, a9, a10⟩ := Rep.ent_at HA.sl hlt
        subst hA
        have hlt' : (k : Int) < n := by omega
        have hem := HFW.out.2 e (List.mem_of_getElem? hya)
        have hfew := fault_few hem
        have hjl : j ≤ 16 * k := by have h := HI.ownF.1; have := edgesB_le HFW.out.2 k; omega
        have hm1 : m1 ≤ 8 := by have := hyl.links.1; omega
        have hm2 : m2 ≤ 8 := by have := hyl.routers.1; omega
        have HL := (show LsaAt q lo hi wr Ea m1 Fa m2 e.l from ⟨hyl, HA.le⟩).kept
        have HYA := Lib.hid hya; clear hya hyl hem hfew
        have l3_0 := HX1.bx.lt
        have l3_1 := HX2.bx.lt
        go_wp2_with fail
        clear l3_0 l3_1
        refine Calls.name ?_
        intro U3 hU3
        have hb : Below wr.heap.size wr U3 := by rw [hU3]; exact ((Below.refl _ _).alloc (Nat.le_refl _) _)
        have zz : Hid (wr.heap.size + 1 = U3.heap.size) := Lib.hid (by rw [hU3]; simp)
        have HX3 : Kept wr.heap.size (wr.heap.size + 1) (BoxK wr.heap.size 184 #[.int .i64 e.l.age, .int .i64 e.l.options, .int .i64 e.l.typ, .int .i64 e.l.id, .int .i64 e.l.adv, .int .i64 e.l.seq, .slice Ea m1 c1, .slice Fa m2 d1, .int .i64 e.l.mask, .int .i64 e.l.cost, .int .i64 e.at_]) U3 := by rw [hU3]; exact Kept.box (Box.made_at _ _ _ rfl)
        replace HI := HI.below hb
        replace HA := HA.below hb
        replace HX1 := HX1.below hb
        replace HX2 := HX2.below hb
        replace HL := HL.below hb
        replace HB := Lib.hid (below_step HB.out hb)
        clear hb
        have Z3 := zz; clear zz
        clear hU3
        refine (edgesOf_any e.l q lo hi Ea Fa m1 c1 m2 d1 _ HL.lsa (by omega) (by omega)).mono ?_
        rintro e w4 ⟨E2, j2, b2, rfl, hk2, hb⟩
        have Z4 := Lib.hid hb.size
        replace HI := HI.below hb
        replace HA := HA.below hb
        replace HX1 := HX1.below hb
        replace HX2 := HX2.below hb
        replace HL := HL.below hb
        replace HX3 := HX3.below hb
        replace HB := Lib.hid (below_step HB.out hb)
        clear hb
        have HE := hk2; clear hk2
        have hj2 : j2 ≤ 16 := by have h := HE.ownF.1; rw [edgesOf_len] at h; have h1 := HL.lsa.in_.links.1; have h2 := HL.lsa.in_.routers.1; omega
        have l4_0 := HX1.bx.lt
        have l4_1 := HX2.bx.lt
        have l4_2 := HX3.bx.lt
        go_wp2_with (first | (at_builtin; refine wpList_appF0 edgecell_len edgecell_one Try.underlying82 edgeInfo rfl (by decide) (by decide) rfl (.tmp 20) (.tmp 23) rfl (B := B) rfl HI.ownF rfl (HE.ownF.inF edgecell_len) (by omega) (by have := Z1.out; have := Z2.out; have := Y99.out; have := Z3.out; have := Z4.out; omega) ?_; intro F2 b3 w5 ho hg; have hq : Only B wr.heap.size w4 w5 := Only.of_grown hg (fun r hr => by have := HI.ownF.block r hr; have := HI.lim r hr; omega); have Z5 := Lib.hid hq.size; clear HI; replace HA := HA.only hq (by have := Z1.out; have := Z2.out; have := Y99.out; have := Z3.out; have := Z4.out; have := Z5.out; omega); replace HX1 := HX1.only hq (by have := Z1.out; have := Z2.out; have := Y99.out; have := Z3.out; have := Z4.out; have := Z5.out; omega); replace HX2 := HX2.only hq (by have := Z1.out; have := Z2.out; have := Y99.out; have := Z3.out; have := Z4.out; have := Z5.out; omega); replace HL := HL.only hq (by have := Z1.out; have := Z2.out; have := Y99.out; have := Z3.out; have := Z4.out; have := Z5.out; omega); replace HX3 := HX3.only hq (by have := Z1.out; have := Z2.out; have := Y99.out; have := Z3.out; have := Z4.out; have := Z5.out; omega); replace HE := HE.only hq (by have := Z1.out; have := Z2.out; have := Y99.out; have := Z3.out; have := Z4.out; have := Z5.out; omega); replace HB := Lib.hid (Below.only HB.out hq (by have := Z1.out; have := Z2.out; have := Y99.out; have := Z3.out; have := Z4.out; have := Z5.out; omega) HB.out.size); clear hq hg; skip; have HI2 := ho.kept rfl; clear ho; have l5_0 := HX1.bx.lt; have l5_1 := HX2.bx.lt; have l5_2 := HX3.bx.lt))
        clear l4_0 l4_1 l4_2 l5_0 l5_1 l5_2
        have HI3 := HI2; rw [← flat_snocE ys k e HYA.out] at HI3
        go_roundw
        case rel => exact ⟨k + 1, F2, _, b3, by omega, by go_num, rfl, HI3, HX1, HX2, HA, Lib.hid (by have := Z1.out; have := Z2.out; have := Y99.out; have := Z3.out; have := Z4.out; have := Z5.out; omega), HB⟩
        case measure => simp [intOf]; omega
      · obtain rfl : k = n := by omega
        rw [List.take_of_length_le (by omega), ← HF.out] at HI
        have c3_0 := HX2.look 0
        have c3_1 := HX2.look 1
        have f3_0 := HX2.free 0
        have f3_1 := HX2.free 1
        have l3_0 := HX1.bx.lt
        have l3_1 := HX2.bx.lt
        go_wp2
        clear c3_0 c3_1 f3_0 f3_1 l3_0 l3_1
        obtain ⟨U3, hU3⟩ : ∃ W : World, W = ((wr.setCell ⟨w.heap.size + 1, 0, none⟩ (.int .i64 0)).setCell ⟨w.heap.size + 1, 1, none⟩ (.slice F j b1)) := ⟨_, rfl⟩
        have ho : Only (w.heap.size + 1) (w.heap.size + 1 + 1) wr U3 := by rw [hU3]; exact (((Only.refl _ _ _).set (p := ⟨w.heap.size + 1, 0, none⟩) (Nat.le_refl _) (Nat.lt_succ_self _) _).set (p := ⟨w.heap.size + 1, 1, none⟩) (Nat.le_refl _) (Nat.lt_succ_self _) _)
        replace HX2 : Kept (w.heap.size + 1) (w.heap.size + 1 + 1) (BoxK (w.heap.size + 1) 84 #[.int .i64 0, .slice F j b1]) U3 := by rw [hU3]; exact Kept.box ((HX2.bx.puts 0 (.int .i64 0) (cs' := #[.int .i64 0, .slice none 0 0]) rfl).puts 1 (.slice F j b1) (cs' := #[.int .i64 0, .slice F j b1]) rfl)
        replace HI := HI.only ho (by have := Z1.out; have := Z2.out; have := Y99.out; omega)
        replace HA := HA.only ho (by have := Z1.out; have := Z2.out; have := Y99.out; omega)
        replace HX1 := HX1.only ho (by have := Z1.out; have := Z2.out; have := Y99.out; omega)
        replace HB := Lib.hid (Below.only HB.out ho (by have := Z1.out; have := Z2.out; have := Y99.out; omega) HB.out.size)
        have Z3 : Hid (U3.heap.size = wr.heap.size) := Lib.hid (by rw [hU3]; simp [World.setCell]); clear ho
        have q_0 := HX2.look 0
        have q_1 := HX2.look 1
        subst hU3
        exact bodyPost_ret (v := .agg #[.int .i64 0, .slice F j b1]) (by simp [results, Try.results60, go_sem, q_0, q_1]) rfl ⟨F, j, b1, rfl, OwnFK.wid HI (by have := Z1.out; have := Z2.out; have := Y99.out; have := Z3.out; omega) (by have := HI.le; omega) (Nat.le_refl _), HB.out⟩
  · have hr1 : (r != 0) = true := by simpa using hr0
    have HF : Hid (xs = []) := Lib.hid (by rw [← HXS.out]; exact eiR_no (by rw [HR.out]; exact hr0))
    have c2_0 := HX2.look 0
    have c2_1 := HX2.look 1
    have f2_0 := HX2.free 0
    have f2_1 := HX2.free 1
    have l2_0 := HX1.bx.lt
    have l2_1 := HX2.bx.lt
    go_wp2
    clear c2_0 c2_1 f2_0 f2_1 l2_0 l2_1
    obtain ⟨U3, hU3⟩ : ∃ W : World, W = ((w2.setCell ⟨w.heap.size + 1, 0, none⟩ (.int .i64 r)).setCell ⟨w.heap.size + 1, 1, none⟩ (.slice none 0 0)) := ⟨_, rfl⟩
    have ho : Only (w.heap.size + 1) (w.heap.size + 1 + 1) w2 U3 := by rw [hU3]; exact (((Only.refl _ _ _).set (p := ⟨w.heap.size + 1, 0, none⟩) (Nat.le_refl _) (Nat.lt_succ_self _) _).set (p := ⟨w.heap.size + 1, 1, none⟩) (Nat.le_refl _) (Nat.lt_succ_self _) _)
    replace HX2 : Kept (w.heap.size + 1) (w.heap.size + 1 + 1) (BoxK (w.heap.size + 1) 84 #[.int .i64 r, .slice none 0 0]) U3 := by rw [hU3]; exact Kept.box ((HX2.bx.puts 0 (.int .i64 r) (cs' := #[.int .i64 r, .slice none 0 0]) rfl).puts 1 (.slice none 0 0) (cs' := #[.int .i64 r, .slice none 0 0]) rfl)
    replace HA := HA.only ho (by have := Z1.out; have := Z2.out; omega)
    replace HX1 := HX1.only ho (by have := Z1.out; have := Z2.out; omega)
    replace HB := Lib.hid (Below.only HB.out ho (by have := Z1.out; have := Z2.out; omega) HB.out.size)
    have Z3 : Hid (U3.heap.size = w2.heap.size) := Lib.hid (by rw [hU3]; simp [World.setCell]); clear ho
    have q_0 := HX2.look 0
    have q_1 := HX2.look 1
    subst hU3
    exact bodyPost_ret (v := .agg #[.int .i64 r, .slice none 0 0]) (by simp [results, Try.results60, go_sem, q_0, q_1]) rfl ⟨none, 0, 0, rfl, by rw [HF.out]; exact (OwnF.nil_ _ _ _ _ _).kept rfl, HB.out⟩


end Go.Proofs.Ytooogjfnnmacjaa

namespace Go.Proofs.Ytooogjfnnmacjaa
open Go.RowKit
set_option linter.unusedVariables false

set_option maxRecDepth 100000 in
set_option maxHeartbeats 3200000 in
theorem l7Router_any (z : Int) (w : World) :
    Calls Try.prog 169 #[.int .i64 z] w fun e w' => e = .returned (.agg #[.bool false, .int .i64 z]) ∧ Below w.heap.size w w' := by
  have HB := Lib.hid (Below.refl w.heap.size w)
  go_enter Try.func169, Try.ntmps169
  go_wp2
  obtain ⟨U1, hU1⟩ : ∃ W : World, W = (w.alloc (.cells #[.bool false, .int .i64 z] 105)) := ⟨_, rfl⟩
  have hb : Below w.heap.size w U1 := by rw [hU1]; exact ((Below.refl _ _).alloc (Nat.le_refl _) _)
  have zz : Hid (w.heap.size + 1 = U1.heap.size) := Lib.hid (by rw [hU1]; simp)
  have HX1 : Kept w.heap.size (w.heap.size + 1) (BoxK w.heap.size 105 #[.bool false, .int .i64 z]) U1 := by rw [hU1]; exact Kept.box (Box.made_at _ _ _ rfl)
  replace HB := Lib.hid (below_step HB.out hb)
  clear hb
  have Z1 := zz; clear zz
  have q_0 := HX1.look 0
  have q_1 := HX1.look 1
  subst hU1
  exact bodyPost_ret (v := .agg #[.bool false, .int .i64 z]) (by simp [results, Try.results169, go_sem, q_0, q_1]) rfl ⟨rfl, HB.out⟩

theorem step_appE {α : Type} {size bytes : Nat} {f : α → List Value} {ts t : TypeId} {z : Value} {ops : Array Oper} {o : Oper} {a : Act} {Q : Exit → Act → World → Prop} {w : World} {B : Nat} {A E : Option Addr} {n c m d : Nat} {zs ys : List α} {K : Act → World → Prop} {E' : Prop} (hf : ∀ a, (f a).length = size) (hone : ∀ a, ∀ u ∈ f a, u.oneCell' = true) (hu : Try.prog.underlying ts = some (.slice t))
    (hinfo : (Try.prog.info? t).map (fun i => (i.zero, i.size, i.bytes)) = some (some z, size, bytes)) (hzc : z.cells.size = size) (hsz : 0 < size) (hby : bytes ≤ 1048576)
    (hgd : o.guard = none) (s x : Operand) (ho : o.op = .call { callee := .builtin .append, args := #[s, x], argTypes := #[ts, ts] })
    (hs : a.eval s = .slice A n c) (hown : OwnF t size f w B A n c zs) (hx : a.eval x = .slice E m d) (hE : InF size f w E m ys) (hl : n + m ≤ 1048576) (hB : B ≤ w.heap.size)
    (h : ∀ A' c' w', OwnF t size f w' B A' (n + m) c' (zs ++ ys) → w.grownBy w' (A.map (·.block)) → K (a.put o.dst (.slice A' (n + m) c')) w') :
    if Region.wanted o (yielded ops a.tmps) = true then Oper.wp Try.prog o a w K Q else E' := by
  rw [if_pos (by simp [Region.wanted, hgd])]
  exact wp_appF0 hf hone hu hinfo hzc hsz hby s x ho hs hown hx hE hl hB h
theorem flat_endE (ys : List Ent) (k : Nat) (e : Ent) (xs : List Eg) (h : ys[k]? = some e) (hx : xs = edgesOf e.l) : edgesB (ys.take k) ++ xs = edgesB (ys.take (k + 1)) := by rw [flat_snocE ys k e h, hx]

set_option maxRecDepth 100000 in
set_option maxHeartbeats 6400000 in
theorem l7Edges_any (now : Int) (q : Bool) (lo hi g : Nat) (A : Option Addr) (n c : Nat) (ys : List Ent) (w : World) (hx : Box w g 88 #[.int .i64 now, .slice A n c]) (ha : Rep.ent.Sl q lo hi w A n ys) (hh : hi ≤ w.heap.size) (hn : n ≤ 40) (hf : ∀ e ∈ ys, faultOf e.l = 0) :
    Calls Try.prog 132 #[.pointer (some ⟨g, 0, none⟩)] w fun e w' => ∃ E j b, e = .returned (.slice E j b) ∧ OwnF 191 5 edgecell w' w.heap.size E j b (edgesB ys) ∧ Below w.heap.size w w' := by
  have HX := Lib.hid hx
  have HA := Rep.Sl.kept ha hh
  have HF := Lib.hid hf
  have hln := ha.1
  have HE0 := Lib.hid (emptyF 191 5 edgecell w)
  have HB0 : Hid (Below w.heap.size w (w.alloc (.cells #[] 191))) := Lib.hid ((Below.refl _ _).alloc (Nat.le_refl _) _)
  clear hx ha hf
  go_enter Try.func132, Try.ntmps132
  go_wp2
  go_loopw [4, 3] (fun t4 t3 wr => ∃ (k : Nat) (F : Option Addr) (j b1 : Nat), k ≤ n ∧ t4 = .int .i64 k ∧ t3 = .slice F j b1 ∧ Hid (OwnF 191 5 edgecell wr w.heap.size F j b1 (edgesB (ys.take k))) ∧ Hid (Below w.heap.size w wr)) (fun t4 _ _ => n - (intOf t4).toNat)
  case atStart => exact ⟨0, _, 0, 0, Nat.zero_le _, rfl, rfl, HE0, HB0⟩
  case round =>
    clear HE0 HB0
    obtain ⟨k, F, j, b1, hk, rfl, rfl, HO, HB⟩ := hrel
    have c1 := (HX.out.below HB.out).look 1
    have hgl := (HX.out.below HB.out).lt
    by_cases hlt : k < n
    · obtain ⟨b, o, e, Ea, Fa, m1, c1', m2, d1, hA, hya, hyl, a0, a1, a2, a3, a4, a5, a6, a7, a8, a9, a10⟩ := Rep.ent_at HA.sl hlt
      subst hA
      have hlt' : (k : Int) < n := by omega
      have hem := HF.out e (List.mem_of_getElem? hya)
      have hfew := fault_few hem
      have hj : j ≤ 16 * k := by have h := HO.out.1; have := edgesB_le HF.out k; omega
      have hm1 : m1 ≤ 8 := by have := hyl.links.1; omega
      have hm2 : m2 ≤ 8 := by have := hyl.routers.1; omega
      have HLS := Rep.Sl.kept hyl.links HA.le
      have HRS := Rep.Sl.kept hyl.routers HA.le
      have HYA := Lib.hid hya
      have HFEW := Lib.hid hfew
      have C3 := Lib.hid a3
      have C4 := Lib.hid a4
      have C6 := Lib.hid a6
      have C7 := Lib.hid a7
      have HLE := Lib.hid (World.block_lt_of_cell? w _ a4)
      have x0 := (HB.out.cell (p := ⟨b, o + k * 11, none⟩) HLE.out).trans a0
      have x2 := (HB.out.cell (p := ⟨b, o + k * 11 + 2, none⟩) HLE.out).trans a2
      have x3 := (HB.out.cell (p := ⟨b, o + k * 11 + 3, none⟩) HLE.out).trans a3
      have x4 := (HB.out.cell (p := ⟨b, o + k * 11 + 4, none⟩) HLE.out).trans a4
      have x6 := (HB.out.cell (p := ⟨b, o + k * 11 + 6, none⟩) HLE.out).trans a6
      have x7 := (HB.out.cell (p := ⟨b, o + k * 11 + 7, none⟩) HLE.out).trans a7
      clear hya hyl hem hfew a0 a1 a2 a3 a4 a5 a6 a7 a8 a9 a10
      by_cases ht1 : e.l.typ = 1
      · rw [ht1] at x2
        have HT := Lib.hid ht1
        clear ht1
        go_wp2
        go_loopw [6, 3] (fun t6 t3 wr => ∃ (i : Nat) (F : Option Addr) (b1 : Nat), i ≤ m1 ∧ t6 = .int .i64 i ∧ t3 = .slice F (j + i) b1 ∧ Hid (OwnF 191 5 edgecell wr w.heap.size F (j + i) b1 (edgesB (ys.take k) ++ (e.l.links.take i).map (lnkE e.l))) ∧ Hid (Below w.heap.size w wr)) (fun t6 _ _ => m1 - (intOf t6).toNat)
        case atStart => exact ⟨0, F, b1, Nat.zero_le _, rfl, rfl, Lib.hid (by simpa using HO.out), HB⟩
        case round =>
          clear HO HB x0 x2 x3 x4 x6 x7 hgl c1
          obtain ⟨i, F, b1, hi, rfl, rfl, HO, HB⟩ := hrel
          have xa := (HB.out.cell (p := ⟨b, o + k * 11 + 4, none⟩) HLE.out).trans C4.out
          have xb := (HB.out.cell (p := ⟨b, o + k * 11 + 6, none⟩) HLE.out).trans C6.out
          by_cases hil : i < m1
          · obtain ⟨bl, ol, a, hAE, hla, d0, d1, d2, d3⟩ := Rep.link_at (HLS.below HB.out).sl hil
            subst hAE
            have hil' : (i : Int) < m1 := by omega
            have HLA := Lib.hid hla
            have HZ := Lib.hid HB.out.size
            have hbl := World.block_lt_of_cell? wr _ d0
            have hbe := World.block_lt_of_cell? wr _ xa
            clear hla
            have SB : Hid (∀ W, Hid (Below w.heap.size w W) → (fun W => W.cell? ⟨b, o + k * 11 + 4, none⟩ = some (.int .i64 e.l.adv) ∧ W.cell? ⟨b, o + k * 11 + 6, none⟩ = some (.slice (some ⟨bl, ol, none⟩) m1 c1') ∧ W.cell? ⟨bl, ol + i * 4, none⟩ = some (.int .i64 a.kind) ∧ W.cell? ⟨bl, ol + i * 4 + 1, none⟩ = some (.int .i64 a.to_) ∧ W.cell? ⟨bl, ol + i * 4 + 2, none⟩ = some (.int .i64 a.own) ∧ W.cell? ⟨bl, ol + i * 4 + 3, none⟩ = some (.int .i64 a.cost)) W) := Lib.hid (fun W h => by
              obtain ⟨bl', ol', a', hAE', hla', d0', d1', d2', d3'⟩ := Rep.link_at (HLS.below h.out).sl hil
              injection hAE' with hAE'
              injection hAE' with e1 e2 _
              subst e1 e2
              obtain rfl : a' = a := by have := HLA.out; rw [hla'] at this; injection this
              exact ⟨(h.out.cell (p := ⟨b, o + k * 11 + 4, none⟩) HLE.out).trans C4.out, (h.out.cell (p := ⟨b, o + k * 11 + 6, none⟩) HLE.out).trans C6.out, d0', d1', d2', d3'⟩)
            have V0 : Hid (Below w.heap.size w wr.drew) := Lib.hid HB.out.drew
            have VA : ∀ q, Hid (Below w.heap.size w (wr.alloc q).drew) := fun q => Lib.hid (HB.out.alloc HB.out.size q).drew
            go_wp2
            clear d0 d1 d2 d3 xa xb
            go_region_held3 (fun W => W.cell? ⟨b, o + k * 11 + 4, none⟩ = some (.int .i64 e.l.adv) ∧ W.cell? ⟨b, o + k * 11 + 6, none⟩ = some (.slice (some ⟨bl, ol, none⟩) m1 c1') ∧ W.cell? ⟨bl, ol + i * 4, none⟩ = some (.int .i64 a.kind) ∧ W.cell? ⟨bl, ol + i * 4 + 1, none⟩ = some (.int .i64 a.to_) ∧ W.cell? ⟨bl, ol + i * 4 + 2, none⟩ = some (.int .i64 a.own) ∧ W.cell? ⟨bl, ol + i * 4 + 3, none⟩ = some (.int .i64 a.cost)) (first | (with_reducible exact SB.out _ V0) | (with_reducible exact SB.out _ (VA _)))
              (fail)
            go_wp2
            refine Code.wp_name ?_
            intro u1 hu1
            have hb1 : Below wr.heap.size wr u1 := by rw [hu1]; exact ((Below.refl _ _).alloc (Nat.le_refl _) _).drew
            have HN : Hid (Box u1 wr.heap.size 105 #[.bool (a.kind == 2), .int .i64 a.to_]) := Lib.hid (by rw [hu1]; exact Box.made _ _ _)
            have HB1 : Hid (Below w.heap.size w u1) := Lib.hid (below_step HB.out hb1)
            have V2 : Hid (Below w.heap.size w u1.drew) := Lib.hid HB1.out.drew
            have N2 : Hid (Box u1.drew wr.heap.size 105 #[.bool (a.kind == 2), .int .i64 a.to_]) := Lib.hid HN.out.drew
            have SB2 : Hid (∀ W, Hid (Below w.heap.size w W) → Hid (Box W wr.heap.size 105 #[.bool (a.kind == 2), .int .i64 a.to_]) → (fun W => W.cell? ⟨b, o + k * 11 + 4, none⟩ = some (.int .i64 e.l.adv) ∧ W.cell? ⟨b, o + k * 11 + 6, none⟩ = some (.slice (some ⟨bl, ol, none⟩) m1 c1') ∧ W.cell? ⟨bl, ol + i * 4 + 3, none⟩ = some (.int .i64 a.cost) ∧ W.cell? ⟨wr.heap.size, 0, none⟩ = some (.bool (a.kind == 2)) ∧ W.cell? ⟨wr.heap.size, 1, none⟩ = some (.int .i64 a.to_)) W) := Lib.hid (fun W h hn => by
              have h1 := SB.out W h
              exact ⟨h1.1, h1.2.1, h1.2.2.2.2.2, hn.out.look 0, hn.out.look 1⟩)
            have hbe1 : b < u1.heap.size := Nat.lt_of_lt_of_le hbe hb1.size
            have hbl1 : bl < u1.heap.size := Nat.lt_of_lt_of_le hbl hb1.size
            have hnl := HN.out.lt
            have HOB : Hid (∀ r, F.map (·.block) = some r → r < wr.heap.size) := Lib.hid (fun r e => (HO.out.block r e).2)
            have HOU : Hid (OwnF 191 5 edgecell u1 w.heap.size F (j + i) b1 (edgesB (ys.take k) ++ (e.l.links.take i).map (lnkE e.l))) := Lib.hid (HO.out.below hb1)
            have HZ1 := Lib.hid hb1.size
            clear hu1 hb1 SB V0 VA HO
            go_region_held3 (fun W => W.cell? ⟨b, o + k * 11 + 4, none⟩ = some (.int .i64 e.l.adv) ∧ W.cell? ⟨b, o + k * 11 + 6, none⟩ = some (.slice (some ⟨bl, ol, none⟩) m1 c1') ∧ W.cell? ⟨bl, ol + i * 4 + 3, none⟩ = some (.int .i64 a.cost) ∧ W.cell? ⟨wr.heap.size, 0, none⟩ = some (.bool (a.kind == 2)) ∧ W.cell? ⟨wr.heap.size, 1, none⟩ = some (.int .i64 a.to_)) (first | (with_reducible exact SB2.out _ V2 N2) | (with_reducible exact SB2.out _ V3 N3) | (with_reducible exact SB2.out _ (V4 _) (N4 _)) | (with_reducible exact SB2.out _ HB2 N5))
              (first
                | (go_at_call 169; ((with_reducible refine (l7Router_any e.l.adv _).mono ?_); rintro e1 u2 ⟨rfl, hb2⟩; have V3 := Lib.hid (below_step V2.out hb2); have N3 := Lib.hid (N2.out.below hb2); have V4 : ∀ q, Hid (Below w.heap.size w (u2.alloc q)) := (fun q => Lib.hid (V3.out.alloc V3.out.size q)); have N4 : ∀ q, Hid (Box (u2.alloc q) wr.heap.size 105 #[.bool (a.kind == 2), .int .i64 a.to_]) := (fun q => Lib.hid (N3.out.over q)); have W4 : ∀ q, Hid (Below u1.heap.size u1 (u2.alloc q)) := (fun q => Lib.hid ((below_step (show Below u1.heap.size u1 u1.drew from (Below.refl _ _).drew) hb2).alloc hb2.size q)); clear hb2))
                | (refine step_appE edgecell_len edgecell_one Try.underlying82 edgeInfo (by rfl) (by decide) (by decide) (by rfl) (.tmp 60) (.tmp 77) (by rfl) (by rfl) (B := w.heap.size) (HOU.out.below (W4 _).out) (by rfl) (Box.inF (Box.made _ _ _) [lnkE e.l a] rfl) (by simp; omega) (V4 _).out.size ?_; intro F2 b2 u3 ho hg; have HO2 := Lib.hid ho; have HB2 := Lib.hid (Below.grown (V4 _).out hg (V4 _).out.size (fun r e => (HOU.out.block r e).1)); have N5 := Lib.hid ((N4 _).out.grown hg (fun e => Nat.lt_irrefl _ (HOB.out _ e))); clear ho hg))
            go_wp2
            go_roundw
            case rel =>
              refine ⟨i + 1, F2, b2, by omega, by go_num, rfl, ?_, HB2⟩
              have := HO2.out
              rw [List.append_assoc, ← map_snoc (lnkE e.l) e.l.links i a HLA.out] at this
              exact Lib.hid this
            case measure => simp [intOf]; omega
          · obtain rfl : i = m1 := by omega
            have HEQ : Hid (edgesB (ys.take k) ++ (e.l.links.take i).map (lnkE e.l) = edgesB (ys.take (k + 1))) := Lib.hid (flat_endE ys k e _ HYA.out (by
              rw [List.take_of_length_le (by rw [show e.l.links.length = i from HLS.sl.1]; exact Nat.le_refl _)]
              unfold edgesOf; rw [HFEW.out.2.2.2 (by rw [HT.out]; decide)]; simp))
            go_wp2
            go_roundw
            case rel => exact ⟨k + 1, F, _, b1, by omega, by go_num, rfl, Lib.hid (by rw [← HEQ.out]; exact HO.out), HB⟩
            case measure => simp [intOf]; omega
      · by_cases ht2 : e.l.typ = 2
        · rw [ht2] at x2
          have HT := Lib.hid ht2
          clear ht1 ht2
          go_wp2
          go_loopw [8, 3] (fun t6 t3 wr => ∃ (i : Nat) (F : Option Addr) (b1 : Nat), i ≤ m2 ∧ t6 = .int .i64 i ∧ t3 = .slice F (j + i) b1 ∧ Hid (OwnF 191 5 edgecell wr w.heap.size F (j + i) b1 (edgesB (ys.take k) ++ (e.l.routers.take i).map (rtrE e.l))) ∧ Hid (Below w.heap.size w wr)) (fun t6 _ _ => m2 - (intOf t6).toNat)
          case atStart => exact ⟨0, F, b1, Nat.zero_le _, rfl, rfl, Lib.hid (by simpa using HO.out), HB⟩
          case round =>
            clear HO HB x0 x2 x3 x4 x6 x7 hgl c1
            obtain ⟨i, F, b1, hi, rfl, rfl, HO, HB⟩ := hrel
            have xa := (HB.out.cell (p := ⟨b, o + k * 11 + 3, none⟩) HLE.out).trans C3.out
            have xb := (HB.out.cell (p := ⟨b, o + k * 11 + 7, none⟩) HLE.out).trans C7.out
            by_cases hil : i < m2
            · obtain ⟨bl, ol, hAE, d0⟩ := Rep.int_at (HRS.below HB.out).sl hil
              subst hAE
              have hla : e.l.routers[i]? = some (e.l.routers.getD i 0) := by have h := HRS.sl.1; rw [List.getD_eq_getElem?_getD, List.getElem?_eq_getElem (by rw [show e.l.routers.length = m2 from h]; exact hil)]; rfl
              obtain ⟨a, hz⟩ : ∃ z, e.l.routers.getD i 0 = z := ⟨_, rfl⟩
              rw [hz] at d0 hla
              have hil' : (i : Int) < m2 := by omega
              have HLA := Lib.hid hla
              have HZ := Lib.hid HB.out.size
              have hbl := World.block_lt_of_cell? wr _ d0
              have hbe := World.block_lt_of_cell? wr _ xa
              have SB : Hid (∀ W, Hid (Below w.heap.size w W) → (fun W => W.cell? ⟨b, o + k * 11 + 3, none⟩ = some (.int .i64 e.l.id) ∧ W.cell? ⟨b, o + k * 11 + 7, none⟩ = some (.slice (some ⟨bl, ol, none⟩) m2 d1) ∧ W.cell? ⟨bl, ol + i, none⟩ = some (.int .i64 a)) W) := Lib.hid (fun W h => by
                obtain ⟨bl', ol', hAE', d0'⟩ := Rep.int_at (HRS.below h.out).sl hil
                injection hAE' with hAE'
                injection hAE' with e1 e2 _
                subst e1 e2
                rw [hz] at d0'
                exact ⟨(h.out.cell (p := ⟨b, o + k * 11 + 3, none⟩) HLE.out).trans C3.out, (h.out.cell (p := ⟨b, o + k * 11 + 7, none⟩) HLE.out).trans C7.out, d0'⟩)
              have V2 : Hid (Below w.heap.size w wr.drew) := Lib.hid HB.out.drew
              go_wp2
              clear d0 xa xb hla hz
              go_region_held3 (fun W => W.cell? ⟨b, o + k * 11 + 3, none⟩ = some (.int .i64 e.l.id) ∧ W.cell? ⟨b, o + k * 11 + 7, none⟩ = some (.slice (some ⟨bl, ol, none⟩) m2 d1) ∧ W.cell? ⟨bl, ol + i, none⟩ = some (.int .i64 a)) (first | (with_reducible exact SB.out _ V2) | (with_reducible exact SB.out _ V3) | (with_reducible exact SB.out _ (V4 _)) | (with_reducible exact SB.out _ HB2))
                (first
                  | (go_at_call 169; ((with_reducible refine (l7Router_any a _).mono ?_); rintro e1 u2 ⟨rfl, hb2⟩; have V3 := Lib.hid (below_step V2.out hb2); have V4 : ∀ q, Hid (Below w.heap.size w (u2.alloc q)) := (fun q => Lib.hid (V3.out.alloc V3.out.size q)); have W4 : ∀ q, Hid (Below wr.heap.size wr (u2.alloc q)) := (fun q => Lib.hid ((below_step (show Below wr.heap.size wr wr.drew from (Below.refl _ _).drew) hb2).alloc hb2.size q)); clear hb2))
                  | (refine step_appE edgecell_len edgecell_one Try.underlying82 edgeInfo (by rfl) (by decide) (by decide) (by rfl) (.tmp 90) (.tmp 106) (by rfl) (by rfl) (B := w.heap.size) (HO.out.below (W4 _).out) (by rfl) (Box.inF (Box.made _ _ _) [rtrE e.l a] rfl) (by simp; omega) (V4 _).out.size ?_; intro F2 b2 u3 ho hg; have HO2 := Lib.hid ho; have HB2 := Lib.hid (Below.grown (V4 _).out hg (V4 _).out.size (fun r e => (HO.out.block r e).1)); clear ho hg))
              go_wp2
              go_roundw
              case rel =>
                refine ⟨i + 1, F2, b2, by omega, by go_num, rfl, ?_, HB2⟩
                have := HO2.out
                rw [List.append_assoc, ← map_snoc (rtrE e.l) e.l.routers i a HLA.out] at this
                exact Lib.hid this
              case measure => simp [intOf]; omega
            · obtain rfl : i = m2 := by omega
              have HEQ : Hid (edgesB (ys.take k) ++ (e.l.routers.take i).map (rtrE e.l) = edgesB (ys.take (k + 1))) := Lib.hid (flat_endE ys k e _ HYA.out (by
                rw [List.take_of_length_le (by rw [show e.l.routers.length = i from HRS.sl.1]; exact Nat.le_refl _)]
                unfold edgesOf; rw [HFEW.out.2.2.1 (by rw [HT.out]; decide)]; simp))
              go_wp2
              go_roundw
              case rel => exact ⟨k + 1, F, _, b1, by omega, by go_num, rfl, Lib.hid (by rw [← HEQ.out]; exact HO.out), HB⟩
              case measure => simp [intOf]; omega
        · have h1 : (e.l.typ == 1) = false := by simpa using ht1
          have h2 : (e.l.typ == 2) = false := by simpa using ht2
          have HEQ : Hid (edgesB (ys.take k) ++ [] = edgesB (ys.take (k + 1))) := Lib.hid (flat_endE ys k e _ HYA.out (by unfold edgesOf; rw [HFEW.out.2.2.1 ht1, HFEW.out.2.2.2 ht2]; rfl))
          clear ht1 ht2
          go_wp2
          go_roundw
          case rel => exact ⟨k + 1, F, _, b1, by omega, by go_num, rfl, Lib.hid (by rw [← HEQ.out, List.append_nil]; exact HO.out), HB⟩
          case measure => simp [intOf]; omega
    · have hkn : k = n := by omega
      have HO1 := Lib.hid HO.out
      go_wp2
      go_ret
      refine ⟨F, j, b1, rfl, ?_, HB.out⟩
      have := HO1.out
      rwa [List.take_of_length_le (by omega)] at this


end Go.Proofs.Ytooogjfnnmacjaa

namespace Go.Proofs.Ytooogjfnnmacjaa
open Go.RowKit
set_option linter.unusedVariables false

set_option maxRecDepth 100000 in
set_option maxHeartbeats 3200000 in
theorem specEdgesIn_any (now : Int) (q : Bool) (lo hi : Nat) (A : Option Addr) (n c : Nat) (ys : List Ent) (w : World) (ha : Rep.ent.Sl q lo hi w A n ys) (hh : hi ≤ w.heap.size) (hn : n ≤ 1048576) (hm : ∀ y ∈ ys, y.l.links.length ≤ 1048576 ∧ y.l.routers.length ≤ 1048576) :
    Calls Try.prog 58 #[.agg #[.int .i64 now, .slice A n c]] w fun e w' => ∃ E j b, e = .returned (.agg #[.int .i64 (faultB now ys), .slice E j b]) ∧ Kept w.heap.size w'.heap.size (OwnFK 191 5 edgecell w.heap.size w'.heap.size E j b (eiR now ys)) w' ∧ Below w.heap.size w w' := by
  have HB := Lib.hid (Below.refl w.heap.size w)
  have HA := Rep.Sl.kept ha hh
  have hln := ha.1
  have HM := Lib.hid hm
  clear ha hm
  obtain ⟨r, hr⟩ : ∃ z, faultB now ys = z := ⟨_, rfl⟩
  obtain ⟨xs, hxs⟩ : ∃ z, eiR now ys = z := ⟨_, rfl⟩
  have HR := Lib.hid hr
  have HXS := Lib.hid hxs
  rw [hr, hxs]
  clear hr hxs
  go_enter Try.func58, Try.ntmps58
  go_wp2_with fail
  refine Calls.name ?_
  intro U1 hU1
  have hb : Below w.heap.size w U1 := by rw [hU1]; exact (((Below.refl _ _).alloc (Nat.le_refl _) _).alloc (by simp <;> omega) _)
  have zz : Hid (w.heap.size + 2 = U1.heap.size) := Lib.hid (by rw [hU1]; simp)
  have HX1 : Kept w.heap.size (w.heap.size + 1) (BoxK w.heap.size 88 #[.int .i64 now, .slice A n c]) U1 := by rw [hU1]; exact Kept.box ((Box.made_at _ _ _ rfl).over _)
  have HX2 : Kept (w.heap.size + 1) (w.heap.size + 1 + 1) (BoxK (w.heap.size + 1) 84 #[.int .i64 0, .slice none 0 0]) U1 := by rw [hU1]; exact Kept.box (Box.made_at _ _ _ (by simp <;> omega))
  replace HA := HA.below hb
  replace HB := Lib.hid (below_step HB.out hb)
  clear hb
  have Z1 := zz; clear zz
  clear hU1
  refine (specBaseFault_any now q lo hi A n c ys _ HA.sl HA.le hn HM.out).mono ?_
  rw [HR.out]
  rintro e w2 ⟨rfl, hb⟩
  have Z2 := Lib.hid hb.size
  replace HA := HA.below hb
  replace HX1 := HX1.below hb
  replace HX2 := HX2.below hb
  replace HB := Lib.hid (below_step HB.out hb)
  clear hb
  by_cases hr0 : r = 0
  · have HF : Hid (xs = edgesB ys) := Lib.hid (by rw [← HXS.out]; exact eiR_yes (HR.out.trans hr0))
    have HFW := Lib.hid (base_few (HR.out.trans hr0))
    have hn40 : n ≤ 40 := by have := HFW.out.1; omega
    subst hr0
    have l2_0 := HX1.bx.lt
    have l2_1 := HX2.bx.lt
    go_wp2_with fail
    clear l2_0 l2_1
    refine (l7Edges_any now q lo hi w.heap.size A n c ys _ HX1.bx HA.sl HA.le hn40 HFW.out.2).mono ?_
    rintro e w3 ⟨E, j, b, rfl, ho, hb⟩
    have Z3 := Lib.hid hb.size
    replace HA := HA.below hb
    replace HX1 := HX1.below hb
    replace HX2 := HX2.below hb
    replace HB := Lib.hid (below_step HB.out hb)
    clear hb
    have HI := ho.kept (hi := w3.heap.size) rfl; clear ho
    rw [← HF.out] at HI
    have c3_0 := HX2.look 0
    have c3_1 := HX2.look 1
    have f3_0 := HX2.free 0
    have f3_1 := HX2.free 1
    have l3_0 := HX1.bx.lt
    have l3_1 := HX2.bx.lt
    go_wp2
    clear c3_0 c3_1 f3_0 f3_1 l3_0 l3_1
    obtain ⟨U4, hU4⟩ : ∃ W : World, W = ((w3.setCell ⟨w.heap.size + 1, 0, none⟩ (.int .i64 0)).setCell ⟨w.heap.size + 1, 1, none⟩ (.slice E j b)) := ⟨_, rfl⟩
    have ho : Only (w.heap.size + 1) (w.heap.size + 1 + 1) w3 U4 := by rw [hU4]; exact (((Only.refl _ _ _).set (p := ⟨w.heap.size + 1, 0, none⟩) (Nat.le_refl _) (Nat.lt_succ_self _) _).set (p := ⟨w.heap.size + 1, 1, none⟩) (Nat.le_refl _) (Nat.lt_succ_self _) _)
    replace HX2 : Kept (w.heap.size + 1) (w.heap.size + 1 + 1) (BoxK (w.heap.size + 1) 84 #[.int .i64 0, .slice E j b]) U4 := by rw [hU4]; exact Kept.box ((HX2.bx.puts 0 (.int .i64 0) (cs' := #[.int .i64 0, .slice none 0 0]) rfl).puts 1 (.slice E j b) (cs' := #[.int .i64 0, .slice E j b]) rfl)
    replace HA := HA.only ho (by have := Z1.out; have := Z2.out; have := Z3.out; omega)
    replace HX1 := HX1.only ho (by have := Z1.out; have := Z2.out; have := Z3.out; omega)
    replace HI := HI.only ho (by have := Z1.out; have := Z2.out; have := Z3.out; omega)
    replace HB := Lib.hid (Below.only HB.out ho (by have := Z1.out; have := Z2.out; have := Z3.out; omega) HB.out.size)
    have Z4 : Hid (U4.heap.size = w3.heap.size) := Lib.hid (by rw [hU4]; simp [World.setCell]); clear ho
    have q_0 := HX2.look 0
    have q_1 := HX2.look 1
    subst hU4
    exact bodyPost_ret (v := .agg #[.int .i64 0, .slice E j b]) (by simp [results, Try.results58, go_sem, q_0, q_1]) rfl ⟨E, j, b, rfl, OwnFK.wid HI (by have := Z1.out; have := Z2.out; have := Z3.out; have := Z4.out; omega) (by have := HI.le; omega) (Nat.le_refl _), HB.out⟩
  · have hr1 : (r != 0) = true := by simpa using hr0
    have HF : Hid (xs = []) := Lib.hid (by rw [← HXS.out]; exact eiR_no (by rw [HR.out]; exact hr0))
    have c2_0 := HX2.look 0
    have c2_1 := HX2.look 1
    have f2_0 := HX2.free 0
    have f2_1 := HX2.free 1
    have l2_0 := HX1.bx.lt
    have l2_1 := HX2.bx.lt
    go_wp2
    clear c2_0 c2_1 f2_0 f2_1 l2_0 l2_1
    obtain ⟨U3, hU3⟩ : ∃ W : World, W = ((w2.setCell ⟨w.heap.size + 1, 0, none⟩ (.int .i64 r)).setCell ⟨w.heap.size + 1, 1, none⟩ (.slice none 0 0)) := ⟨_, rfl⟩
    have ho : Only (w.heap.size + 1) (w.heap.size + 1 + 1) w2 U3 := by rw [hU3]; exact (((Only.refl _ _ _).set (p := ⟨w.heap.size + 1, 0, none⟩) (Nat.le_refl _) (Nat.lt_succ_self _) _).set (p := ⟨w.heap.size + 1, 1, none⟩) (Nat.le_refl _) (Nat.lt_succ_self _) _)
    replace HX2 : Kept (w.heap.size + 1) (w.heap.size + 1 + 1) (BoxK (w.heap.size + 1) 84 #[.int .i64 r, .slice none 0 0]) U3 := by rw [hU3]; exact Kept.box ((HX2.bx.puts 0 (.int .i64 r) (cs' := #[.int .i64 r, .slice none 0 0]) rfl).puts 1 (.slice none 0 0) (cs' := #[.int .i64 r, .slice none 0 0]) rfl)
    replace HA := HA.only ho (by have := Z1.out; have := Z2.out; omega)
    replace HX1 := HX1.only ho (by have := Z1.out; have := Z2.out; omega)
    replace HB := Lib.hid (Below.only HB.out ho (by have := Z1.out; have := Z2.out; omega) HB.out.size)
    have Z3 : Hid (U3.heap.size = w2.heap.size) := Lib.hid (by rw [hU3]; simp [World.setCell]); clear ho
    have q_0 := HX2.look 0
    have q_1 := HX2.look 1
    subst hU3
    exact bodyPost_ret (v := .agg #[.int .i64 r, .slice none 0 0]) (by simp [results, Try.results58, go_sem, q_0, q_1]) rfl ⟨none, 0, 0, rfl, by rw [HF.out]; exact (OwnF.nil_ _ _ _ _ _).kept rfl, HB.out⟩


end Go.Proofs.Ytooogjfnnmacjaa

namespace Go.Proofs.Ytooogjfnnmacjaa
open Go.RowKit
set_option linter.unusedVariables false

theorem edges_of_own {t : TypeId} {w : World} {B n c : Nat} {A : Option Addr} {ys : List Eg} (h : OwnF t 5 edgecell w B A n c ys) : ∃ bs, Rep.edge.FSl w A n ys bs ∧ bs.Nodup ∧ ∀ x ∈ bs, A.map (·.block) = some x := by
  rcases Nat.eq_zero_or_pos n with h0 | h0
  · subst h0
    exact ⟨[], .inl ⟨rfl, List.eq_nil_of_length_eq_zero h.1, rfl⟩, List.nodup_nil, fun x hx => by cases hx⟩
  · obtain ⟨g, rfl, hBg, hgs⟩ := h.form h0
    refine ⟨[g], .inr ⟨h0, g, rfl, h.1, fun _ => ⟨g, 0, rfl, Nat.le_refl _, Nat.lt_succ_self _, fun _ i => World.ownsRow.frozenAt h.2 i, fun i a ha => ⟨edgecell a, rfl, fun j u hj => ?_⟩⟩⟩, by simp, fun x hx => by simp at hx; rw [hx]; rfl⟩
    have hj4 : j < 5 := by have := (List.getElem?_eq_some_iff.1 hj).1; simpa [edgecell] using this
    have hil := (List.getElem?_eq_some_iff.1 ha).1
    have := World.ownsRow.cellAt h.2 (i * 5 + j) (by have := h.1; omega)
    show w.cell? ⟨g, 0 + i * 5 + j, none⟩ = some u
    rw [Nat.zero_add, this, flat_get edgecell_len ys i a ha j hj4, hj]
theorem Kept.edges {lo hi : Nat} {t : TypeId} {A : Option Addr} {n c : Nat} {ys : List Eg} {w : World} (h : Kept lo hi (OwnFK t 5 edgecell lo hi A n c ys) w) : Rep.edge.Sl true lo hi w A n ys := by
  obtain ⟨bs, h1, _, h3⟩ := edges_of_own h.ownF
  exact h1.sl fun b hb => ⟨(h.ownF.block b (h3 b hb)).1, h.lim b (h3 b hb)⟩

set_option maxRecDepth 100000 in
set_option maxHeartbeats 1600000 in
theorem eqEdgesResult_yes (r : Int) (q1 q2 : Bool) (l1 h1 l2 h2 : Nat) (A B : Option Addr) (n c d : Nat) (ys : List Eg) (w : World) (ha : Rep.edge.Sl q1 l1 h1 w A n ys) (hb : Rep.edge.Sl q2 l2 h2 w B n ys) (hh1 : h1 ≤ w.heap.size) (hh2 : h2 ≤ w.heap.size) (hn : n ≤ 1048576) :
    Calls Try.prog 61 #[.agg #[.int .i64 r, .slice A n c], .agg #[.int .i64 r, .slice B n d]] w fun e w' => e = .returned (.bool true) ∧ Below w.heap.size w w' := by
  have HB := Lib.hid (Below.refl w.heap.size w)
  have HA := Rep.Sl.kept ha hh1
  have HC := Rep.Sl.kept hb hh2
  clear ha hb
  go_enter Try.func61, Try.ntmps61
  go_wp2_with fail
  refine Calls.name ?_
  intro U1 hU1
  have hb : Below w.heap.size w U1 := by rw [hU1]; exact (((Below.refl _ _).alloc (Nat.le_refl _) _).alloc (by simp <;> omega) _)
  have zz : Hid (w.heap.size + 2 = U1.heap.size) := Lib.hid (by rw [hU1]; simp)
  have HX1 : Kept w.heap.size (w.heap.size + 1) (BoxK w.heap.size 84 #[.int .i64 r, .slice A n c]) U1 := by rw [hU1]; exact Kept.box ((Box.made_at _ _ _ rfl).over _)
  have HX2 : Kept (w.heap.size + 1) (w.heap.size + 1 + 1) (BoxK (w.heap.size + 1) 84 #[.int .i64 r, .slice B n d]) U1 := by rw [hU1]; exact Kept.box (Box.made_at _ _ _ (by simp <;> omega))
  replace HA := HA.below hb
  replace HC := HC.below hb
  replace HB := Lib.hid (below_step HB.out hb)
  clear hb
  have Z1 := zz; clear zz
  clear hU1
  refine (eqEdgeS_yes q1 q2 l1 h1 l2 h2 A B n c d ys _ HA.sl HC.sl HA.le HC.le hn).mono ?_
  rintro e w2 ⟨rfl, hb⟩
  have Z2 := Lib.hid hb.size
  replace HA := HA.below hb
  replace HC := HC.below hb
  replace HX1 := HX1.below hb
  replace HX2 := HX2.below hb
  replace HB := Lib.hid (below_step HB.out hb)
  clear hb
  have l2_0 := HX1.bx.lt
  have l2_1 := HX2.bx.lt
  go_wp2
  clear l2_0 l2_1
  go_ret
  exact ⟨rfl, HB.out⟩

set_option maxHeartbeats 800000 in
theorem markEdgesResult_any (r : Int) (lo hi : Nat) (A : Option Addr) (n c : Nat) (ys : List Eg) (k0 : Int) (w : World) (ha : Rep.edge.Sl true lo hi w A n ys) (hh : hi ≤ w.heap.size) (hn : n ≤ 1048576) (h0 : 0 ≤ k0) (h1 : k0 ≤ 8388608) :
    Calls Try.prog 64 #[.agg #[.int .i64 r, .slice A n c], .int .i64 k0] w fun e w' => e = .returned (.int .i64 (k0 + 5 * n)) ∧ Rep.edge.Sl true lo hi w' A n (mEdges k0 n) ∧ Only lo hi w w' := by
  have hb0 : Below w.heap.size w (w.alloc (.cells #[.int .i64 r, .slice A n c] 84)) := (Below.refl _ _).alloc (Nat.le_refl _) _
  have HA := Lib.hid (ha.below hb0 hh)
  have HB := Lib.hid hb0
  clear ha hb0
  go_enter Try.func64, Try.ntmps64
  go_wp2_with fail
  refine (markEdgeS_any lo hi A n c ys k0 _ HA.out hn h0 (by omega)).mono ?_
  rintro e w2 ⟨rfl, hs, ho⟩
  have HS := Lib.hid hs
  have HO := Lib.hid ((Only.of_below HB.out lo hi).trans ho)
  clear hs ho
  go_wp2
  go_ret
  exact ⟨rfl, HS.out, HO.out⟩

set_option maxRecDepth 100000 in
set_option maxHeartbeats 1600000 in
theorem heldEdgesResult_yes (r : Int) (q : Bool) (lo hi : Nat) (A : Option Addr) (n c : Nat) (k0 : Int) (w : World) (ha : Rep.edge.Sl q lo hi w A n (mEdges k0 n)) (hh : hi ≤ w.heap.size) (hn : n ≤ 1048576) (h0 : 0 ≤ k0) (h1 : k0 ≤ 1048576) :
    Calls Try.prog 65 #[.agg #[.int .i64 r, .slice A n c], .int .i64 k0] w fun e w' => e = .returned (.int .i64 (k0 + 5 * n)) ∧ Below w.heap.size w w' := by
  have HB := Lib.hid (Below.refl w.heap.size w)
  have HA := Rep.Sl.kept ha hh
  have hq : ¬ (k0 + 5 * (n : Int) < 0) := by omega
  clear ha
  go_enter Try.func65, Try.ntmps65
  go_wp2_with fail
  refine Calls.name ?_
  intro U1 hU1
  have hb : Below w.heap.size w U1 := by rw [hU1]; exact ((Below.refl _ _).alloc (Nat.le_refl _) _)
  have zz : Hid (w.heap.size + 1 = U1.heap.size) := Lib.hid (by rw [hU1]; simp)
  have HX1 : Kept w.heap.size (w.heap.size + 1) (BoxK w.heap.size 84 #[.int .i64 r, .slice A n c]) U1 := by rw [hU1]; exact Kept.box (Box.made_at _ _ _ rfl)
  replace HA := HA.below hb
  replace HB := Lib.hid (below_step HB.out hb)
  clear hb
  have Z1 := zz; clear zz
  clear hU1
  refine (heldEdgeS_yes q lo hi A n c k0 _ HA.sl hn h0 (by omega)).mono ?_
  rintro e w2 ⟨rfl, rfl⟩
  have l2_0 := HX1.bx.lt
  go_wp2
  clear l2_0
  go_ret
  exact ⟨rfl, HB.out⟩


end Go.Proofs.Ytooogjfnnmacjaa

namespace Go.Proofs.Ytooogjfnnmacjaa
open Go.RowKit Go.Shelf
set_option linter.unusedVariables false

/-- A kind of map: its types, how its keys lie in values, when two of them are the same, and what is read where there is none. -/
structure MapK (α : Type) where
  mt : TypeId
  kt : TypeId
  vt : TypeId
  enc : α → Value
  eqb : α → α → Bool
  zero : Value
  eqb_iff : ∀ a b, eqb a b = true ↔ a = b
  mu : Try.prog.underlying mt = some (.map kt vt)
  equal : ∀ a b W, (Op.equal kt (enc a) (enc b)).run Try.prog W = .ok (eqb a b) W
  check : ∀ e a W, (Instr.checkKey e 10000 kt (enc a)).run Try.prog W = .ok () W
  now : ∃ u, Try.prog.underlying kt = some u ∧ ∀ a e es, Instr.findNow u (enc a) (e :: es) 0 = none
  bits : ∀ a, Instr.sameBits 10000 (enc a) (enc a) = true
  zeroR : ∀ W, (zeroValue vt).run Try.prog W = .ok zero W

section
variable {α : Type} (K : MapK α)
def MapG (w : World) (b : Nat) (ps : List (α × Value)) : Prop := ∃ es clock, w.heap[b]? = some (.map es clock) ∧ es.toList.map (fun e => (e.key, e.val)) = ps.map fun p => (K.enc p.1, p.2)
def findG (a : α) : List (α × Value) → Nat → Option (Nat × Value)
  | [], _ => none
  | p :: ps, i => if K.eqb a p.1 = true then some (i, p.2) else findG a ps (i + 1)
/-- What a map has at a key. -/
def getG (a : α) : List (α × Value) → Option Value
  | [] => none
  | p :: ps => if K.eqb a p.1 = true then some p.2 else getG a ps
/-- A map with another value at a key. -/
def putG (a : α) (v : Value) : List (α × Value) → List (α × Value)
  | [] => [(a, v)]
  | p :: ps => if K.eqb a p.1 = true then (p.1, v) :: ps else p :: putG a v ps
theorem findG_get (a : α) : ∀ (ps : List (α × Value)) (i : Nat), (findG K a ps i).map (·.2) = getG K a ps
  | [], _ => rfl
  | p :: ps, i => by
    unfold findG getG
    by_cases h : K.eqb a p.1 = true
    · rw [if_pos h, if_pos h]; rfl
    · rw [if_neg h, if_neg h]; exact findG_get a ps (i + 1)
theorem putG_none {a : α} {v : Value} : ∀ {ps : List (α × Value)} {i : Nat}, findG K a ps i = none → putG K a v ps = ps ++ [(a, v)]
  | [], _, _ => rfl
  | p :: ps, i, h => by
    unfold findG at h
    unfold putG
    by_cases e : K.eqb a p.1 = true
    · rw [if_pos e] at h; cases h
    · rw [if_neg e] at h
      rw [if_neg e, putG_none h]; rfl
theorem putG_some {a : α} {v v0 : Value} : ∀ {ps : List (α × Value)} {i k : Nat}, findG K a ps i = some (k, v0) → ∃ j, k = i + j ∧ ps[j]? = some (a, v0) ∧ putG K a v ps = ps.set j (a, v)
  | [], _, _, h => by cases h
  | p :: ps, i, k, h => by
    unfold findG at h
    unfold putG
    by_cases e : K.eqb a p.1 = true
    · rw [if_pos e] at h
      injection h with h
      injection h with h1 h2
      have hp := (K.eqb_iff a p.1).1 e
      exact ⟨0, by omega, by rw [hp, ← h2]; rfl, by rw [if_pos e, hp]; rfl⟩
    · rw [if_neg e] at h
      obtain ⟨j, h1, h2, h3⟩ := putG_some (v := v) h
      exact ⟨j + 1, by omega, by simpa using h2, by rw [if_neg e, h3]; rfl⟩
theorem getG_put (a b : α) (v : Value) : ∀ ps : List (α × Value), getG K b (putG K a v ps) = if K.eqb a b = true then some v else getG K b ps
  | [] => by
    unfold putG getG
    by_cases e : K.eqb a b = true
    · rw [if_pos ((K.eqb_iff b a).2 ((K.eqb_iff a b).1 e).symm), if_pos e]
    · rw [if_neg (fun h => e ((K.eqb_iff a b).2 ((K.eqb_iff b a).1 h).symm)), if_neg e]; rfl
  | p :: ps => by
    unfold putG
    by_cases h : K.eqb a p.1 = true
    · have hp := (K.eqb_iff a p.1).1 h
      rw [if_pos h]
      unfold getG
      by_cases e : K.eqb a b = true
      · rw [if_pos ((K.eqb_iff b p.1).2 (by rw [← (K.eqb_iff a b).1 e, hp])), if_pos e]
      · have hb : ¬ K.eqb b p.1 = true := fun hb => e ((K.eqb_iff a b).2 (hp.trans ((K.eqb_iff b p.1).1 hb).symm))
        rw [if_neg hb, if_neg e, if_neg hb]
    · rw [if_neg h]
      unfold getG
      by_cases hb : K.eqb b p.1 = true
      · have hp := (K.eqb_iff b p.1).1 hb
        rw [if_pos hb, if_neg (fun e => h (by rw [(K.eqb_iff a b).1 e]; exact hb)), if_pos hb]
      · rw [if_neg hb, if_neg hb]
        exact getG_put a b v ps
theorem findAskingG (a : α) (W : World) : ∀ (ps : List (α × Value)) (es : List MapEntry) (i : Nat), es.map (fun e => (e.key, e.val)) = ps.map (fun p => (K.enc p.1, p.2)) →
    (Instr.findAsking K.kt (K.enc a) es i).run Try.prog W = .ok (findG K a ps i) W := by
  intro ps
  induction ps with
  | nil =>
    intro es i h
    obtain rfl : es = [] := by simpa using h
    simp [Instr.findAsking, findG]
  | cons t ts ih =>
    intro es i h
    cases es with
    | nil => simp at h
    | cons e es =>
      simp only [List.map_cons, List.cons.injEq, Prod.mk.injEq] at h
      obtain ⟨⟨hk, hv⟩, hr⟩ := h
      simp only [Instr.findAsking, Sem.run_bind, hk, K.equal, Result.andThen_ok]
      by_cases hkt : K.eqb a t.1 = true
      · simp [hkt, hv, findG]
      · have hkf : K.eqb a t.1 = false := by simpa using hkt
        rw [hkf]
        simp only [Bool.false_eq_true, if_false]
        rw [ih es (i + 1) hr, findG, if_neg hkt]
theorem findKeyG (a : α) (W : World) (ps : List (α × Value)) (es : List MapEntry) (h : es.map (fun e => (e.key, e.val)) = ps.map (fun p => (K.enc p.1, p.2))) :
    (Instr.findKey K.kt (K.enc a) es).run Try.prog W = .ok (findG K a ps 0) W := by
  obtain ⟨u, hu0, hn⟩ := K.now
  have hu := run_underlying (w := W) hu0
  cases es with
  | nil =>
    obtain rfl : ps = [] := by cases ps; rfl; simp at h
    simp [Instr.findKey, hu, Instr.findNow, findG]
  | cons e es =>
    have ha := findAskingG K a W ps (e :: es) 0 h
    simp only [Instr.findKey, Sem.run_bind, hu, Result.andThen_ok, hn, ha]
/-- What a map answers. -/
def answerG (a : α) (ps : List (α × Value)) (ok : Bool) : Value :=
  match getG K a ps with
  | some v => if ok then .tuple #[v, .bool true] else v
  | none => if ok then .tuple #[K.zero, .bool false] else K.zero
variable {K}
theorem lookupG {w : World} {b : Nat} {ps : List (α × Value)} (h : MapG K w b ps) (a : α) (ok : Bool) : (Instr.lookup K.mt (.map (some b)) (K.enc a) ok).run Try.prog w = .ok (answerG K a ps ok) w := by
  obtain ⟨es, clock, hb, he⟩ := h
  have hu := run_underlying (w := w) K.mu
  have hf := findKeyG K a w ps es.toList he
  have hz := K.zeroR w
  have hc := K.check es.isEmpty a w
  have hg := findG_get K a ps 0
  unfold answerG
  rw [← hg]
  simp only [Instr.lookup, Sem.run_bind, hu, Result.andThen_ok, getObj, Sem.run, hb, hc, hf, Sem.run_pure]
  cases findG K a ps 0 with
  | none => cases ok <;> simp [hz]
  | some p => cases ok <;> simp
theorem updateG {w : World} {b : Nat} {ps : List (α × Value)} (h : MapG K w b ps) (a : α) (v : Value) : ∃ w', (Instr.mapUpdate K.mt (.map (some b)) (K.enc a) v).run Try.prog w = .ok () w' ∧ MapG K w' b (putG K a v ps) ∧ w.grownBy w' (some b) ∧ w'.heap.size = w.heap.size := by
  obtain ⟨es, clock, hb, he⟩ := h
  have hu := run_underlying (w := w) K.mu
  have hf := findKeyG K a w ps es.toList he
  have hc := K.check false a w
  have hlt : b < w.heap.size := (Array.getElem?_eq_some_iff.1 hb).1
  cases hfg : findG K a ps 0 with
  | none =>
    refine ⟨w.putObj b (.map (es.push { key := K.enc a, val := v, born := clock }) (clock + 1)), ?_, ⟨_, _, World.putObj_heap_same hlt, by rw [putG_none K hfg]; simp [he]⟩, grownBy_putObj' w b _, by simp [World.putObj]⟩
    simp [Instr.mapUpdate, Sem.run_bind, hu, getObj, setObj, Sem.run, hb, hc, hf, hfg, Result.andThen, World.putObj]
  | some q =>
    obtain ⟨i, v0⟩ := q
    obtain ⟨j, h1, h2, h3⟩ := putG_some K (v := v) hfg
    obtain rfl : i = j := by omega
    have hei : ∃ e, es[i]? = some e ∧ e.key = K.enc a ∧ e.val = v0 := by
      have := congrArg (fun l => l[i]?) he
      simp only [List.getElem?_map, h2, Option.map_some] at this
      cases hes : es.toList[i]? with
      | none => rw [hes] at this; cases this
      | some e =>
        rw [hes] at this
        simp only [Option.map_some, Option.some.injEq, Prod.mk.injEq] at this
        exact ⟨e, by simpa using hes, this.1, this.2⟩
    obtain ⟨e, he1, he2, he3⟩ := hei
    have hbits := K.bits a
    refine ⟨w.putObj b (.map (es.modify i fun e => { e with key := K.enc a, val := v }) clock), ?_, ⟨_, _, World.putObj_heap_same hlt, ?_⟩, grownBy_putObj' w b _, by simp [World.putObj]⟩
    · simp [Instr.mapUpdate, Sem.run_bind, hu, getObj, setObj, Sem.run, hb, hc, hf, hfg, Result.andThen, World.putObj, Instr.keyThatStays, he1, he2, hbits]
    · rw [h3, List.map_set, ← he, Array.toList_modify]
      apply List.ext_getElem?
      intro t
      simp only [List.getElem?_map, List.getElem?_modify, List.getElem?_set, List.length_map, Array.length_toList]
      by_cases hti : i = t
      · subst hti
        have hl := (Array.getElem?_eq_some_iff.1 he1).1
        simp [hl]
      · simp [hti]
theorem MapG.grown {w w' : World} {b : Nat} {ps : List (α × Value)} (h : MapG K w b ps) {row : Option Nat} (hg : w.grownBy w' row) (hr : row ≠ some b) : MapG K w' b ps := by
  obtain ⟨es, clock, hb, he⟩ := h
  exact ⟨es, clock, (hg.block b (Array.getElem?_eq_some_iff.1 hb).1 (fun e => hr e.symm)).trans hb, he⟩
theorem MapG.lt {w : World} {b : Nat} {ps : List (α × Value)} (h : MapG K w b ps) : b < w.heap.size := by
  obtain ⟨es, clock, hb, he⟩ := h
  exact (Array.getElem?_eq_some_iff.1 hb).1
theorem MapG.below {w w' : World} {b : Nat} {ps : List (α × Value)} (h : MapG K w b ps) (hb : Below w.heap.size w w') : MapG K w' b ps := by
  have hl := h.lt
  obtain ⟨es, clock, h1, he⟩ := h
  exact ⟨es, clock, (hb.block b hl).trans h1, he⟩
theorem MapG.drew {w : World} {b : Nat} {ps : List (α × Value)} (h : MapG K w b ps) : MapG K w.drew b ps := h
theorem MapG.over {w : World} {b : Nat} {ps : List (α × Value)} (h : MapG K w b ps) (o : Obj) : MapG K (w.alloc o) b ps := h.below ((Below.refl _ _).alloc (Nat.le_refl _) _)
theorem MapG.made (K : MapK α) (w : World) : MapG K (w.alloc (.map #[] 0)) w.heap.size [] := ⟨#[], 0, World.alloc_heap_new w _, rfl⟩
theorem MapG.kept {w : World} {b : Nat} {ps : List (α × Value)} (h : MapG K w b ps) : Kept b (b + 1) (fun W => MapG K W b ps) w :=
  ⟨h.lt, fun w2 k => by
    obtain ⟨es, clock, h1, he⟩ := h
    exact ⟨es, clock, (k b (Nat.le_refl _) (Nat.lt_succ_self _)).trans h1, he⟩⟩
/-- A map is no row of cells. -/
theorem MapG.ne_own {w : World} {b : Nat} {ps : List (α × Value)} (h : MapG K w b ps) {β : Type} {t : TypeId} {size : Nat} {f : β → List Value} {B n c : Nat} {A : Option Addr} {ys : List β} (ho : OwnF t size f w B A n c ys) : A.map (·.block) ≠ some b := by
  intro e
  obtain ⟨es, clock, hb, _⟩ := h
  rcases ho.2.2 with ⟨h', _⟩ | ⟨g', cap, cur, h', _, hg, _⟩
  · simp only [Value.slice.injEq] at h'
    rw [h'.1] at e
    cases e
  · simp only [Value.slice.injEq] at h'
    rw [h'.1] at e
    simp only [Option.map_some, Option.some.injEq] at e
    subst e
    rw [hb] at hg
    cases hg
theorem wpList_lookupG {ops : Array Oper} {rest : List Oper} {o : Oper} {a : Act} {Q : Exit → Act → World → Prop} {w : World} (hgd : o.guard = none) {t : TypeId} (u v : Operand) (ok : Bool) (ho : o.op = .lookup t u v ok) (ht : t = K.mt)
    {b : Nat} {ps : List (α × Value)} (h : MapG K w b ps) (x : α) (hx : a.eval u = .map (some b)) (hy : a.eval v = K.enc x)
    (k : wpList Try.prog ops Q rest (a.put o.dst (answerG K x ps ok)) w) : wpList Try.prog ops Q (o :: rest) a w := by
  subst ht
  refine wpList_plain hgd fun K' hK => ?_
  have hl := lookupG h x ok
  unfold Oper.wp
  simp only [execOp, ho, hx, hy, Sem.run_bind, hl, Result.andThen_ok, Sem.run_pure]
  exact hK _ _ k
theorem wpList_updateG {ops : Array Oper} {rest : List Oper} {o : Oper} {a : Act} {Q : Exit → Act → World → Prop} {w : World} (hgd : o.guard = none) {t : TypeId} (u v z : Operand) (ho : o.op = .mapUpdate t u v z) (ht : t = K.mt)
    {b : Nat} {ps : List (α × Value)} (h : MapG K w b ps) (x : α) {y : Value} (hx : a.eval u = .map (some b)) (hy : a.eval v = K.enc x) (hz : a.eval z = y)
    (k : ∀ w', MapG K w' b (putG K x y ps) → w.grownBy w' (some b) → w'.heap.size = w.heap.size → wpList Try.prog ops Q rest (a.put o.dst undef) w') : wpList Try.prog ops Q (o :: rest) a w := by
  subst ht
  refine wpList_plain hgd fun K' hK => ?_
  obtain ⟨w', hl, h1, h2, h3⟩ := updateG h x y
  unfold Oper.wp
  simp only [execOp, ho, hx, hy, hz, Sem.run_bind, hl, Result.andThen_ok, Sem.run_pure]
  exact hK _ _ (k w' h1 h2 h3)
end

end Go.Proofs.Ytooogjfnnmacjaa

namespace Go.Proofs.Ytooogjfnnmacjaa
open Go.RowKit Go.Shelf
set_option linter.unusedVariables false

/-- Are two nodes the same. -/
def ndE (a b : Nd) : Bool := decide (a.net = b.net) && decide (a.id = b.id)
theorem ndE_iff (a b : Nd) : ndE a b = true ↔ a = b := by
  cases a; cases b
  simp [ndE]
abbrev pairV (p : Nd × Nd) : Value := .agg #[.bool p.1.net, .int .i64 p.1.id, .bool p.2.net, .int .i64 p.2.id]
theorem equalIn_nd (n m : Bool) (i j : Int) (W : World) : (Op.equalIn 9999 105 (.agg #[.bool n, .int .i64 i]) (.agg #[.bool m, .int .i64 j])).run Try.prog W = .ok (decide (n = m) && decide (i = j)) W := by
  cases n <;> cases m <;> by_cases h2 : i = j <;> simp [go_sem, h2]
theorem part_nd (c0 c1 c2 c3 : Value) (W : World) : (part 105 #[c0, c1, c2, c3] 0).run Try.prog W = .ok (.agg #[c0, c1]) W ∧ (part 105 #[c0, c1, c2, c3] 2).run Try.prog W = .ok (.agg #[c2, c3]) W := ⟨by kernel_rfl, by kernel_rfl⟩
theorem equal_pair (a b : Nd × Nd) (W : World) : (Op.equal 192 (pairV a) (pairV b)).run Try.prog W = .ok (ndE a.1 b.1 && ndE a.2 b.2) W := by
  obtain ⟨⟨n1, i1⟩, ⟨n2, i2⟩⟩ := a
  obtain ⟨⟨m1, j1⟩, ⟨m2, j2⟩⟩ := b
  obtain ⟨i0, hi, _, _, _⟩ := info_parts nodeInfo
  have h := run_equalIn_array (w := W) 9999 (t := 192) (e := 105) (n := 2) #[.bool n1, .int .i64 i1, .bool n2, .int .i64 i2] #[.bool m1, .int .i64 j1, .bool m2, .int .i64 j2] (by kernel_rfl) hi
  have hc : Try.prog.cellsOf 105 = 2 := by kernel_rfl
  rw [hc] at h
  refine h.trans ?_
  rw [show List.range 2 = [0, 1] from rfl]
  have p1 := part_nd (.bool n1) (.int .i64 i1) (.bool n2) (.int .i64 i2) W
  have p2 := part_nd (.bool m1) (.int .i64 j1) (.bool m2) (.int .i64 j2) W
  have e1 := equalIn_nd n1 m1 i1 j1 W
  have e2 := equalIn_nd n2 m2 i2 j2 W
  simp only [Op.eqItems, Sem.run_bind, Nat.zero_mul, Nat.one_mul, p1.1, p2.1, e1, Result.andThen_ok]
  unfold ndE
  have p1b := p1.2
  have p2b := p2.2
  generalize (decide (n1 = m1) && decide (i1 = j1)) = r1
  generalize (decide (n2 = m2) && decide (i2 = j2)) = r2 at e2
  cases r1 <;> cases r2 <;> simp [p1b, p2b, e2]
theorem check_pair (e : Bool) (a : Nd × Nd) (W : World) : (Instr.checkKey e 10000 192 (pairV a)).run Try.prog W = .ok () W := by
  obtain ⟨⟨n1, i1⟩, ⟨n2, i2⟩⟩ := a
  kernel_rfl
/-- The map of pairs that are told. -/
def pairK : MapK (Nd × Nd) where
  mt := 189
  kt := 192
  vt := 4
  enc := pairV
  eqb a b := ndE a.1 b.1 && ndE a.2 b.2
  zero := .bool false
  eqb_iff a b := by
    obtain ⟨a1, a2⟩ := a
    obtain ⟨b1, b2⟩ := b
    simp [ndE_iff]
  mu := by kernel_rfl
  equal := equal_pair
  check := check_pair
  now := ⟨_, Try.underlying192, fun a e es => by simp [Instr.findNow, Instr.sameNow]⟩
  bits a := by rw [show (10000 : Nat) = 9999 + 1 from rfl]; simp [Instr.sameBits]
  zeroR W := by kernel_rfl

end Go.Proofs.Ytooogjfnnmacjaa

namespace Go.Proofs.Ytooogjfnnmacjaa
open Go.RowKit
set_option linter.unusedVariables false

/-- Rows, told by their cells, are cut. -/
theorem ownsRow_cut {w : World} {B g n c size : Nat} {e : TypeId} {xs : List Value} (h : w.ownsRow B e size (.slice (some ⟨g, 0, none⟩) n c) n xs) {i : Nat} (hi : i ≤ n) :
    w.ownsRow B e size (.slice (some ⟨g, 0, none⟩) i c) i (xs.take (i * size)) := by
  have hm : i * size ≤ n * size := Nat.mul_le_mul_right _ hi
  rcases h.2 with ⟨h', _⟩ | ⟨g', cap, cur, h1, h2, h3, h4, h5, h6, h7⟩
  · simp at h'
  · simp only [Value.slice.injEq, Option.some.injEq, Addr.mk.injEq, and_true, true_and] at h1
    obtain ⟨rfl, rfl⟩ := h1
    exact ⟨by rw [List.length_take, h.1]; omega, .inr ⟨g, c, cur, rfl, h2, h3, by omega, h5, h6, by rw [← h7, List.take_take, Nat.min_eq_left hm]⟩⟩
theorem ownsRow_sets {B g n c size : Nat} {e : TypeId} : ∀ (vs : List Value) (o : Nat) (w : World) (xs : List Value), w.ownsRow B e size (.slice (some ⟨g, 0, none⟩) n c) n xs →
    ∃ xs', (w.setCells g o vs).ownsRow B e size (.slice (some ⟨g, 0, none⟩) n c) n xs' ∧ xs'.take o = xs.take o ∧ w.grownBy (w.setCells g o vs) (some g)
  | [], o, w, xs, h => ⟨xs, h, rfl, World.grownBy.refl w _⟩
  | v :: r, o, w, xs, h => by
    obtain ⟨h1, h2⟩ := World.ownsRow.stored h o v
    obtain ⟨xs', k1, k2, k3⟩ := ownsRow_sets r (o + 1) _ _ h1
    refine ⟨xs', k1, ?_, grown_trans h2 k3⟩
    have := congrArg (List.take o) k2
    rw [List.take_take, List.take_take, Nat.min_eq_left (Nat.le_succ _), List.take_set] at this
    rw [this, List.set_eq_of_length_le (by rw [List.length_take]; omega)]
theorem flat_take5 (ys : List Eg) : ∀ i, (ys.flatMap edgecell).take (i * 5) = (ys.take i).flatMap edgecell := by
  induction ys with
  | nil => intro i; simp
  | cons y t ih =>
    intro i
    cases i with
    | zero => simp
    | succ i =>
      rw [List.take_succ_cons, List.flatMap_cons, List.flatMap_cons, ← ih i, List.take_append, edgecell_len, List.take_of_length_le (by rw [edgecell_len]; omega), show (i + 1) * 5 - 5 = i * 5 by omega]
theorem flat_set5 (a : Eg) : ∀ (ys : List Eg) (i : Nat), i < ys.length → ((((((ys.flatMap edgecell).set (i * 5) (.bool a.frm.net)).set (i * 5 + 1) (.int .i64 a.frm.id)).set (i * 5 + 2) (.bool a.dst.net)).set (i * 5 + 3) (.int .i64 a.dst.id)).set (i * 5 + 4) (.int .i64 a.cost)) = (ys.set i a).flatMap edgecell
  | [], i, h => by simp at h
  | y :: t, 0, h => by simp [edgecell]
  | y :: t, i + 1, h => by
    have := flat_set5 a t i (by simpa using h)
    rw [List.set_cons_succ, List.flatMap_cons, List.flatMap_cons, ← this]
    simp only [edgecell, List.cons_append, List.nil_append, show (i + 1) * 5 = i * 5 + 1 + 1 + 1 + 1 + 1 by omega, show i * 5 + 1 + 1 + 1 + 1 + 1 + 1 = (i * 5 + 1) + 1 + 1 + 1 + 1 + 1 by omega, show i * 5 + 1 + 1 + 1 + 1 + 1 + 2 = (i * 5 + 2) + 1 + 1 + 1 + 1 + 1 by omega, show i * 5 + 1 + 1 + 1 + 1 + 1 + 3 = (i * 5 + 3) + 1 + 1 + 1 + 1 + 1 by omega, show i * 5 + 1 + 1 + 1 + 1 + 1 + 4 = (i * 5 + 4) + 1 + 1 + 1 + 1 + 1 by omega, List.set_cons_succ]

section
variable {w : World} {B g n c : Nat} {zs : List Eg} {t : TypeId}
/-- An edge is put. -/
theorem OwnF.put5 (h : OwnF t 5 edgecell w B (some ⟨g, 0, none⟩) n c zs) (i : Nat) (a : Eg) (hi : i < n) :
    OwnF t 5 edgecell (((((w.setCell ⟨g, i * 5, none⟩ (.bool a.frm.net)).setCell ⟨g, i * 5 + 1, none⟩ (.int .i64 a.frm.id)).setCell ⟨g, i * 5 + 2, none⟩ (.bool a.dst.net)).setCell ⟨g, i * 5 + 3, none⟩ (.int .i64 a.dst.id)).setCell ⟨g, i * 5 + 4, none⟩ (.int .i64 a.cost)) B (some ⟨g, 0, none⟩) n c (zs.set i a) ∧
      w.grownBy (((((w.setCell ⟨g, i * 5, none⟩ (.bool a.frm.net)).setCell ⟨g, i * 5 + 1, none⟩ (.int .i64 a.frm.id)).setCell ⟨g, i * 5 + 2, none⟩ (.bool a.dst.net)).setCell ⟨g, i * 5 + 3, none⟩ (.int .i64 a.dst.id)).setCell ⟨g, i * 5 + 4, none⟩ (.int .i64 a.cost)) (some g) := by
  obtain ⟨s1, g1⟩ := World.ownsRow.stored h.2 (i * 5) (.bool a.frm.net)
  obtain ⟨s2, g2⟩ := World.ownsRow.stored s1 (i * 5 + 1) (.int .i64 a.frm.id)
  obtain ⟨s3, g3⟩ := World.ownsRow.stored s2 (i * 5 + 2) (.bool a.dst.net)
  obtain ⟨s4, g4⟩ := World.ownsRow.stored s3 (i * 5 + 3) (.int .i64 a.dst.id)
  obtain ⟨s5, g5⟩ := World.ownsRow.stored s4 (i * 5 + 4) (.int .i64 a.cost)
  rw [flat_set5 a zs i (by rw [h.1]; exact hi)] at s5
  exact ⟨⟨by rw [List.length_set]; exact h.1, s5⟩, grown_trans g1 (grown_trans g2 (grown_trans g3 (grown_trans g4 g5)))⟩
/-- The head of a row. -/
theorem OwnF.cut5 (h : OwnF t 5 edgecell w B (some ⟨g, 0, none⟩) n c zs) {i : Nat} (hi : i ≤ n) : OwnF t 5 edgecell w B (some ⟨g, 0, none⟩) i c (zs.take i) :=
  ⟨by rw [List.length_take, h.1]; omega, by rw [← flat_take5]; exact ownsRow_cut h.2 hi⟩
/-- What lies behind i is written over, and cut off. -/
theorem OwnF.clear5 (h : OwnF t 5 edgecell w B (some ⟨g, 0, none⟩) n c zs) {i : Nat} (hi : i ≤ n) (vs : List Value) :
    OwnF t 5 edgecell (w.setCells g (i * 5) vs) B (some ⟨g, 0, none⟩) i c (zs.take i) ∧ w.grownBy (w.setCells g (i * 5) vs) (some g) := by
  obtain ⟨xs', k1, k2, k3⟩ := ownsRow_sets vs (i * 5) _ _ h.2
  refine ⟨⟨by rw [List.length_take, h.1]; omega, ?_⟩, k3⟩
  have := ownsRow_cut k1 hi
  rwa [k2, flat_take5] at this
/-- The cells of an edge of a row. -/
theorem OwnF.at5 (h : OwnF t 5 edgecell w B (some ⟨g, 0, none⟩) n c zs) {k : Nat} {a : Eg} (ha : zs[k]? = some a) :
    w.cell? ⟨g, k * 5, none⟩ = some (.bool a.frm.net) ∧ w.cell? ⟨g, k * 5 + 1, none⟩ = some (.int .i64 a.frm.id) ∧ w.cell? ⟨g, k * 5 + 2, none⟩ = some (.bool a.dst.net) ∧ w.cell? ⟨g, k * 5 + 3, none⟩ = some (.int .i64 a.dst.id) ∧ w.cell? ⟨g, k * 5 + 4, none⟩ = some (.int .i64 a.cost) := by
  have hk := (List.getElem?_eq_some_iff.1 ha).1
  have c : ∀ j, j < 5 → w.cell? ⟨g, k * 5 + j, none⟩ = (edgecell a)[j]? := fun j hj => by
    rw [World.ownsRow.cellAt h.2 (k * 5 + j) (by have := h.1; omega), flat_get edgecell_len zs k a ha j hj]
  exact ⟨c 0 (by omega), c 1 (by omega), c 2 (by omega), c 3 (by omega), c 4 (by omega)⟩
end

/-- n times the cells of a zero edge. -/
def zeroEs (n : Nat) : List Value := (Builtin.zeroCells (Value.agg #[.bool false, .int .i64 0, .bool false, .int .i64 0, .int .i64 0]).cells n).toList
theorem zeroEs_len (n : Nat) : (zeroEs n).length = n * 5 := by simp [zeroEs, Builtin.zeroCells, Value.cells]
theorem zeroEs_one (n : Nat) : ∀ v ∈ zeroEs n, v.oneCell' = true := by
  intro v hv
  obtain ⟨i, hi, rfl⟩ := List.getElem_of_mem hv
  have : i % 5 = 0 ∨ i % 5 = 1 ∨ i % 5 = 2 ∨ i % 5 = 3 ∨ i % 5 = 4 := by omega
  simp only [zeroEs, Builtin.zeroCells, Value.cells]
  rcases this with e | e | e | e | e <;> simp [e] <;> rfl
/-- clear at a slice of edges. -/
theorem run_clear_edges (w : World) (ty : TypeId) (g o n c : Nat) (hn : 0 < n) (hc : ∀ j, j < n * 5 → (w.cell? ⟨g, o + j, none⟩).isSome = true) (hf : ∀ j, j < n * 5 → w.frozen? ⟨g, o + j, none⟩ = false) :
    (Builtin.clear_ #[82] ty #[.slice (some ⟨g, o, none⟩) n c]).run Try.prog w = .ok (.tuple #[]) (w.setCells g o (zeroEs n)) := by
  obtain ⟨i0, hi, hz0, hz1, hz2⟩ := info_parts edgeInfo
  have hv : (zeroValue 191).run Try.prog w = .ok (.agg #[.bool false, .int .i64 0, .bool false, .int .i64 0, .int .i64 0]) w := by simp [zeroValue, typeInfo, hi, hz0]
  have hst := run_storeCells_cells (P := Try.prog) g o (zeroEs n) 0 w (by rw [zeroEs_len]; simpa using hc) (by rw [zeroEs_len]; simpa using hf) (zeroEs_one n)
  simp only [Nat.add_zero] at hst
  obtain ⟨m, rfl⟩ : ∃ m, n = m + 1 := ⟨n - 1, by omega⟩
  unfold zeroEs at hst ⊢
  simp [Builtin.clear_, run_underlying Try.underlying82, hv, hst]

/-- Does the map tell the way back of an edge. -/
def endB (ps : List ((Nd × Nd) × Value)) (a : Eg) : Bool := (getG pairK (a.dst, a.frm) ps).isSome
def delB (ps : List ((Nd × Nd) × Value)) (a : Eg) : Bool := !endB ps a
/-- All that the map has is true. -/
def AllT (ps : List ((Nd × Nd) × Value)) : Prop := ∀ a v, getG pairK a ps = some v → v = .bool true
theorem AllT.answer {ps : List ((Nd × Nd) × Value)} (h : AllT ps) (a : Eg) : answerG pairK (a.dst, a.frm) ps false = .bool (endB ps a) := by
  unfold answerG endB
  cases hg : getG pairK (a.dst, a.frm) ps with
  | none => rfl
  | some v => rw [h _ v hg]; rfl
abbrev endV (g : Nat) : Value := .func (.func 141) #[] #[.pointer (some ⟨g, 0, none⟩)]
theorem endFn_any (a : Eg) (g b : Nat) (ps : List ((Nd × Nd) × Value)) (w : World) (hg : Box w g 189 #[.map (some b)]) (hm : MapG pairK w b ps) (ht : AllT ps) :
    Calls Try.prog 141 #[.agg #[.bool a.frm.net, .int .i64 a.frm.id, .bool a.dst.net, .int .i64 a.dst.id, .int .i64 a.cost], .pointer (some ⟨g, 0, none⟩)] w fun e w' => e = .returned (.bool (delB ps a)) ∧ Below w.heap.size w w' := by
  go_enter Try.func141, Try.ntmps141
  go_upto_region 1 with (fail)
  refine Code.wp_name ?_
  intro V hV
  have hB : Below w.heap.size w V := by rw [hV]; exact (Below.refl _ _).alloc (Nat.le_refl _) _
  have hG := hg.below hB
  have hM := hm.below hB
  have hX : Box V w.heap.size 191 #[.bool a.frm.net, .int .i64 a.frm.id, .bool a.dst.net, .int .i64 a.dst.id, .int .i64 a.cost] := by rw [hV]; exact Box.made _ _ _
  have HB := Lib.hid hB
  clear hV hg hB hm
  have c0 := hG.look 0
  have hl := hG.lt
  have d0 := hX.look 0
  have d1 := hX.look 1
  have d2 := hX.look 2
  have d3 := hX.look 3
  have hxl := hX.lt
  have HAN := Lib.hid (ht.answer a)
  clear ht
  go_wp2_with (refine wpList_lookupG (K := pairK) rfl (.tmp 4) (.tmp 9) false rfl rfl hM (a.dst, a.frm) rfl rfl ?_; rw [HAN.out])
  go_ret
  exact ⟨rfl, HB.out⟩

theorem find_casesE (p : Eg → Bool) (ys : List Eg) : (∀ (i : Nat) t, ys[i]? = some t → p t = false) ∨ ∃ (k : Nat) (a : Eg), ys[k]? = some a ∧ p a = true ∧ ∀ (i : Nat) t, i < k → ys[i]? = some t → p t = false := by
  by_cases h : ys.any p = true
  · refine .inr ⟨ys.findIdx p, ?_⟩
    have hl : ys.findIdx p < ys.length := List.findIdx_lt_length.2 (by
      obtain ⟨t, ht, hk⟩ := List.any_eq_true.1 h
      exact ⟨t, ht, hk⟩)
    refine ⟨ys[ys.findIdx p], List.getElem?_eq_getElem hl, List.findIdx_getElem (w := hl), fun i t hi ht => ?_⟩
    have h1 := (List.getElem?_eq_some_iff.1 ht).1
    have h2 := List.not_of_lt_findIdx hi
    rw [(List.getElem?_eq_some_iff.1 ht).2] at h2
    simpa using h2
  · exact .inl (fun i t ht => by
      have := List.any_eq_false.1 (by simpa using h) t (List.mem_of_getElem? ht)
      simpa using this)
/-- Those that are not dropped. -/
def dropE (p : Eg → Bool) (ys : List Eg) : List Eg := ys.filter fun t => !p t
theorem dropE_all {p : Eg → Bool} {ys : List Eg} (h : ∀ (i : Nat) t, ys[i]? = some t → p t = false) : dropE p ys = ys := by
  unfold dropE
  rw [List.filter_eq_self]
  intro t ht
  obtain ⟨i, hi, rfl⟩ := List.getElem_of_mem ht
  rw [h i _ (List.getElem?_eq_getElem hi)]; rfl
theorem dropE_no {p : Eg → Bool} {ys : List Eg} {j : Nat} {a : Eg} (h : ys[j]? = some a) (hk : p a = false) : dropE p (ys.take (j + 1)) = dropE p (ys.take j) ++ [a] := by
  have hj := (List.getElem?_eq_some_iff.1 h).1
  unfold dropE
  rw [List.take_succ_eq_append_getElem hj, (List.getElem?_eq_some_iff.1 h).2, List.filter_append]
  simp [hk]
theorem dropE_yes {p : Eg → Bool} {ys : List Eg} {j : Nat} {a : Eg} (h : ys[j]? = some a) (hk : p a = true) : dropE p (ys.take (j + 1)) = dropE p (ys.take j) := by
  have hj := (List.getElem?_eq_some_iff.1 h).1
  unfold dropE
  rw [List.take_succ_eq_append_getElem hj, (List.getElem?_eq_some_iff.1 h).2, List.filter_append]
  simp [hk]

set_option maxHeartbeats 1600000 in
/-- What IndexFunc answers: the place of the first one that is dropped. -/
theorem indexE_any (q : Bool) (lo hi : Nat) (A : Option Addr) (n c : Nat) (ts : List Eg) (g b : Nat) (ps : List ((Nd × Nd) × Value)) (v : Int) (w : World) (ha : Rep.edge.Sl q lo hi w A n ts) (hh : hi ≤ w.heap.size) (hn : n ≤ 1048576) (hg : Box w g 189 #[.map (some b)]) (hm : MapG pairK w b ps) (ht : AllT ps) (hv : (v = -1 ∧ ∀ (i : Nat) t, ts[i]? = some t → delB ps t = false) ∨ ∃ (k : Nat) (a : Eg), v = k ∧ ts[k]? = some a ∧ delB ps a = true ∧ ∀ (i : Nat) t, i < k → ts[i]? = some t → delB ps t = false) :
    Calls Try.prog 176 #[.slice A n c, endV g] w fun e w' => e = .returned (.int .i64 v) ∧ Below w.heap.size w w' := by
  have HG := Lib.hid hg
  have HMP := Lib.hid hm
  have HTT := Lib.hid ht
  have HV := Lib.hid hv
  clear hg hm ht hv
  go_enter Try.func176, Try.ntmps176
  go_wp2
  go_loopw [8] (fun i wr => ∃ j : Nat, j ≤ n ∧ i = .int .i64 j ∧ Hid (∀ i a, i < j → ts[i]? = some a → delB ps a = false) ∧ Hid (Below w.heap.size w wr)) (fun i _ => n - (intOf i).toNat)
  case atStart => exact ⟨0, Nat.zero_le _, rfl, Lib.hid (fun j a h => absurd h (by omega)), Below.refl _ _⟩
  case round =>
    obtain ⟨j, hj, rfl, HI, HB⟩ := hrel
    by_cases hlt : j < n
    · obtain ⟨b', o, a, rfl, hya, a0, a1, a2, a3, a4⟩ := Rep.edge_at (ha.below HB.out hh) hlt
      have hlt' : (j : Int) < n := by omega
      have HYA := Lib.hid hya
      clear hya
      by_cases hK : delB ps a = true
      · have HF : Hid (v = j) := Lib.hid (by
          rcases HV.out with ⟨_, h⟩ | ⟨k, a', e, h1, h2, h3⟩
          · have := h j a HYA.out; rw [hK] at this; cases this
          · rcases Nat.lt_trichotomy k j with h | h | h
            · have := HI.out k a' h h1; rw [h2] at this; cases this
            · rw [e, h]
            · have := h3 j a h HYA.out; rw [hK] at this; cases this)
        have HR := Lib.hid hK
        clear hK
        go_wp2_with fail
        refine (endFn_any a g b ps _ (HG.out.below HB.out) (HMP.out.below HB.out) HTT.out).mono ?_
        rw [HR.out]
        rintro e w2 ⟨rfl, hb⟩
        have HB2 := Lib.hid (below_step HB.out hb)
        clear hb
        go_wp2
        go_ret
        exact ⟨by rw [HF.out]; rfl, HB2.out⟩
      · have HR : Hid (delB ps a = false) := Lib.hid (by simpa using hK)
        clear hK
        go_wp2_with fail
        refine (endFn_any a g b ps _ (HG.out.below HB.out) (HMP.out.below HB.out) HTT.out).mono ?_
        rw [HR.out]
        rintro e w2 ⟨rfl, hb⟩
        have HB2 := Lib.hid (below_step HB.out hb)
        clear hb
        go_wp2
        go_roundw
        case rel => exact ⟨j + 1, by omega, by go_num, Lib.hid (fun i a' hi hz => by
          rcases Nat.lt_succ_iff_lt_or_eq.1 hi with h | rfl
          · exact HI.out i a' h hz
          · obtain rfl : a' = a := by have := HYA.out; rw [this] at hz; injection hz with e; exact e.symm
            exact HR.out), HB2⟩
        case measure => simp [intOf]; omega
    · have HF : Hid (v = -1) := Lib.hid (by
        rcases HV.out with ⟨e, _⟩ | ⟨k, a', e, h1, h2, h3⟩
        · exact e
        · have hk := (List.getElem?_eq_some_iff.1 h1).1
          have := HI.out k a' (by have := ha.1; omega) h1
          rw [h2] at this; cases this)
      clear HI
      go_wp2
      go_ret
      exact ⟨by rw [HF.out]; rfl, HB.out⟩

set_option maxRecDepth 100000 in
set_option maxHeartbeats 3200000 in
theorem deleteE_any (B : Nat) (A : Option Addr) (n c : Nat) (ys : List Eg) (gk bk : Nat) (ps : List ((Nd × Nd) × Value)) (w : World) (ho : OwnF 191 5 edgecell w B A n c ys) (hsl : Rep.edge.Sl true B w.heap.size w A n ys) (hn : n ≤ 1000) (hg : Box w gk 189 #[.map (some bk)]) (hm : MapG pairK w bk ps) (ht : AllT ps) :
    Calls Try.prog 142 #[.slice A n c, endV gk] w fun e w' => ∃ n', e = .returned (.slice A n' c) ∧ OwnF 191 5 edgecell w' B A n' c (dropE (delB ps) ys) ∧ w.grownBy w' (A.map (·.block)) := by
  have HTT := Lib.hid ht
  clear ht
  have hyl := ho.1
  rcases find_casesE (delB ps) ys with hall | ⟨p, a, hpa, hka, hall⟩
  · have HF := Lib.hid hall
    have HW := Lib.hid (dropE_all hall)
    have HO := Lib.hid ho
    clear hall ho
    go_enter Try.func142, Try.ntmps142
    go_wp2_with fail
    refine (indexE_any true _ _ A n c ys gk bk ps (-1) _ hsl (Nat.le_refl _) (by omega) hg hm HTT.out (.inl ⟨rfl, HF.out⟩)).mono ?_
    rintro e w1 ⟨rfl, hb⟩
    have HO1 := Lib.hid (HO.out.below hb)
    have HG := Lib.hid (grownBy_of_below hb (A.map (·.block)))
    clear hb hsl hg hm
    go_wp2
    go_ret
    exact ⟨n, rfl, by rw [HW.out]; exact HO1.out, HG.out⟩
  · have hpl := (List.getElem?_eq_some_iff.1 hpa).1
    obtain ⟨g, rfl, hBg, hgs⟩ := ho.form (by omega)
    have hne : gk ≠ g := fun e => OwnF.ne_box ho hg (by decide) (by rw [e]; rfl)
    have hne2 : bk ≠ g := fun e => MapG.ne_own hm ho (by rw [e]; rfl)
    have HF := Lib.hid (show ∃ (k : Nat) (a : Eg), (p : Int) = k ∧ ys[k]? = some a ∧ delB ps a = true ∧ ∀ (i : Nat) t, i < k → ys[i]? = some t → delB ps t = false from ⟨p, a, rfl, hpa, hka, hall⟩)
    have HO := Lib.hid ho
    have HK := Lib.hid hg
    have HMP := Lib.hid hm
    have H0 : Hid (ys.take p = dropE (delB ps) (ys.take (p + 1))) := Lib.hid (by
      rw [dropE_yes hpa hka, dropE_all fun i t ht => hall i t (by have := (List.getElem?_eq_some_iff.1 ht).1; rw [List.length_take] at this; omega) (by
        have h1 := (List.getElem?_eq_some_iff.1 ht).1; rw [List.length_take] at h1
        rw [List.getElem?_take, if_pos (by omega)] at ht; exact ht)])
    have hp1 : ((p : Int) == -1) = false := by rw [beq_eq_false_iff_ne]; omega
    have hpn : p < n := by omega
    clear hall ho hg hm hpa hka hpl
    go_enter Try.func142, Try.ntmps142
    go_wp2_with fail
    refine (indexE_any true _ _ (some ⟨g, 0, none⟩) n c ys gk bk ps p _ hsl (Nat.le_refl _) (by omega) HK.out HMP.out HTT.out (.inr HF.out)).mono ?_
    rintro e w1 ⟨rfl, hb⟩
    have HO1 := Lib.hid (HO.out.below hb)
    have HK1 := Lib.hid (HK.out.below hb)
    have HM1 := Lib.hid (HMP.out.below hb)
    have HG1 := Lib.hid (grownBy_of_below hb (some g))
    clear hb hsl HO HK HMP
    go_wp2
    go_loopw [5, 6] (fun s5 s6 wr => ∃ (i j : Nat) (zs : List Eg), s5 = .int .i64 i ∧ s6 = .int .i64 j ∧ i < j ∧ j ≤ n ∧ Hid (OwnF 191 5 edgecell wr B (some ⟨g, 0, none⟩) n c zs) ∧ Hid (zs.take i = dropE (delB ps) (ys.take j)) ∧ Hid (zs.drop j = ys.drop j) ∧ Hid (Box wr gk 189 #[.map (some bk)]) ∧ Hid (MapG pairK wr bk ps) ∧ Hid (w.grownBy wr (some g))) (fun _ s6 _ => n - (intOf s6).toNat)
    case atStart => exact ⟨p, p + 1, ys, rfl, by go_num, by omega, by omega, HO1, H0, Lib.hid rfl, HK1, HM1, HG1⟩
    case round =>
      obtain ⟨i, j, zs, rfl, rfl, hij, hjn, HO, HT, HD, HK, HMP, HG⟩ := hrel
      by_cases hlt : j < n
      · obtain ⟨a, hya⟩ : ∃ a, ys[j]? = some a := ⟨_, List.getElem?_eq_getElem (by omega)⟩
        have hza : zs[j]? = some a := by
          have := congrArg (fun l => l[0]?) HD.out
          simpa [List.getElem?_drop, hya] using this
        obtain ⟨b, hzb⟩ : ∃ b, zs[i]? = some b := ⟨_, List.getElem?_eq_getElem (by have := HO.out.1; omega)⟩
        obtain ⟨a0, a1, a2, a3, a4⟩ := HO.out.at5 hza
        have hlt' : (j : Int) < n := by omega
        have HYA := Lib.hid hya
        have HZB := Lib.hid hzb
        clear hya hza hzb
        obtain ⟨r, hr⟩ : ∃ r, delB ps a = r := ⟨_, rfl⟩
        have HR := Lib.hid hr
        clear hr
        go_wp2_with fail
        refine Calls.name ?_
        intro V hV
        have hbV : Below wr.heap.size wr V := by rw [hV]; exact (Below.refl _ _).alloc (Nat.le_refl _) _
        have HX : Kept wr.heap.size (wr.heap.size + 1) (BoxK wr.heap.size 191 #[.bool a.frm.net, .int .i64 a.frm.id, .bool a.dst.net, .int .i64 a.dst.id, .int .i64 a.cost]) V := by rw [hV]; exact Kept.box (Box.made _ _ _)
        have HK2 := Lib.hid (HK.out.below hbV)
        have HM2 := Lib.hid (HMP.out.below hbV)
        have HO2 := Lib.hid (HO.out.below hbV)
        have HG2 := Lib.hid (grown_trans HG.out (grownBy_of_below hbV (some g)))
        have HL := Lib.hid (HO.out.block g rfl).2
        clear hV hbV a0 a1 a2 a3 a4
        refine (endFn_any a gk bk ps _ HK2.out HM2.out HTT.out).mono ?_
        rw [HR.out]
        rintro e w2 ⟨rfl, hb⟩
        have HX2 := HX.below hb
        have HK3 := Lib.hid (HK2.out.below hb)
        have HM3 := Lib.hid (HM2.out.below hb)
        have HO3 := Lib.hid (HO2.out.below hb)
        have HG3 := Lib.hid (grown_trans HG2.out (grownBy_of_below hb (some g)))
        clear hb HX HK2 HO2 HG2 HM2
        cases r with
        | true =>
          go_wp2
          go_roundw
          case rel => exact ⟨i, j + 1, zs, rfl, by go_num, by omega, by omega, HO3, Lib.hid (by rw [dropE_yes HYA.out HR.out]; exact HT.out), Lib.hid (by have := congrArg (List.drop 1) HD.out; simpa [List.drop_drop] using this), HK3, HM3, HG3⟩
          case measure => simp [intOf]; omega
        | false =>
          obtain ⟨b0, b1, b2, b3, b4⟩ := HO3.out.at5 HZB.out
          have f0 := World.ownsRow.frozenAt HO3.out.2 (i * 5)
          have f1 := World.ownsRow.frozenAt HO3.out.2 (i * 5 + 1)
          have f2 := World.ownsRow.frozenAt HO3.out.2 (i * 5 + 2)
          have f3 := World.ownsRow.frozenAt HO3.out.2 (i * 5 + 3)
          have f4 := World.ownsRow.frozenAt HO3.out.2 (i * 5 + 4)
          have x0 := HX2.look 0
          have x1 := HX2.look 1
          have x2 := HX2.look 2
          have x3 := HX2.look 3
          have x4 := HX2.look 4
          have hin : (i : Int) < n := by omega
          obtain ⟨hp4, hg4⟩ := HO3.out.put5 i a (by omega)
          have HP := Lib.hid hp4
          have HGP := Lib.hid (grown_trans HG3.out hg4)
          have HKP := Lib.hid (HK3.out.grown hg4 (fun e => hne (by injection e with e; exact e.symm)))
          have HMQ := Lib.hid (HM3.out.grown hg4 (fun e => hne2 (by injection e with e; exact e.symm)))
          clear hp4 hg4
          go_wp2
          go_roundw
          case rel => exact ⟨i + 1, j + 1, zs.set i a, by go_num, by go_num, by omega, by omega, HP, Lib.hid (by
              rw [dropE_no HYA.out HR.out, ← HT.out, List.take_set, List.take_succ_eq_append_getElem (by have := HO3.out.1; omega), List.set_append_right _ _ (by rw [List.length_take]; omega), List.length_take, Nat.min_eq_left (by have := HO3.out.1; omega), Nat.sub_self, List.set_cons_zero]), Lib.hid (by
              rw [List.drop_set_of_lt (by omega)]; have := congrArg (List.drop 1) HD.out; simpa [List.drop_drop] using this), HKP, HMQ, HGP⟩
          case measure => simp [intOf]; omega
      · obtain rfl : j = n := by omega
        have hcl := fun ty => run_clear_edges wr ty g (i * 5) (j - i) (c - i) (by omega) (fun t ht => by
          rw [World.ownsRow.cellAt HO.out.2 (i * 5 + t) (by omega)]
          have hfl := HO.out.2.1
          rw [List.getElem?_eq_getElem (by omega)]; rfl) (fun t ht => World.ownsRow.frozenAt HO.out.2 _)
        have hic : i < c := by
          have := HO.out.2.2
          rcases this with ⟨h', _⟩ | ⟨g', cap, cur, h1, _, _, h4, _⟩
          · simp at h'
          · simp only [Value.slice.injEq] at h1; omega
        have hic2 : (i : Int) ≤ c := by omega
        have hic3 : ¬ i = c := by omega
        obtain ⟨ho4, hg4⟩ := HO.out.clear5 (i := i) (by omega) (zeroEs (j - i))
        have HP := Lib.hid ho4
        have HGP := Lib.hid (grown_trans HG.out hg4)
        have HTF : Hid (zs.take i = dropE (delB ps) ys) := Lib.hid (by rw [HT.out, List.take_of_length_le (by omega)])
        clear ho4 hg4 HO HK HT HD HMP
        go_wp2
        go_ret
        exact ⟨i, rfl, by rw [← HTF.out]; exact HP.out, HGP.out⟩

end Go.Proofs.Ytooogjfnnmacjaa

namespace Go.Proofs.Ytooogjfnnmacjaa
open Go.RowKit
set_option linter.unusedVariables false

/-- Is an edge told by its other end too. -/
def backB (es : List Eg) (a : Eg) : Bool := es.any fun x => ndE x.frm a.dst && ndE x.dst a.frm
/-- The edges that both ends tell. -/
def bothB (es : List Eg) : List Eg := es.filter (backB es)
/-- The map of edges. -/
def tellM (es : List Eg) : List ((Nd × Nd) × Value) := es.foldl (fun ps e => putG pairK (e.frm, e.dst) (.bool true) ps) []
theorem tellM_succ {es : List Eg} {k : Nat} {a : Eg} (h : es[k]? = some a) : tellM (es.take (k + 1)) = putG pairK (a.frm, a.dst) (.bool true) (tellM (es.take k)) := by
  unfold tellM
  rw [List.take_add_one, h, List.foldl_append]; rfl
theorem getG_fold (q : Nd × Nd) : ∀ (es : List Eg) (ps : List ((Nd × Nd) × Value)), getG pairK q (es.foldl (fun ps e => putG pairK (e.frm, e.dst) (.bool true) ps) ps) = if es.any (fun x => ndE x.frm q.1 && ndE x.dst q.2) = true then some (.bool true) else getG pairK q ps
  | [], ps => by simp
  | e :: es, ps => by
    rw [List.foldl_cons, getG_fold q es, getG_put, List.any_cons]
    show _ = if (ndE e.frm q.1 && ndE e.dst q.2 || es.any _) = true then _ else _
    have he : pairK.eqb (e.frm, e.dst) q = (ndE e.frm q.1 && ndE e.dst q.2) := rfl
    rw [he]
    cases (ndE e.frm q.1 && ndE e.dst q.2) <;> cases (es.any fun x => ndE x.frm q.1 && ndE x.dst q.2) <;> simp
theorem getG_tell (q : Nd × Nd) (es : List Eg) : getG pairK q (tellM es) = if es.any (fun x => ndE x.frm q.1 && ndE x.dst q.2) = true then some (.bool true) else none := getG_fold q es []
theorem tellM_all (es : List Eg) : AllT (tellM es) := fun q v h => by
  rw [getG_tell] at h
  split at h
  · injection h with h; exact h.symm
  · cases h
theorem drop_tell (es : List Eg) : dropE (delB (tellM es)) es = bothB es := by
  unfold dropE bothB
  congr 1
  funext a
  unfold delB endB backB
  rw [getG_tell]
  simp only []
  cases (es.any fun x => ndE x.frm a.dst && ndE x.dst a.frm) <;> rfl
/-- What BothEnds answers. -/
noncomputable def beR (now : Int) (ys : List Ent) : List Eg := if faultB now ys = 0 then bothB (edgesB ys) else []
theorem beR_no {now : Int} {ys : List Ent} (h : ¬ faultB now ys = 0) : beR now ys = [] := if_neg h
theorem beR_yes {now : Int} {ys : List Ent} (h : faultB now ys = 0) : beR now ys = bothB (edgesB ys) := if_pos h
theorem beR_le (now : Int) (ys : List Ent) : (beR now ys).length ≤ 640 := by
  by_cases h : faultB now ys = 0
  · rw [beR_yes h]
    have h1 := eiR_le now ys
    rw [eiR_yes h] at h1
    exact Nat.le_trans (List.length_filter_le _ _) h1
  · rw [beR_no h]; simp
theorem OwnF.grownF {α : Type} {t : TypeId} {size : Nat} {f : α → List Value} {w w' : World} {B : Nat} {A : Option Addr} {n c : Nat} {ys : List α} (h : OwnF t size f w B A n c ys) {lo hi : Nat} (ho : Only lo hi w w') (hd : ∀ r, A.map (·.block) = some r → r < lo ∨ hi ≤ r) : OwnF t size f w' B A n c ys := by
  refine ⟨h.1, h.2.1, ?_⟩
  rcases h.2.2 with h' | ⟨g, cap, cur, h1, h2, h3, h4⟩
  · exact .inl h'
  · have hA : A.map (·.block) = some g := by simp only [Value.slice.injEq] at h1; rw [h1.1]; rfl
    exact .inr ⟨g, cap, cur, h1, h2, (ho.block g (h.block g hA).2 (by rcases hd g hA with h | h <;> omega)).trans h3, h4⟩

set_option maxRecDepth 100000 in
set_option maxHeartbeats 3200000 in
theorem bothEnds_any (now : Int) (q : Bool) (lo hi : Nat) (A : Option Addr) (n c : Nat) (ys : List Ent) (w : World) (ha : Rep.ent.Sl q lo hi w A n ys) (hh : hi ≤ w.heap.size) (hn : n ≤ 1048576) (hm : ∀ y ∈ ys, y.l.links.length ≤ 1048576 ∧ y.l.routers.length ≤ 1048576) :
    Calls Try.prog 67 #[.agg #[.int .i64 now, .slice A n c]] w fun e w' => ∃ E j b, e = .returned (.agg #[.int .i64 (faultB now ys), .slice E j b]) ∧ Kept w.heap.size w'.heap.size (OwnFK 191 5 edgecell w.heap.size w'.heap.size E j b (beR now ys)) w' ∧ Below w.heap.size w w' := by
  have HB := Lib.hid (Below.refl w.heap.size w)
  have HA := Rep.Sl.kept ha hh
  have HM := Lib.hid hm
  clear ha hm
  obtain ⟨r, hr⟩ : ∃ z, faultB now ys = z := ⟨_, rfl⟩
  obtain ⟨us, hus⟩ : ∃ z, eiR now ys = z := ⟨_, rfl⟩
  obtain ⟨xs, hxs⟩ : ∃ z, beR now ys = z := ⟨_, rfl⟩
  have HR := Lib.hid hr
  have HUS := Lib.hid hus
  have HXS := Lib.hid hxs
  have HLE : Hid (us.length ≤ 640) := Lib.hid (by rw [← hus]; exact eiR_le now ys)
  rw [hr, hxs]
  clear hr hus hxs
  go_enter Try.func67, Try.ntmps67
  go_wp2_with fail
  refine Calls.name ?_
  intro U1 hU1
  have hb : Below w.heap.size w U1 := by rw [hU1]; exact (((Below.refl _ _).alloc (Nat.le_refl _) _).alloc (by simp <;> omega) _)
  have zz : Hid (w.heap.size + 2 = U1.heap.size) := Lib.hid (by rw [hU1]; simp)
  have HX1 : Kept w.heap.size (w.heap.size + 1) (BoxK w.heap.size 88 #[.int .i64 now, .slice A n c]) U1 := by rw [hU1]; exact Kept.box ((Box.made_at _ _ _ rfl).over _)
  have HX2 : Kept (w.heap.size + 1) (w.heap.size + 1 + 1) (BoxK (w.heap.size + 1) 84 #[.int .i64 0, .slice none 0 0]) U1 := by rw [hU1]; exact Kept.box (Box.made_at _ _ _ (by simp <;> omega))
  replace HA := HA.below hb
  replace HB := Lib.hid (below_step HB.out hb)
  clear hb
  have Z1 := zz; clear zz
  clear hU1
  refine (edgesIn_any now q lo hi A n c ys _ HA.sl HA.le hn HM.out).mono ?_
  rw [HR.out, HUS.out]
  rintro e w2 ⟨E, j, b, rfl, hk, hb⟩
  have Z2 := Lib.hid hb.size
  replace HA := HA.below hb
  replace HX1 := HX1.below hb
  replace HX2 := HX2.below hb
  replace HB := Lib.hid (below_step HB.out hb)
  clear hb
  have HI := hk; clear hk
  have hj : j ≤ 640 := by have := HI.ownF.1; have := HLE.out; omega
  by_cases hr0 : r = 0
  · have HF : Hid (xs = bothB us) := Lib.hid (by rw [← HXS.out, ← HUS.out, eiR_yes (HR.out.trans hr0)]; exact beR_yes (HR.out.trans hr0))
    subst hr0
    have xr := HX2.bx.lt
    have hmm := @run_makeMap Try.prog
    go_wp2
    clear xr hmm
    refine Code.wp_name ?_
    intro V hV
    have hb : Below w2.heap.size w2 V := by rw [hV]; exact ((((Below.refl _ _).alloc (Nat.le_refl _) _).alloc (by simp <;> omega) _).alloc (by simp <;> omega) _)
    have HX3 : Kept w2.heap.size (w2.heap.size + 1) (BoxK w2.heap.size 84 #[.int .i64 0, .slice E j b]) V := by rw [hV]; exact Kept.box (((Box.made_at _ _ _ rfl).over _).over _)
    have HMP : Kept (w2.heap.size + 1) ((w2.heap.size + 1) + 1) (fun W => MapG pairK W (w2.heap.size + 1) []) V := by rw [hV]; exact MapG.kept (MapG.over (show MapG pairK (World.alloc _ (.map #[] 0)) (w2.heap.size + 1) [] from by have h := MapG.made pairK (w2.alloc (.cells #[.int .i64 0, .slice E j b] 84)); rwa [show (w2.alloc (.cells #[.int .i64 0, .slice E j b] 84)).heap.size = (w2.heap.size + 1) from by simp] at h) _)
    have HC : Kept (w2.heap.size + 1 + 1) ((w2.heap.size + 1 + 1) + 1) (BoxK (w2.heap.size + 1 + 1) 189 #[.map (some (w2.heap.size + 1))]) V := by rw [hV]; exact Kept.box (Box.made_at _ _ _ (by simp <;> omega))
    have hz : V.heap.size = w2.heap.size + 3 := by rw [hV]; simp
    have ZV := Lib.hid hz; clear hz hV
    replace HA := HA.below hb
    replace HX1 := HX1.below hb
    replace HX2 := HX2.below hb
    replace HI := HI.below hb
    replace HB := Lib.hid (below_step HB.out hb)
    clear hb
    have HXR := HX2
    go_loopw [18] (fun t18 wr => ∃ k : Nat, k ≤ j ∧ t18 = .int .i64 k ∧ Kept (w2.heap.size + 1) ((w2.heap.size + 1) + 1) (fun W => MapG pairK W (w2.heap.size + 1) (tellM (us.take k))) wr ∧ Kept (w.heap.size + 1) ((w.heap.size + 1) + 1) (BoxK (w.heap.size + 1) 84 #[.int .i64 0, .slice none 0 0]) wr ∧ Kept w2.heap.size (w2.heap.size + 1) (BoxK w2.heap.size 84 #[.int .i64 0, .slice E j b]) wr ∧ Kept (w2.heap.size + 1 + 1) ((w2.heap.size + 1 + 1) + 1) (BoxK (w2.heap.size + 1 + 1) 189 #[.map (some (w2.heap.size + 1))]) wr ∧ Kept U1.heap.size w2.heap.size (OwnFK 191 5 edgecell U1.heap.size w2.heap.size E j b us) wr ∧ Hid (V.heap.size ≤ wr.heap.size) ∧ Hid (Below w.heap.size w wr)) (fun t18 _ => j - (intOf t18).toNat)
    case atStart => exact ⟨0, Nat.zero_le _, rfl, HMP, HXR, HX3, HC, HI, Lib.hid (Nat.le_refl _), HB⟩
    case round =>
      clear HMP HXR HX2 HX3 HC HI HA HB HX1
      obtain ⟨k, hk, rfl, HMP, HXR, HX3, HC, HI, HZW, HB⟩ := hrel
      by_cases hlt : k < j
      · obtain ⟨b', o, a, hA, hya, a0, a1, a2, a3, a4⟩ := Rep.edge_at HI.edges hlt
        subst hA
        have hlt' : (k : Int) < j := by omega
        have HYA := Lib.hid hya
        have c0 := HC.look 0
        have hcl := HC.bx.lt
        have hxl := HX3.bx.lt
        have HBA : Hid (Below wr.heap.size wr (wr.alloc (.cells #[.bool a.frm.net, .int .i64 a.frm.id, .bool a.dst.net, .int .i64 a.dst.id, .int .i64 a.cost] 191))) := Lib.hid ((Below.refl _ _).alloc (Nat.le_refl _) _)
        clear hya
        go_wp2_with (refine wpList_updateG (K := pairK) rfl (.tmp 22) (.tmp 27) (.const (.bool true)) rfl rfl (HMP.out.over _) (a.frm, a.dst) rfl rfl rfl ?_; intro u2 hm2 hg2 hs2)
        go_roundw
        case rel =>
          have hba := HBA.out
          have ho : Only (w2.heap.size + 1) ((w2.heap.size + 1) + 1) (wr.alloc (.cells #[.bool a.frm.net, .int .i64 a.frm.id, .bool a.dst.net, .int .i64 a.dst.id, .int .i64 a.cost] 191)) u2 := Only.of_grown hg2 (fun r e => by injection e with e; omega)
          have hsz := hg2.size
          have hbs := hba.size
          refine ⟨k + 1, by omega, by go_num, ?_, ((HXR.below hba).only ho (by have := Z1.out; have := Z2.out; have := ZV.out; have := HZW.out; have := HI.le; omega)), ((HX3.below hba).only ho (by have := Z1.out; have := Z2.out; have := ZV.out; have := HZW.out; have := HI.le; omega)), ((HC.below hba).only ho (by have := Z1.out; have := Z2.out; have := ZV.out; have := HZW.out; have := HI.le; omega)), ((HI.below hba).only ho (by have := Z1.out; have := Z2.out; have := ZV.out; have := HZW.out; have := HI.le; omega)), Lib.hid (by have := Z1.out; have := Z2.out; have := ZV.out; have := HZW.out; have := HI.le; omega), Lib.hid (Below.only (below_step HB.out hba) ho (by have := Z1.out; have := Z2.out; have := ZV.out; have := HZW.out; have := HI.le; omega) (below_step HB.out hba).size)⟩
          rw [tellM_succ HYA.out]
          exact MapG.kept hm2
        case measure => simp [intOf]; omega
      · obtain rfl : k = j := by omega
        rw [List.take_of_length_le (by rw [HI.ownF.1]; exact Nat.le_refl _)] at HMP
        have x0 := HX3.look 1
        have x1 := HX3.look 0
        have hcl := HC.bx.lt
        have hxl := HX3.bx.lt
        go_wp2_with fail
        clear x0 x1 hcl hxl
        refine (deleteE_any (U1.heap.size) E k b us (w2.heap.size + 1 + 1) (w2.heap.size + 1) (tellM us) _ HI.ownF (HI.edges.mono (Nat.le_refl _) HI.le) (by omega) HC.bx HMP.out (tellM_all us)).mono ?_
        rintro e u2 ⟨n2, rfl, hod, hgd⟩
        rw [drop_tell, ← HF.out] at hod
        have ho : Only (U1.heap.size) (w2.heap.size) wr u2 := Only.of_grown hgd (fun r e => ⟨(HI.ownF.block r e).1, HI.lim r e⟩)
        have hsz := hgd.size
        have HRX := HXR.only ho (by have := Z1.out; have := Z2.out; have := ZV.out; have := HZW.out; have := HI.le; omega)
        have HB2 := Lib.hid (Below.only HB.out ho (by have := Z1.out; have := Z2.out; have := ZV.out; have := HZW.out; have := HI.le; omega) HB.out.size)
        have HOD := Lib.hid hod
        have HLM := Lib.hid (fun r (e : E.map (·.block) = some r) => HI.lim r e)
        have HZU := Lib.hid hsz
        clear hod hgd ho hsz HXR HX3 HC HMP HI HB
        have y0 := HRX.look 0
        have y1 := HRX.look 1
        have yl := HRX.bx.lt
        have f0 := HRX.free 0
        have f1 := HRX.free 1
        go_wp2
        obtain ⟨U9, hU9⟩ : ∃ W : World, W = ((u2.setCell ⟨w.heap.size + 1, 0, none⟩ (.int .i64 0)).setCell ⟨w.heap.size + 1, 1, none⟩ (.slice E n2 b)) := ⟨_, rfl⟩
        have ho : Only (w.heap.size + 1) (w.heap.size + 1 + 1) u2 U9 := by rw [hU9]; exact (((Only.refl _ _ _).set (p := ⟨w.heap.size + 1, 0, none⟩) (Nat.le_refl _) (Nat.lt_succ_self _) _).set (p := ⟨w.heap.size + 1, 1, none⟩) (Nat.le_refl _) (Nat.lt_succ_self _) _)
        have hs9 : U9.heap.size = u2.heap.size := by rw [hU9]; simp [World.setCell]
        have HX9 : Box U9 (w.heap.size + 1) 84 #[.int .i64 0, .slice E n2 b] := by rw [hU9]; exact ((HRX.bx.puts 0 (.int .i64 0) (cs' := #[.int .i64 0, .slice none 0 0]) rfl).puts 1 (.slice E n2 b) (cs' := #[.int .i64 0, .slice E n2 b]) rfl)
        have HB9 := Lib.hid (Below.only HB2.out ho (by have := Z1.out; have := Z2.out; have := ZV.out; have := HZW.out; have := HZU.out; omega) HB2.out.size)
        have hok := (HOD.out.grownF ho (fun r e => .inr (by have := (HOD.out.block r e).1; have := Z1.out; have := Z2.out; have := ZV.out; have := HZW.out; have := HZU.out; omega)))
        have q0 := HX9.look 0
        have q1 := HX9.look 1
        have fin : ∀ e, e = Ending.returned (.agg #[.int .i64 0, .slice E n2 b]) → (∃ E j b, e = .returned (.agg #[.int .i64 0, .slice E j b]) ∧ Kept w.heap.size U9.heap.size (OwnFK 191 5 edgecell w.heap.size U9.heap.size E j b xs) U9 ∧ Below w.heap.size w U9) := by rintro _ rfl; exact ⟨E, n2, b, rfl, OwnFK.wid (hok.kept rfl) (by have := Z1.out; have := Z2.out; have := ZV.out; have := HZW.out; have := HZU.out; omega) (Nat.le_refl _) (Nat.le_refl _), HB9.out⟩
        subst hU9
        exact bodyPost_ret (v := .agg #[.int .i64 0, .slice E n2 b]) (by simp [results, Try.results67, go_sem, q0, q1]) rfl (fin _ rfl)
  · have hr1 : (r != 0) = true := by simpa using hr0
    have HF : Hid (us = xs) := Lib.hid (by rw [← HXS.out, ← HUS.out, eiR_no (by rw [HR.out]; exact hr0)]; exact (beR_no (by rw [HR.out]; exact hr0)).symm)
    rw [HF.out] at HI
    have c2_0 := HX2.look 0
    have c2_1 := HX2.look 1
    have f2_0 := HX2.free 0
    have f2_1 := HX2.free 1
    have l2_0 := HX1.bx.lt
    have l2_1 := HX2.bx.lt
    go_wp2
    clear c2_0 c2_1 f2_0 f2_1 l2_0 l2_1
    obtain ⟨U3, hU3⟩ : ∃ W : World, W = ((w2.setCell ⟨w.heap.size + 1, 0, none⟩ (.int .i64 r)).setCell ⟨w.heap.size + 1, 1, none⟩ (.slice E j b)) := ⟨_, rfl⟩
    have ho : Only (w.heap.size + 1) (w.heap.size + 1 + 1) w2 U3 := by rw [hU3]; exact (((Only.refl _ _ _).set (p := ⟨w.heap.size + 1, 0, none⟩) (Nat.le_refl _) (Nat.lt_succ_self _) _).set (p := ⟨w.heap.size + 1, 1, none⟩) (Nat.le_refl _) (Nat.lt_succ_self _) _)
    replace HX2 : Kept (w.heap.size + 1) (w.heap.size + 1 + 1) (BoxK (w.heap.size + 1) 84 #[.int .i64 r, .slice E j b]) U3 := by rw [hU3]; exact Kept.box ((HX2.bx.puts 0 (.int .i64 r) (cs' := #[.int .i64 r, .slice none 0 0]) rfl).puts 1 (.slice E j b) (cs' := #[.int .i64 r, .slice E j b]) rfl)
    replace HA := HA.only ho (by have := Z1.out; have := Z2.out; omega)
    replace HX1 := HX1.only ho (by have := Z1.out; have := Z2.out; omega)
    replace HI := HI.only ho (by have := Z1.out; have := Z2.out; omega)
    replace HB := Lib.hid (Below.only HB.out ho (by have := Z1.out; have := Z2.out; omega) HB.out.size)
    have Z3 : Hid (U3.heap.size = w2.heap.size) := Lib.hid (by rw [hU3]; simp [World.setCell]); clear ho
    obtain ⟨U4, hU4⟩ : ∃ W : World, W = (U3.alloc (.cells #[.int .i64 r, .slice E j b] 84)) := ⟨_, rfl⟩
    have hb : Below U3.heap.size U3 U4 := by rw [hU4]; exact ((Below.refl _ _).alloc (Nat.le_refl _) _)
    have zz : Hid (U3.heap.size + 1 = U4.heap.size) := Lib.hid (by rw [hU4]; simp)
    have HX3 : Kept w2.heap.size (w2.heap.size + 1) (BoxK w2.heap.size 84 #[.int .i64 r, .slice E j b]) U4 := by rw [hU4]; exact Kept.box (Box.made_at _ _ _ (by rw [hU3]; simp [World.setCell]))
    replace HA := HA.below hb
    replace HX1 := HX1.below hb
    replace HX2 := HX2.below hb
    replace HI := HI.below hb
    replace HB := Lib.hid (below_step HB.out hb)
    clear hb
    have Z4 := zz; clear zz
    have q_0 := HX2.look 0
    have q_1 := HX2.look 1
    subst hU4 hU3
    exact bodyPost_ret (v := .agg #[.int .i64 r, .slice E j b]) (by simp [results, Try.results67, go_sem, q_0, q_1]) rfl ⟨E, j, b, rfl, OwnFK.wid HI (by have := Z1.out; have := Z2.out; have := Z3.out; have := Z4.out; omega) (by have := HI.le; omega) (Nat.le_refl _), HB.out⟩


end Go.Proofs.Ytooogjfnnmacjaa

namespace Go.Proofs.Ytooogjfnnmacjaa
open Go.RowKit
set_option linter.unusedVariables false

theorem eql_ndE (a b : Nd) (W : World) : (binOp .eql 105 (.agg #[.bool a.net, .int .i64 a.id]) (.agg #[.bool b.net, .int .i64 b.id])).run Try.prog W = .ok (.bool (ndE a b)) W := by
  obtain ⟨n1, i1⟩ := a
  obtain ⟨n2, i2⟩ := b
  cases n1 <;> cases n2 <;> by_cases h2 : i1 = i2 <;> simp [go_sem, ndE, h2]
theorem bothB_no {es : List Eg} {k : Nat} {a : Eg} (h : es[k]? = some a) (hb : backB es a = false) : (es.take (k + 1)).filter (backB es) = (es.take k).filter (backB es) := by
  rw [List.take_add_one, h, List.filter_append]; simp [hb]
theorem bothB_yes {es : List Eg} {k : Nat} {a : Eg} (h : es[k]? = some a) (hb : backB es a = true) : (es.take (k + 1)).filter (backB es) = (es.take k).filter (backB es) ++ [a] := by
  rw [List.take_add_one, h, List.filter_append]; simp [hb]

attribute [local go_sem high] eql_ndE

set_option maxRecDepth 100000 in
set_option maxHeartbeats 6400000 in
theorem l7Both_any (now : Int) (q : Bool) (lo hi g : Nat) (A : Option Addr) (n c : Nat) (ys : List Ent) (w : World) (hx : Box w g 88 #[.int .i64 now, .slice A n c]) (ha : Rep.ent.Sl q lo hi w A n ys) (hh : hi ≤ w.heap.size) (hn : n ≤ 40) (hf : ∀ e ∈ ys, faultOf e.l = 0) :
    Calls Try.prog 140 #[.pointer (some ⟨g, 0, none⟩)] w fun e w' => ∃ E j b, e = .returned (.slice E j b) ∧ OwnF 191 5 edgecell w' w.heap.size E j b (bothB (edgesB ys)) ∧ Below w.heap.size w w' := by
  have HB := Lib.hid (Below.refl w.heap.size w)
  obtain ⟨es, hes⟩ : ∃ z, edgesB ys = z := ⟨_, rfl⟩
  have HES := Lib.hid hes
  have HLE : Hid (es.length ≤ 640) := Lib.hid (by rw [← hes]; have := edgesB_le hf ys.length; rw [List.take_of_length_le (Nat.le_refl _)] at this; have := ha.1; omega)
  rw [hes]
  clear hes
  go_enter Try.func140, Try.ntmps140
  go_wp2_with fail
  refine (l7Edges_any now q lo hi g A n c ys _ hx ha hh hn hf).mono ?_
  rintro e w1 ⟨E0, m0, b0, rfl, ho, hb⟩
  have Z1 := Lib.hid hb.size
  replace HB := Lib.hid (below_step HB.out hb)
  clear hb
  rw [HES.out] at ho
  have HE := ho.kept (hi := w1.heap.size) rfl; clear ho hx ha
  have hm0 : m0 ≤ 640 := by have := HE.ownF.1; have := HLE.out; omega
  go_wp2
  refine Code.wp_name ?_
  intro U2 hU2
  have hb : Below w1.heap.size w1 U2 := by rw [hU2]; exact ((Below.refl _ _).alloc (Nat.le_refl _) _)
  have zz : Hid (w1.heap.size + 1 = U2.heap.size) := Lib.hid (by rw [hU2]; simp)
  have HX1 : Kept w1.heap.size (w1.heap.size + 1) (BoxK w1.heap.size 191 #[]) U2 := by rw [hU2]; exact Kept.box (Box.made_at _ _ _ rfl)
  replace HE := HE.below hb
  replace HB := Lib.hid (below_step HB.out hb)
  clear hb
  have Z2 := zz; clear zz
  clear hU2
  have HI0 := (OwnF.of_box0 (size := 5) (f := edgecell) HX1.bx).kept (hi := U2.heap.size) rfl
  go_loopw [5, 4] (fun t5 t4 wr => ∃ (i : Nat) (F : Option Addr) (j b1 : Nat), i ≤ m0 ∧ t5 = .int .i64 i ∧ t4 = .slice F j b1 ∧ j ≤ i ∧ Kept w1.heap.size wr.heap.size (OwnFK 191 5 edgecell w1.heap.size wr.heap.size F j b1 ((es.take i).filter (backB es))) wr ∧ Kept w.heap.size w1.heap.size (OwnFK 191 5 edgecell w.heap.size w1.heap.size E0 m0 b0 es) wr ∧ Hid (U2.heap.size ≤ wr.heap.size) ∧ Hid (Below w.heap.size w wr)) (fun t5 _ _ => m0 - (intOf t5).toNat)
  case atStart => exact ⟨0, _, 0, 0, Nat.zero_le _, rfl, rfl, Nat.le_refl _, HI0, HE, Lib.hid (Nat.le_refl _), HB⟩
  case round =>
    clear HI0 HE HB HX1
    obtain ⟨i, F, j, b1, hi, rfl, rfl, hji, HI, HE, HZW, HB⟩ := hrel
    by_cases hlt : i < m0
    · obtain ⟨a, hya⟩ : ∃ a, es[i]? = some a := ⟨_, List.getElem?_eq_getElem (by have := HE.ownF.1; omega)⟩
      obtain ⟨g0, hE0, _, _⟩ := HE.ownF.form (by omega)
      subst hE0
      have hlt' : (i : Int) < m0 := by omega
      have HYA := Lib.hid hya
      have hzv := HZW.out
      obtain ⟨v, hv⟩ : ∃ v : World, v = wr := ⟨_, rfl⟩
      subst hv
      clear hya
      go_wp2
      go_loopw [6, 4] (fun t6 t4 wr => ∃ k : Nat, k ≤ m0 ∧ t6 = .int .i64 k ∧ t4 = .slice F j b1 ∧ Hid (∀ t x, t < k → es[t]? = some x → (ndE x.frm a.dst && ndE x.dst a.frm) = false) ∧ ∃ d, wr = v.drewN d) (fun t6 _ _ => m0 - (intOf t6).toNat)
      case atStart => exact ⟨0, Nat.zero_le _, rfl, rfl, Lib.hid (fun t x h => absurd h (by omega)), 0, rfl⟩
      case round =>
        obtain ⟨k, hk, rfl, rfl, HN, d, rfl⟩ := hrel
        by_cases hkl : k < m0
        · obtain ⟨x, hyx⟩ : ∃ x, es[k]? = some x := ⟨_, List.getElem?_eq_getElem (by have := HE.ownF.1; omega)⟩
          obtain ⟨a0, a1, a2, a3, a4⟩ := HE.ownF.at5 HYA.out
          obtain ⟨x0, x1, x2, x3, x4⟩ := HE.ownF.at5 hyx
          have hkl' : (k : Int) < m0 := by omega
          have HYX := Lib.hid hyx
          clear hyx
          cases h1 : ndE x.frm a.dst with
          | false =>
            have HM : Hid ((ndE x.frm a.dst && ndE x.dst a.frm) = false) := Lib.hid (by rw [h1]; rfl)
            go_wp2
            go_quiet (fail)
            go_wp2
            go_roundw
            case rel => exact ⟨k + 1, by omega, by go_num, rfl, Lib.hid (fun t y ht hy => by
              rcases Nat.lt_succ_iff_lt_or_eq.1 ht with h | rfl
              · exact HN.out t y h hy
              · rw [HYX.out] at hy; injection hy with hy; subst hy; exact HM.out), _, rfl⟩
            case measure => simp [intOf]; omega
          | true =>
            cases h2 : ndE x.dst a.frm with
            | false =>
              have HM : Hid ((ndE x.frm a.dst && ndE x.dst a.frm) = false) := Lib.hid (by rw [h1, h2]; rfl)
              go_wp2
              go_quiet (fail)
              go_wp2
              go_roundw
              case rel => exact ⟨k + 1, by omega, by go_num, rfl, Lib.hid (fun t y ht hy => by
                rcases Nat.lt_succ_iff_lt_or_eq.1 ht with h | rfl
                · exact HN.out t y h hy
                · rw [HYX.out] at hy; injection hy with hy; subst hy; exact HM.out), _, rfl⟩
              case measure => simp [intOf]; omega
            | true =>
              have HM : Hid (backB es a = true) := Lib.hid (by unfold backB; rw [List.any_eq_true]; exact ⟨x, List.mem_of_getElem? HYX.out, by rw [h1, h2]; rfl⟩)
              have HLI : ∀ q, Hid (InF 5 edgecell ((v.drewN q).alloc (.cells #[.bool a.frm.net, .int .i64 a.frm.id, .bool a.dst.net, .int .i64 a.dst.id, .int .i64 a.cost] 191)) (some ⟨(v.drewN q).heap.size, 0, none⟩) 1 [a]) := fun q => Lib.hid (Box.inF (f := edgecell) (Box.made (v.drewN q) _ _) [a] rfl)
              have HBA : ∀ q, Hid (Below v.heap.size v ((v.drewN q).alloc (.cells #[.bool a.frm.net, .int .i64 a.frm.id, .bool a.dst.net, .int .i64 a.dst.id, .int .i64 a.cost] 191))) := fun q => Lib.hid ((below_drewN (Below.refl _ _) _).alloc (Nat.le_refl _) _)
              have HIA : ∀ q, Hid (OwnF 191 5 edgecell ((v.drewN q).alloc (.cells #[.bool a.frm.net, .int .i64 a.frm.id, .bool a.dst.net, .int .i64 a.dst.id, .int .i64 a.cost] 191)) w1.heap.size F j b1 ((es.take i).filter (backB es))) := fun q => Lib.hid (HI.ownF.below (HBA q).out)
              have HBZ : ∀ q, Hid (w1.heap.size ≤ ((v.drewN q).alloc (.cells #[.bool a.frm.net, .int .i64 a.frm.id, .bool a.dst.net, .int .i64 a.dst.id, .int .i64 a.cost] 191)).heap.size) := fun q => Lib.hid (by have := (HBA q).out.size; have := Z1.out; have := Z2.out; omega)
              go_wp2
              go_quiet (fail)
              go_wp2_with (at_builtin; refine wpList_appF0 edgecell_len edgecell_one Try.underlying82 edgeInfo rfl (by decide) (by decide) rfl (.tmp 46) (.tmp 51) rfl (B := w1.heap.size) rfl (HIA _).out rfl (HLI _).out (by omega) (HBZ _).out ?_; intro F2 b2 u2 ho hg)
              go_roundw
              case rel =>
  
                have hq : Only w1.heap.size v.heap.size _ u2 := Only.of_grown hg (fun r hr => by have := HI.ownF.block r hr; have := HI.lim r hr; omega)
                have hsz := hg.size
                have hbs := (HBA (d + nq)).out.size
                refine ⟨i + 1, F2, j + 1, b2, by omega, by go_num, rfl, by omega, ?_, (HE.below (HBA _).out).only hq (by have := Z1.out; have := Z2.out; omega), Lib.hid (by omega), Lib.hid (Below.only (below_step HB.out (HBA (d + nq)).out) hq (by have := Z1.out; have := Z2.out; omega) (below_step HB.out (HBA (d + nq)).out).size)⟩
                rw [bothB_yes HYA.out HM.out]
                exact ho.kept rfl
              case measure => simp [intOf]; omega
        · have HM : Hid (backB es a = false) := Lib.hid (by
            unfold backB
            rw [List.any_eq_false]
            intro x hx
            obtain ⟨t, ht, rfl⟩ := List.getElem_of_mem hx
            have := HN.out t es[t] (by have := HE.ownF.1; omega) (List.getElem?_eq_getElem ht)
            rw [this]; simp)
          go_wp2
          go_roundw
          case rel => exact ⟨i + 1, F, j, b1, by omega, by go_num, rfl, by omega, by rw [bothB_no HYA.out HM.out]; exact HI.below (below_drewN (Below.refl _ _) _), HE.below (below_drewN (Below.refl _ _) _), Lib.hid hzv, Lib.hid (below_drewN HB.out _)⟩
          case measure => simp [intOf]; omega
    · obtain rfl : i = m0 := by omega
      rw [List.take_of_length_le (by rw [HE.ownF.1]; exact Nat.le_refl _)] at HI
      go_wp2
      go_ret
      exact ⟨F, j, b1, rfl, HI.ownF.mono (by have := Z1.out; have := Z2.out; omega), HB.out⟩

set_option maxRecDepth 100000 in
set_option maxHeartbeats 3200000 in
theorem specBothEnds_any (now : Int) (q : Bool) (lo hi : Nat) (A : Option Addr) (n c : Nat) (ys : List Ent) (w : World) (ha : Rep.ent.Sl q lo hi w A n ys) (hh : hi ≤ w.heap.size) (hn : n ≤ 1048576) (hm : ∀ y ∈ ys, y.l.links.length ≤ 1048576 ∧ y.l.routers.length ≤ 1048576) :
    Calls Try.prog 66 #[.agg #[.int .i64 now, .slice A n c]] w fun e w' => ∃ E j b, e = .returned (.agg #[.int .i64 (faultB now ys), .slice E j b]) ∧ Kept w.heap.size w'.heap.size (OwnFK 191 5 edgecell w.heap.size w'.heap.size E j b (beR now ys)) w' ∧ Below w.heap.size w w' := by
  have HB := Lib.hid (Below.refl w.heap.size w)
  have HA := Rep.Sl.kept ha hh
  have hln := ha.1
  have HM := Lib.hid hm
  clear ha hm
  obtain ⟨r, hr⟩ : ∃ z, faultB now ys = z := ⟨_, rfl⟩
  obtain ⟨xs, hxs⟩ : ∃ z, beR now ys = z := ⟨_, rfl⟩
  have HR := Lib.hid hr
  have HXS := Lib.hid hxs
  rw [hr, hxs]
  clear hr hxs
  go_enter Try.func66, Try.ntmps66
  go_wp2_with fail
  refine Calls.name ?_
  intro U1 hU1
  have hb : Below w.heap.size w U1 := by rw [hU1]; exact (((Below.refl _ _).alloc (Nat.le_refl _) _).alloc (by simp <;> omega) _)
  have zz : Hid (w.heap.size + 2 = U1.heap.size) := Lib.hid (by rw [hU1]; simp)
  have HX1 : Kept w.heap.size (w.heap.size + 1) (BoxK w.heap.size 88 #[.int .i64 now, .slice A n c]) U1 := by rw [hU1]; exact Kept.box ((Box.made_at _ _ _ rfl).over _)
  have HX2 : Kept (w.heap.size + 1) (w.heap.size + 1 + 1) (BoxK (w.heap.size + 1) 84 #[.int .i64 0, .slice none 0 0]) U1 := by rw [hU1]; exact Kept.box (Box.made_at _ _ _ (by simp <;> omega))
  replace HA := HA.below hb
  replace HB := Lib.hid (below_step HB.out hb)
  clear hb
  have Z1 := zz; clear zz
  clear hU1
  refine (specBaseFault_any now q lo hi A n c ys _ HA.sl HA.le hn HM.out).mono ?_
  rw [HR.out]
  rintro e w2 ⟨rfl, hb⟩
  have Z2 := Lib.hid hb.size
  replace HA := HA.below hb
  replace HX1 := HX1.below hb
  replace HX2 := HX2.below hb
  replace HB := Lib.hid (below_step HB.out hb)
  clear hb
  by_cases hr0 : r = 0
  · have HF : Hid (xs = bothB (edgesB ys)) := Lib.hid (by rw [← HXS.out]; exact beR_yes (HR.out.trans hr0))
    have HFW := Lib.hid (base_few (HR.out.trans hr0))
    have hn40 : n ≤ 40 := by have := HFW.out.1; omega
    subst hr0
    have l2_0 := HX1.bx.lt
    have l2_1 := HX2.bx.lt
    go_wp2_with fail
    clear l2_0 l2_1
    refine (l7Both_any now q lo hi w.heap.size A n c ys _ HX1.bx HA.sl HA.le hn40 HFW.out.2).mono ?_
    rintro e w3 ⟨E, j, b, rfl, ho, hb⟩
    have Z3 := Lib.hid hb.size
    replace HA := HA.below hb
    replace HX1 := HX1.below hb
    replace HX2 := HX2.below hb
    replace HB := Lib.hid (below_step HB.out hb)
    clear hb
    have HI := ho.kept (hi := w3.heap.size) rfl; clear ho
    rw [← HF.out] at HI
    have c3_0 := HX2.look 0
    have c3_1 := HX2.look 1
    have f3_0 := HX2.free 0
    have f3_1 := HX2.free 1
    have l3_0 := HX1.bx.lt
    have l3_1 := HX2.bx.lt
    go_wp2
    clear c3_0 c3_1 f3_0 f3_1 l3_0 l3_1
    obtain ⟨U4, hU4⟩ : ∃ W : World, W = ((w3.setCell ⟨w.heap.size + 1, 0, none⟩ (.int .i64 0)).setCell ⟨w.heap.size + 1, 1, none⟩ (.slice E j b)) := ⟨_, rfl⟩
    have ho : Only (w.heap.size + 1) (w.heap.size + 1 + 1) w3 U4 := by rw [hU4]; exact (((Only.refl _ _ _).set (p := ⟨w.heap.size + 1, 0, none⟩) (Nat.le_refl _) (Nat.lt_succ_self _) _).set (p := ⟨w.heap.size + 1, 1, none⟩) (Nat.le_refl _) (Nat.lt_succ_self _) _)
    replace HX2 : Kept (w.heap.size + 1) (w.heap.size + 1 + 1) (BoxK (w.heap.size + 1) 84 #[.int .i64 0, .slice E j b]) U4 := by rw [hU4]; exact Kept.box ((HX2.bx.puts 0 (.int .i64 0) (cs' := #[.int .i64 0, .slice none 0 0]) rfl).puts 1 (.slice E j b) (cs' := #[.int .i64 0, .slice E j b]) rfl)
    replace HA := HA.only ho (by have := Z1.out; have := Z2.out; have := Z3.out; omega)
    replace HX1 := HX1.only ho (by have := Z1.out; have := Z2.out; have := Z3.out; omega)
    replace HI := HI.only ho (by have := Z1.out; have := Z2.out; have := Z3.out; omega)
    replace HB := Lib.hid (Below.only HB.out ho (by have := Z1.out; have := Z2.out; have := Z3.out; omega) HB.out.size)
    have Z4 : Hid (U4.heap.size = w3.heap.size) := Lib.hid (by rw [hU4]; simp [World.setCell]); clear ho
    have q_0 := HX2.look 0
    have q_1 := HX2.look 1
    subst hU4
    exact bodyPost_ret (v := .agg #[.int .i64 0, .slice E j b]) (by simp [results, Try.results66, go_sem, q_0, q_1]) rfl ⟨E, j, b, rfl, OwnFK.wid HI (by have := Z1.out; have := Z2.out; have := Z3.out; have := Z4.out; omega) (by have := HI.le; omega) (Nat.le_refl _), HB.out⟩
  · have hr1 : (r != 0) = true := by simpa using hr0
    have HF : Hid (xs = []) := Lib.hid (by rw [← HXS.out]; exact beR_no (by rw [HR.out]; exact hr0))
    have c2_0 := HX2.look 0
    have c2_1 := HX2.look 1
    have f2_0 := HX2.free 0
    have f2_1 := HX2.free 1
    have l2_0 := HX1.bx.lt
    have l2_1 := HX2.bx.lt
    go_wp2
    clear c2_0 c2_1 f2_0 f2_1 l2_0 l2_1
    obtain ⟨U3, hU3⟩ : ∃ W : World, W = ((w2.setCell ⟨w.heap.size + 1, 0, none⟩ (.int .i64 r)).setCell ⟨w.heap.size + 1, 1, none⟩ (.slice none 0 0)) := ⟨_, rfl⟩
    have ho : Only (w.heap.size + 1) (w.heap.size + 1 + 1) w2 U3 := by rw [hU3]; exact (((Only.refl _ _ _).set (p := ⟨w.heap.size + 1, 0, none⟩) (Nat.le_refl _) (Nat.lt_succ_self _) _).set (p := ⟨w.heap.size + 1, 1, none⟩) (Nat.le_refl _) (Nat.lt_succ_self _) _)
    replace HX2 : Kept (w.heap.size + 1) (w.heap.size + 1 + 1) (BoxK (w.heap.size + 1) 84 #[.int .i64 r, .slice none 0 0]) U3 := by rw [hU3]; exact Kept.box ((HX2.bx.puts 0 (.int .i64 r) (cs' := #[.int .i64 r, .slice none 0 0]) rfl).puts 1 (.slice none 0 0) (cs' := #[.int .i64 r, .slice none 0 0]) rfl)
    replace HA := HA.only ho (by have := Z1.out; have := Z2.out; omega)
    replace HX1 := HX1.only ho (by have := Z1.out; have := Z2.out; omega)
    replace HB := Lib.hid (Below.only HB.out ho (by have := Z1.out; have := Z2.out; omega) HB.out.size)
    have Z3 : Hid (U3.heap.size = w2.heap.size) := Lib.hid (by rw [hU3]; simp [World.setCell]); clear ho
    have q_0 := HX2.look 0
    have q_1 := HX2.look 1
    subst hU3
    exact bodyPost_ret (v := .agg #[.int .i64 r, .slice none 0 0]) (by simp [results, Try.results66, go_sem, q_0, q_1]) rfl ⟨none, 0, 0, rfl, by rw [HF.out]; exact (OwnF.nil_ _ _ _ _ _).kept rfl, HB.out⟩



end Go.Proofs.Ytooogjfnnmacjaa

namespace Go.Proofs.Ytooogjfnnmacjaa
open Go.RowKit
set_option linter.unusedVariables false

theorem markLinkS_F (A : Option Addr) (n c : Nat) (ys : List Lnk) (bs : List Nat) (k0 : Int) (w : World) (ha : Rep.link.FSl w A n ys bs) (hn : n ≤ 1048576) (h0 : 0 ≤ k0) (h1 : k0 ≤ 4294967296) :
    Calls Try.prog 174 #[.slice A n c, .int .i64 k0] w fun e w' => e = .returned (.int .i64 (k0 + 4 * n)) ∧ Rep.link.FSl w' A n (mLinks k0 n) bs ∧ OnlyB bs w w' := by
  rcases ha with ⟨rfl, rfl, rfl⟩ | ⟨hp, b, rfl, hs⟩
  · refine (markLinkS_any 0 0 A 0 c [] k0 w (Rep.Sl_nil _ _ _ _ _ _) hn h0 h1).mono ?_
    rintro e w2 ⟨rfl, _, ho, _⟩
    exact ⟨rfl, .inl ⟨rfl, rfl, rfl⟩, OnlyB.of_same ho⟩
  · refine (markLinkS_any b (b + 1) A n c ys k0 w hs hn h0 h1).mono ?_
    rintro e w2 ⟨rfl, h2, ho, _⟩
    exact ⟨rfl, .inr ⟨hp, b, rfl, h2⟩, OnlyB.of_only ho (by simp)⟩
theorem markInt64S_F (A : Option Addr) (n c : Nat) (ys : List Int) (bs : List Nat) (k0 : Int) (w : World) (ha : Rep.int.FSl w A n ys bs) (hn : n ≤ 1048576) (h0 : 0 ≤ k0) (h1 : k0 ≤ 4294967296) :
    Calls Try.prog 175 #[.slice A n c, .int .i64 k0] w fun e w' => e = .returned (.int .i64 (k0 + n)) ∧ Rep.int.FSl w' A n (mInts k0 n) bs ∧ OnlyB bs w w' := by
  rcases ha with ⟨rfl, rfl, rfl⟩ | ⟨hp, b, rfl, hs⟩
  · refine (markInt64S_any 0 0 A 0 c [] k0 w (Rep.Sl_nil _ _ _ _ _ _) hn h0 h1).mono ?_
    rintro e w2 ⟨rfl, _, ho⟩
    exact ⟨rfl, .inl ⟨rfl, rfl, rfl⟩, OnlyB.of_same ho⟩
  · refine (markInt64S_any b (b + 1) A n c ys k0 w hs hn h0 h1).mono ?_
    rintro e w2 ⟨rfl, h2, ho⟩
    exact ⟨rfl, .inr ⟨hp, b, rfl, h2⟩, OnlyB.of_only ho (by simp)⟩

/-- How many marks an entry takes. -/
def entW (e : Ent) : Nat := 9 + 4 * e.l.links.length + e.l.routers.length
def entWs (es : List Ent) : Nat := (es.map entW).sum
theorem entWs_take (es : List Ent) (k : Nat) (e : Ent) (h : es[k]? = some e) : entWs (es.take (k + 1)) = entWs (es.take k) + entW e := by
  have hk := (List.getElem?_eq_some_iff.1 h).1
  have he := (List.getElem?_eq_some_iff.1 h).2
  rw [entWs, entWs, List.take_succ_eq_append_getElem hk, he]
  simp
theorem entWs_le (es : List Ent) : entWs es ≤ 9 * es.length + 4 * tot (entRows es) := by
  induction es with
  | nil => simp [entWs]
  | cons e es ih =>
    simp only [entWs, tot, entRows, entW, List.map_cons, List.sum_cons, List.length_cons, entRow_len] at ih ⊢
    omega
theorem entWs_takeLe (es : List Ent) (k : Nat) : entWs (es.take k) ≤ entWs es := by
  have h := congrArg (fun l => (List.map entW l).sum) (List.take_append_drop k es)
  simp only [List.map_append, List.sum_append] at h
  unfold entWs; omega
theorem entWs_at (es : List Ent) (k : Nat) (e : Ent) (h : es[k]? = some e) : entWs (es.take k) + entW e ≤ entWs es := by
  rw [← entWs_take es k e h]; exact entWs_takeLe es (k + 1)
/-- An entry that bears marks from `k` on. -/
def mEnt (e : Ent) (k : Int) : Ent :=
  ⟨⟨k, k + 1, k + 1 + 1, k + 1 + 1 + 1, k + 1 + 1 + 1 + 1, k + 1 + 1 + 1 + 1 + 1, mLinks (k + 1 + 1 + 1 + 1 + 1 + 1) e.l.links.length, mInts (k + 1 + 1 + 1 + 1 + 1 + 1 + 4 * (e.l.links.length : Int)) e.l.routers.length,
    k + 1 + 1 + 1 + 1 + 1 + 1 + 4 * (e.l.links.length : Int) + (e.l.routers.length : Int), k + 1 + 1 + 1 + 1 + 1 + 1 + 4 * (e.l.links.length : Int) + (e.l.routers.length : Int) + 1⟩, k + 1 + 1 + 1 + 1 + 1 + 1 + 4 * (e.l.links.length : Int) + (e.l.routers.length : Int) + 1 + 1⟩
/-- The entries bear marks. -/
def MarkedE (k0 : Int) (ys zs : List Ent) : Prop := zs.length = ys.length ∧ ∀ j y, ys[j]? = some y → zs[j]? = some (mEnt y (k0 + (entWs (ys.take j) : Int)))

set_option maxRecDepth 100000 in
set_option maxHeartbeats 3200000 in
theorem markEntryS_any (A : Option Addr) (n c : Nat) (ys : List Ent) (bs : List Nat) (k0 : Int) (w : World) (ha : FRep.ent.Sl w A n ys bs) (hd : bs.Nodup) (hb : ∀ b ∈ bs, b < w.heap.size) (hn : n ≤ 1048576) (ht : tot (entRows ys) ≤ 1048576) (h0 : 0 ≤ k0) (h1 : k0 ≤ 1048576) :
    Calls Try.prog 137 #[.slice A n c, .int .i64 k0] w fun e w' => e = .returned (.int .i64 (k0 + (entWs ys : Int))) ∧ (∃ zs, MarkedE k0 ys zs ∧ FRep.ent.Sl w' A n zs bs) ∧ OnlyB bs w w' := by
  have hl := ha.1
  have HT : Hid (entWs ys ≤ 13631488 ∧ tot (entRows ys) ≤ 1048576) := Lib.hid ⟨by have := entWs_le ys; omega, ht⟩
  have HBB := Lib.hid hb
  have HD := Lib.hid hd
  clear ht hb
  go_enter Try.func137, Try.ntmps137
  go_wp2
  go_loopw [5, 1] (fun i q wr => ∃ k : Nat, k ≤ n ∧ i = .int .i64 k ∧ q = .int .i64 (k0 + (entWs (ys.take k) : Int)) ∧ Hid (OnlyB bs w wr) ∧
      Hid (∃ zs : List Ent, FRep.ent.Sl wr A n zs bs ∧ ∀ (j : Nat) (y : Ent), ys[j]? = some y → zs[j]? = some (if j < k then mEnt y (k0 + (entWs (ys.take j) : Int)) else y)))
    (fun i _ _ => n - (intOf i).toNat)
  case atStart => exact ⟨0, Nat.zero_le _, rfl, by simp [entWs], OnlyB.refl _ _, ys, ha, fun j y hy => by simpa using hy⟩
  case round =>
    obtain ⟨k, hk, rfl, hq, HO, HZ⟩ := hrel
    by_cases hlt : k < n
    · have hlt' : (k : Int) < n := by omega
      have hzz := HZ.out
      obtain ⟨zs, hz, hzs⟩ := hzz
      have hyk := List.getElem?_eq_getElem (show k < ys.length by omega)
      obtain ⟨y, hy⟩ : ∃ y, ys[k] = y := ⟨_, rfl⟩
      rw [hy] at hyk
      have hzk := hzs k y hyk
      rw [if_neg (by omega)] at hzk
      have hzl : zs.length = n := hz.1
      obtain ⟨b, z, cs, f, rfl, hbm, hbf, hzk', hfz, hrl, hcs, hfd, hfs, hup⟩ := hz.at_ hd hlt
      obtain rfl : z = y := by rw [hzk] at hzk'; injection hzk' with e; exact e.symm
      obtain ⟨E, F, m, c1, m', d1, f1, f2, rfl, rfl, hs1, hs2⟩ := hrl
      have hml : z.l.links.length = m := hs1.len
      have hml' : z.l.routers.length = m' := hs2.len
      have hat := entWs_at ys k z hyk
      obtain ⟨q0, hq0⟩ : ∃ q0 : Int, k0 + (entWs (ys.take k) : Int) = q0 := ⟨_, rfl⟩
      have hw9 : entW z = 9 + 4 * m + m' := by rw [entW, hml, hml']
      have hqb : 0 ≤ q0 ∧ q0 + 9 + 4 * m + m' ≤ 20000000 := by have := HT.out.1; omega
      have hmb : m ≤ 1048576 ∧ m' ≤ 1048576 := by have h1 := HT.out.2; have h2 := tot_ent hyk; omega
      have HQ := Lib.hid hq0
      rw [hq0] at hq
      subst hq
      have hblt : b < wr.heap.size := Nat.lt_of_lt_of_le (HBB.out b hbm) HO.out.size
      have a0 := hcs 0 _ rfl
      have a1 := hcs 1 _ rfl
      have a2 := hcs 2 _ rfl
      have a3 := hcs 3 _ rfl
      have a4 := hcs 4 _ rfl
      have a5 := hcs 5 _ rfl
      have a6 := hcs 6 _ rfl
      have a7 := hcs 7 _ rfl
      have a8 := hcs 8 _ rfl
      have a9 := hcs 9 _ rfl
      have a10 := hcs 10 _ rfl
      rw [show FRep.ent.rep.size = 11 from rfl] at a0 a1 a2 a3 a4 a5 a6 a7 a8 a9 a10
      rw [Nat.add_zero] at a0
      have z0 := hfz (k * 11)
      have z1 := hfz (k * 11 + 1)
      have z2 := hfz (k * 11 + 2)
      have z3 := hfz (k * 11 + 3)
      have z4 := hfz (k * 11 + 4)
      have z5 := hfz (k * 11 + 5)
      have HA7 := Lib.hid (And.intro a7 (And.intro a8 (And.intro a9 a10)))
      have HAA := Lib.hid (And.intro a0 (And.intro a1 (And.intro a2 (And.intro a3 (And.intro a4 (And.intro a5 a6))))))
      have HUP := Lib.hid hup
      have HS1 := Lib.hid hs1
      have HS2 := Lib.hid hs2
      have HY := Lib.hid hyk
      have HZS := Lib.hid hzs
      have HF := Lib.hid (And.intro hbm (And.intro hbf (And.intro hfd (And.intro hfs hblt))))
      have HML := Lib.hid (And.intro hml (And.intro hml' hzl))
      have HFZ := Lib.hid hfz
      have HW9 := Lib.hid hw9
      clear hup hs1 hs2 hyk hzs hzk hzk' hfs hat hy hz HZ hml hml' hbm hbf hzl hcs hfz hfd hq0 hw9 a7 a8 a9 a10 hblt
      go_wp2_with fail
      refine Calls.name ?_
      intro U1 hU1
      have hP1 : U1 = puts wr b (k * 11) [.int .i64 q0, .int .i64 (q0 + 1), .int .i64 (q0 + 1 + 1), .int .i64 (q0 + 1 + 1 + 1), .int .i64 (q0 + 1 + 1 + 1 + 1), .int .i64 (q0 + 1 + 1 + 1 + 1 + 1)] := hU1.trans rfl
      have hsz1 : U1.heap.size = wr.heap.size := by rw [hP1]; exact puts_size _ _ _
      have ho1 : Only b (b + 1) wr U1 := by rw [hP1]; exact puts_only _ _ _
      have hfz1 : ∀ i, U1.frozen? ⟨b, i, none⟩ = false := fun i => by rw [hP1, puts_frozen]; exact HFZ.out i
      have hout1 : ∀ i, (i < k * 11 ∨ k * 11 + 6 ≤ i) → U1.cell? ⟨b, i, none⟩ = wr.cell? ⟨b, i, none⟩ := fun i hi => by rw [hP1]; exact puts_out i _ _ _ (by simpa using hi)
      have hat1 : ∀ j, j < 6 → U1.cell? ⟨b, k * 11 + j, none⟩ = ([.int .i64 q0, .int .i64 (q0 + 1), .int .i64 (q0 + 1 + 1), .int .i64 (q0 + 1 + 1 + 1), .int .i64 (q0 + 1 + 1 + 1 + 1), .int .i64 (q0 + 1 + 1 + 1 + 1 + 1)] : List Value)[j]? := fun j hj => by
        rw [hP1]
        refine puts_at j _ _ _ (by simpa using hj) ?_
        obtain ⟨e0, e1, e2, e3, e4, e5, _⟩ := HAA.out
        rcases (show j = 0 ∨ j = 1 ∨ j = 2 ∨ j = 3 ∨ j = 4 ∨ j = 5 by omega) with rfl | rfl | rfl | rfl | rfl | rfl
        · exact ⟨_, e0⟩
        · exact ⟨_, e1⟩
        · exact ⟨_, e2⟩
        · exact ⟨_, e3⟩
        · exact ⟨_, e4⟩
        · exact ⟨_, e5⟩
      clear hP1 hU1 a0 a1 a2 a3 a4 a5 a6 z0 z1 z2 z3 z4 z5
      have hnf : ∀ x ∈ f1 ++ f2, x ≠ b ∧ x < wr.heap.size := fun x hx => ⟨fun h => HF.out.2.1 (h ▸ hx), Nat.lt_of_lt_of_le (HBB.out x (HF.out.2.2.2.1 x hx)) HO.out.size⟩
      have hsm1 : ∀ x ∈ f1 ++ f2, U1.heap[x]? = wr.heap[x]? := fun x hx => ho1.block x (hnf x hx).2 (by have := (hnf x hx).1; omega)
      have hds := List.nodup_append.1 HF.out.2.2.1
      have HS1a := Lib.hid (HS1.out.keep fun x hx => hsm1 x (List.mem_append_left _ hx))
      have HS2a := Lib.hid (HS2.out.keep fun x hx => hsm1 x (List.mem_append_right _ hx))
      have HU1 := Lib.hid (And.intro hfz1 (And.intro hout1 (And.intro hat1 (And.intro hsz1 ho1))))
      have HNF := Lib.hid (And.intro hnf hds)
      clear hfz1 hout1 hat1 hsz1 ho1 hnf hsm1 hds HS1 HS2
      refine (markLinkS_F E m c1 z.l.links f1 _ U1 HS1a.out hmb.1 (by omega) (by omega)).mono ?_
      rintro e w1 ⟨rfl, hs1, oo1⟩
      have hb1 : w1.heap[b]? = U1.heap[b]? := oo1.block b (by have := HU1.out.2.2.2.1; have := HF.out.2.2.2.2; omega) (fun h => HF.out.2.1 (List.mem_append_left _ h))
      have x7 : w1.cell? ⟨b, k * 11 + 7, none⟩ = some (.slice F m' d1) := (World.cell?_of_block hb1).trans ((HU1.out.2.1 (k * 11 + 7) (.inr (by omega))).trans HA7.out.1)
      have HS1b := Lib.hid hs1
      have HB1 := Lib.hid hb1
      have HS2b := Lib.hid (HS2a.out.keep fun x hx => oo1.block x (by have := HU1.out.2.2.2.1; have := (HNF.out.1 x (List.mem_append_right _ hx)).2; omega) (fun h => HNF.out.2.2.2 x h x hx rfl))
      have HO1 := Lib.hid oo1
      clear hs1 oo1 hb1 HS1a HS2a
      go_wp2_with fail
      refine (markInt64S_F F m' d1 z.l.routers f2 _ w1 HS2b.out hmb.2 (by omega) (by omega)).mono ?_
      rintro e w2 ⟨rfl, hs2, oo2⟩
      have hlt1 : b < w1.heap.size := by have := HU1.out.2.2.2.1; have := HF.out.2.2.2.2; have := HO1.out.size; omega
      have hb2 : w2.heap[b]? = U1.heap[b]? := (oo2.block b hlt1 (fun h => HF.out.2.1 (List.mem_append_right _ h))).trans HB1.out
      have x8 : w2.cell? ⟨b, k * 11 + 8, none⟩ = some (.int .i64 z.l.mask) := (World.cell?_of_block hb2).trans ((HU1.out.2.1 (k * 11 + 8) (.inr (by omega))).trans HA7.out.2.1)
      have x9 : w2.cell? ⟨b, k * 11 + 9, none⟩ = some (.int .i64 z.l.cost) := (World.cell?_of_block hb2).trans ((HU1.out.2.1 (k * 11 + 9) (.inr (by omega))).trans HA7.out.2.2.1)
      have x10 : w2.cell? ⟨b, k * 11 + 10, none⟩ = some (.int .i64 z.at_) := (World.cell?_of_block hb2).trans ((HU1.out.2.1 (k * 11 + 10) (.inr (by omega))).trans HA7.out.2.2.2)
      have y8 := (World.frozen?_of_block (a := ⟨b, k * 11 + 8, none⟩) hb2).trans (HU1.out.1 _)
      have y9 := (World.frozen?_of_block (a := ⟨b, k * 11 + 9, none⟩) hb2).trans (HU1.out.1 _)
      have y10 := (World.frozen?_of_block (a := ⟨b, k * 11 + 10, none⟩) hb2).trans (HU1.out.1 _)
      have HX8 := Lib.hid (And.intro x8 (And.intro x9 x10))
      have HB2 := Lib.hid hb2
      have HS2c := Lib.hid hs2
      have HO2 := Lib.hid oo2
      clear hs2 oo2 hb2 x7 HS2b HB1
      go_wp2
      go_roundw
      case rel =>
        obtain ⟨U3, hU3⟩ : ∃ W : World, W = (((w2.setCell ⟨b, k * 11 + 8, none⟩ (.int .i64 (q0 + 1 + 1 + 1 + 1 + 1 + 1 + 4 * (m : Int) + (m' : Int)))).setCell ⟨b, k * 11 + 9, none⟩ (.int .i64 (q0 + 1 + 1 + 1 + 1 + 1 + 1 + 4 * (m : Int) + (m' : Int) + 1))).setCell ⟨b, k * 11 + 10, none⟩ (.int .i64 (q0 + 1 + 1 + 1 + 1 + 1 + 1 + 4 * (m : Int) + (m' : Int) + 1 + 1))) := ⟨_, rfl⟩
        have hP : U3 = puts w2 b (k * 11 + 8) [.int .i64 (q0 + 1 + 1 + 1 + 1 + 1 + 1 + 4 * (m : Int) + (m' : Int)), .int .i64 (q0 + 1 + 1 + 1 + 1 + 1 + 1 + 4 * (m : Int) + (m' : Int) + 1), .int .i64 (q0 + 1 + 1 + 1 + 1 + 1 + 1 + 4 * (m : Int) + (m' : Int) + 1 + 1)] := hU3.trans rfl
        have hsz : U3.heap.size = w2.heap.size := by rw [hP]; exact puts_size _ _ _
        have ho : Only b (b + 1) w2 U3 := by rw [hP]; exact puts_only _ _ _
        have hb2 := HB2.out
        have hfz3 : ∀ i, U3.frozen? ⟨b, i, none⟩ = false := fun i => by rw [hP, puts_frozen, World.frozen?_of_block (a := ⟨b, i, none⟩) hb2]; exact HU1.out.1 i
        have hout3 : ∀ i, (i < k * 11 + 8 ∨ k * 11 + 11 ≤ i) → U3.cell? ⟨b, i, none⟩ = U1.cell? ⟨b, i, none⟩ := fun i hi => by
          rw [hP, puts_out i _ _ _ (by simpa using hi)]; exact World.cell?_of_block hb2
        have hat3 : ∀ j, j < 3 → U3.cell? ⟨b, k * 11 + 8 + j, none⟩ = ([.int .i64 (q0 + 1 + 1 + 1 + 1 + 1 + 1 + 4 * (m : Int) + (m' : Int)), .int .i64 (q0 + 1 + 1 + 1 + 1 + 1 + 1 + 4 * (m : Int) + (m' : Int) + 1), .int .i64 (q0 + 1 + 1 + 1 + 1 + 1 + 1 + 4 * (m : Int) + (m' : Int) + 1 + 1)] : List Value)[j]? := fun j hj => by
          rw [hP]
          refine puts_at j _ _ _ (by simpa using hj) ?_
          rcases (show j = 0 ∨ j = 1 ∨ j = 2 by omega) with rfl | rfl | rfl
          · exact ⟨_, HX8.out.1⟩
          · exact ⟨_, HX8.out.2.1⟩
          · exact ⟨_, HX8.out.2.2⟩
        clear hP
        have hszs := HU1.out.2.2.2.1
        have hso1 := HO1.out.size
        have hso2 := HO2.out.size
        have hbl := HF.out.2.2.2.2
        have hbm := HF.out.1
        have hbf := HF.out.2.1
        have hfs := HF.out.2.2.2.1
        have hnf := HNF.out.1
        have hds := HNF.out.2.2.2
        have ho1 := HU1.out.2.2.2.2
        have hff : ∀ x ∈ f1 ++ f2, U3.heap[x]? = w2.heap[x]? := fun x hx => ho.block x (by have := (hnf x hx).2; omega) (by have := (hnf x hx).1; omega)
        have g1 : Rep.link.FSl U3 E m (mLinks (q0 + 1 + 1 + 1 + 1 + 1 + 1) m) f1 := HS1b.out.keep fun x hx => (hff x (List.mem_append_left _ hx)).trans (HO2.out.block x (by have := (hnf x (List.mem_append_left _ hx)).2; omega) (fun h => hds x hx x h rfl))
        have g2 : Rep.int.FSl U3 F m' (mInts (q0 + 1 + 1 + 1 + 1 + 1 + 1 + 4 * (m : Int)) m') f2 := HS2c.out.keep fun x hx => hff x (List.mem_append_right _ hx)
        have hml := HML.out.1
        have hml' := HML.out.2.1
        have hall : ∀ x, x < wr.heap.size → x ≠ b → x ∉ f1 ++ f2 → U3.heap[x]? = wr.heap[x]? := fun x hx hxb hxf =>
          (ho.block x (by omega) (by omega)).trans ((HO2.out.block x (by omega) (fun h => hxf (List.mem_append_right _ h))).trans ((HO1.out.block x (by omega) (fun h => hxf (List.mem_append_left _ h))).trans (ho1.block x hx (by omega))))
        have HR := HUP.out U3 (mEnt z q0) (entCells (mEnt z q0).l (mEnt z q0).at_ E F m c1 m' d1).toList
          (fun x hx hxb hxf => hall x (Nat.lt_of_lt_of_le (HBB.out x hx) HO.out.size) hxb hxf) hfz3
          (fun i hi => by
            rw [show FRep.ent.rep.size = 11 from rfl] at hi
            rw [hout3 i (by omega)]
            exact HU1.out.2.1 i (by omega))
          ⟨E, F, m, c1, m', d1, f1, f2, rfl, rfl, by show Rep.link.FSl U3 E m (mLinks (q0 + 1 + 1 + 1 + 1 + 1 + 1) z.l.links.length) f1; rw [hml]; exact g1,
            by show Rep.int.FSl U3 F m' (mInts (q0 + 1 + 1 + 1 + 1 + 1 + 1 + 4 * (z.l.links.length : Int)) z.l.routers.length) f2; rw [hml, hml']; exact g2⟩
          (fun j u hj => by
            have hj11 : j < 11 := (List.getElem?_eq_some_iff.1 hj).1
            simp only [mEnt, hml, hml'] at hj
            rw [show FRep.ent.rep.size = 11 from rfl]
            by_cases h6 : j < 6
            · rw [hout3 _ (by omega), HU1.out.2.2.1 j h6, ← hj]
              rcases (show j = 0 ∨ j = 1 ∨ j = 2 ∨ j = 3 ∨ j = 4 ∨ j = 5 by omega) with rfl | rfl | rfl | rfl | rfl | rfl <;> rfl
            · by_cases h8 : j < 8
              · rw [hout3 _ (by omega), HU1.out.2.1 _ (by omega)]
                rcases (show j = 6 ∨ j = 7 by omega) with rfl | rfl
                · rw [HAA.out.2.2.2.2.2.2, ← hj]; rfl
                · rw [HA7.out.1, ← hj]; rfl
              · have := hat3 (j - 8) (by omega)
                rw [show k * 11 + 8 + (j - 8) = k * 11 + j by omega] at this
                rw [this, ← hj]
                rcases (show j = 8 ∨ j = 9 ∨ j = 10 by omega) with rfl | rfl | rfl <;> rfl)
        have HOO : OnlyB bs w U3 := HO.out.trans ⟨ho.os.trans (HO2.out.os.trans (HO1.out.os.trans ho1.os)), ho.tape.trans (HO2.out.tape.trans (HO1.out.tape.trans ho1.tape)), ho.output.trans (HO2.out.output.trans (HO1.out.output.trans ho1.output)), by omega,
          fun x hx hxn => hall x hx (fun h => hxn (h ▸ hbm)) (fun h => hxn (hfs x h))⟩
        refine ⟨k + 1, by omega, by go_num, ?_, by rw [← hU3]; exact HOO, zs.set k (mEnt z q0), by rw [← hU3]; exact HR, fun j y hy => ?_⟩
        · have := HW9.out
          have hq0 := HQ.out
          rw [entWs_take ys k z HY.out]
          go_num
        · by_cases e : j = k
          · subst e
            rw [List.getElem?_set_self (by have := HML.out.2.2; omega), if_pos (by omega)]
            rw [HY.out] at hy
            injection hy with hy
            subst hy
            rw [HQ.out]
          · rw [List.getElem?_set_ne (fun h => e h.symm), HZS.out j y hy]
            by_cases hj : j < k
            · rw [if_pos hj, if_pos (by omega)]
            · rw [if_neg hj, if_neg (by omega)]
      case measure => simp [intOf]; omega
    · have hkn : k = n := by omega
      subst hkn
      have HT2 : Hid (ys.take k = ys) := Lib.hid (List.take_of_length_le (by omega))
      subst hq
      rw [HT2.out]
      have hb3 := HT.out.1
      go_wp2
      go_ret
      obtain ⟨zs, hz, hzs⟩ := HZ.out
      exact ⟨rfl, ⟨zs, ⟨by rw [hz.1, hl], fun j y hy => by rw [hzs j y hy, if_pos (by have := (List.getElem?_eq_some_iff.1 hy).1; omega)]⟩, hz⟩, HO.out⟩

set_option maxHeartbeats 800000 in
theorem markBase_F (A : Option Addr) (n c : Nat) (ys : List Ent) (bs : List Nat) (now k0 : Int) (w : World) (ha : FRep.ent.Sl w A n ys bs) (hd : bs.Nodup) (hb : ∀ b ∈ bs, b < w.heap.size) (hn : n ≤ 1048576) (ht : tot (entRows ys) ≤ 1048576) (h0 : 0 ≤ k0) (h1 : k0 ≤ 1048576) :
    Calls Try.prog 63 #[.agg #[.int .i64 now, .slice A n c], .int .i64 k0] w fun e w' => e = .returned (.int .i64 (k0 + (entWs ys : Int))) ∧ (∃ zs, MarkedE k0 ys zs ∧ FRep.ent.Sl w' A n zs bs) ∧ OnlyB bs w w' := by
  obtain ⟨V, hV⟩ : ∃ W : World, W = w.alloc (.cells #[.int .i64 now, .slice A n c] 88) := ⟨_, rfl⟩
  have hbV : Below w.heap.size w V := by rw [hV]; exact (Below.refl _ _).alloc (Nat.le_refl _) _
  have HL := Lib.hid (ha.keep (SameB.of_below hbV hb))
  have HO : Hid (OnlyB bs w V) := Lib.hid (OnlyB.of_below hbV)
  have HD := Lib.hid hd
  have HBB : Hid (∀ b ∈ bs, b < V.heap.size) := Lib.hid (fun b hx => Nat.lt_of_lt_of_le (hb b hx) hbV.size)
  have HT := Lib.hid ht
  clear hbV ha hd hb ht
  go_enter Try.func63, Try.ntmps63
  go_wp2_with fail
  rw [← hV]
  clear hV
  refine (markEntryS_any A n c ys bs k0 _ HL.out HD.out HBB.out hn HT.out h0 h1).mono ?_
  rintro e w1 ⟨rfl, hz, ho⟩
  have HZ := Lib.hid hz
  have HO1 := Lib.hid (HO.out.trans ho)
  clear ho hz HO HL
  go_wp2
  go_ret
  exact ⟨rfl, HZ.out, HO1.out⟩

end Go.Proofs.Ytooogjfnnmacjaa

namespace Go.Proofs.Ytooogjfnnmacjaa
open Go.RowKit
set_option linter.unusedVariables false

set_option maxRecDepth 100000 in
set_option maxHeartbeats 3200000 in
theorem law_BothEnds (v0 : Int) (ys0 : List Ent) (q0 : Bool) (lo0 hi0 : Nat) (A0 : Option Addr) (n0 c0 : Nat) (w : World) (ha0 : Rep.ent.Sl q0 lo0 hi0 w A0 n0 ys0) (hh0 : hi0 ≤ w.heap.size) (hn0 : n0 ≤ maxLen) (hm0 : ∀ y ∈ ys0, y.l.links.length ≤ maxLen ∧ y.l.routers.length ≤ maxLen) :
    Calls Try.prog 7 #[.agg #[.int .i64 v0, .slice A0 n0 c0]] w fun e w' => e = .returned (.bool true) ∧ Below w.heap.size w w' := by
  have hle0 := szSS_bd (entRows ys0) 1048576 (by omega)
  by_cases hbig0 : szSS 1048576 (entRows ys0) < 0
  · have HB := Lib.hid (Below.refl w.heap.size w)
    have HA0 := Rep.Sl.kept ha0 hh0
    have HMX0 := Lib.hid hm0
    clear ha0 hm0
    have HR0 := Lib.hid (szSS_neg (entRows ys0) 1048576 hbig0)
    clear hbig0 hle0
    go_enter Try.func7, Try.ntmps7
    go_wp2_with fail
    refine Calls.name ?_
    intro U1 hU1
    have hb : Below w.heap.size w U1 := by rw [hU1]; exact ((Below.refl _ _).alloc (Nat.le_refl _) _)
    have zz : Hid (w.heap.size + 1 = U1.heap.size) := Lib.hid (by rw [hU1]; simp)
    have HX1 : Kept w.heap.size (w.heap.size + 1) (BoxK w.heap.size 80 #[.int .i64 v0, .slice A0 n0 c0]) U1 := by rw [hU1]; exact Kept.box (Box.made_at _ _ _ rfl)
    replace HA0 := HA0.below hb
    replace HB := Lib.hid (below_step HB.out hb)
    clear hb
    have Z1 := zz; clear zz
    clear hU1
    refine (szBase_any q0 lo0 hi0 A0 n0 c0 ys0 v0 (1048576) _ HA0.sl HA0.le hn0 HMX0.out (by omega) (by omega)).mono ?_
    rw [HR0.out]
    rintro e w2 ⟨rfl, hb⟩
    have Z2 := Lib.hid hb.size
    replace HA0 := HA0.below hb
    replace HX1 := HX1.below hb
    replace HB := Lib.hid (below_step HB.out hb)
    clear hb
    have l2_0 := HX1.bx.lt
    go_wp2
    clear l2_0
    go_ret
    exact ⟨rfl, HB.out⟩
  have hsz0 := szSS_nonneg (show (0 : Int) ≤ 1048576 by omega) (show 0 ≤ szSS 1048576 (entRows ys0) by omega)
  obtain ⟨r0, hr0⟩ : ∃ r, szSS 1048576 (entRows ys0) = r := ⟨_, rfl⟩
  rw [hr0] at hle0 hbig0 hsz0
  have HR0 := Lib.hid hr0
  have hln0 := ha0.1
  rw [entRows_len, hln0] at hsz0
  have hN0 : n0 ≤ 1048576 := by omega
  have HM0 : Hid (∀ y ∈ ys0, y.l.links.length ≤ 1048576 ∧ y.l.routers.length ≤ 1048576) := Lib.hid (fun y hy => by obtain ⟨i, hi, rfl⟩ := List.getElem_of_mem hy; have := tot_ent (List.getElem?_eq_getElem hi); omega)
  have HT0 : Hid (tot (entRows ys0) ≤ 1048576) := Lib.hid (by omega)
  have hz0 : 0 ≤ r0 := by omega
  clear hr0 hln0 hsz0 hbig0
  have HB := Lib.hid (Below.refl w.heap.size w)
  have HA0 := Rep.Sl.kept ha0 hh0
  have HMX0 := Lib.hid hm0
  clear ha0 hm0
  obtain ⟨r, hr⟩ : ∃ z, faultB v0 ys0 = z := ⟨_, rfl⟩
  have HRr := Lib.hid hr
  clear hr
  have HBD0 := Lib.hid (beR_le v0 ys0)
  obtain ⟨us, hr⟩ : ∃ z, beR v0 ys0 = z := ⟨_, rfl⟩
  have HRus := Lib.hid hr
  have HBD : Hid (us.length ≤ 640) := Lib.hid (by rw [← hr]; exact HBD0.out)
  clear hr HBD0
  go_enter Try.func7, Try.ntmps7
  go_wp2_with fail
  refine Calls.name ?_
  intro U1 hU1
  have hb : Below w.heap.size w U1 := by rw [hU1]; exact ((Below.refl _ _).alloc (Nat.le_refl _) _)
  have zz : Hid (w.heap.size + 1 = U1.heap.size) := Lib.hid (by rw [hU1]; simp)
  have HX1 : Kept w.heap.size (w.heap.size + 1) (BoxK w.heap.size 80 #[.int .i64 v0, .slice A0 n0 c0]) U1 := by rw [hU1]; exact Kept.box (Box.made_at _ _ _ rfl)
  replace HA0 := HA0.below hb
  replace HB := Lib.hid (below_step HB.out hb)
  clear hb
  have Z1 := zz; clear zz
  clear hU1
  refine (szBase_any q0 lo0 hi0 A0 n0 c0 ys0 v0 (1048576) _ HA0.sl HA0.le hn0 HMX0.out (by omega) (by omega)).mono ?_
  rw [HR0.out]
  rintro e w2 ⟨rfl, hb⟩
  have Z2 := Lib.hid hb.size
  replace HA0 := HA0.below hb
  replace HX1 := HX1.below hb
  replace HB := Lib.hid (below_step HB.out hb)
  clear hb
  have c2_0 := HX1.look 0
  have c2_1 := HX1.look 1
  have l2_0 := HX1.bx.lt
  go_wp2_with fail
  clear c2_0 c2_1 l2_0
  refine (toBase_any q0 lo0 hi0 A0 n0 c0 ys0 v0 _ HA0.sl HA0.le hN0 HM0.out).mono ?_
  rintro e w3 ⟨Ps0, rfl, hk, hb⟩
  have Z3 := Lib.hid hb.size
  replace HA0 := HA0.below hb
  replace HX1 := HX1.below hb
  replace HB := Lib.hid (below_step HB.out hb)
  clear hb
  have HS0 := hk; clear hk
  have l3_0 := HX1.bx.lt
  go_wp2_with fail
  clear l3_0
  refine (specBothEnds_any v0 true _ _ Ps0 n0 n0 ys0 _ HS0.ents HS0.le hN0 HM0.out).mono ?_
  rw [HRr.out, HRus.out]
  rintro e w4 ⟨O0, j0, b0, rfl, hk, hb⟩
  have Z4 := Lib.hid hb.size
  replace HA0 := HA0.below hb
  replace HX1 := HX1.below hb
  replace HS0 := HS0.below hb
  replace HB := Lib.hid (below_step HB.out hb)
  clear hb
  have HO0 := hk; clear hk
  have hj0 : j0 ≤ 640 := by have := HO0.ownF.1; have := HBD.out; omega
  clear HS0
  have c4_0 := HX1.look 0
  have c4_1 := HX1.look 1
  have l4_0 := HX1.bx.lt
  go_wp2_with fail
  clear c4_0 c4_1 l4_0
  refine Calls.name ?_
  intro U5 hU5
  have hb : Below w4.heap.size w4 U5 := by rw [hU5]; exact ((Below.refl _ _).alloc (Nat.le_refl _) _)
  have zz : Hid (w4.heap.size + 1 = U5.heap.size) := Lib.hid (by rw [hU5]; simp)
  have HX2 : Kept w4.heap.size (w4.heap.size + 1) (BoxK w4.heap.size 84 #[.int .i64 r, .slice O0 j0 b0]) U5 := by rw [hU5]; exact Kept.box (Box.made_at _ _ _ rfl)
  replace HA0 := HA0.below hb
  replace HX1 := HX1.below hb
  replace HO0 := HO0.below hb
  replace HB := Lib.hid (below_step HB.out hb)
  clear hb
  have Z5 := zz; clear zz
  clear hU5
  refine (toBase_any q0 lo0 hi0 A0 n0 c0 ys0 v0 _ HA0.sl HA0.le hN0 HM0.out).mono ?_
  rintro e w6 ⟨Px0, rfl, hk, hb⟩
  have Z6 := Lib.hid hb.size
  replace HA0 := HA0.below hb
  replace HX1 := HX1.below hb
  replace HO0 := HO0.below hb
  replace HX2 := HX2.below hb
  replace HB := Lib.hid (below_step HB.out hb)
  clear hb
  have HG0 := hk; clear hk
  have l5_0 := HX1.bx.lt
  have l5_1 := HX2.bx.lt
  go_wp2_with fail
  clear l5_0 l5_1
  refine Calls.name ?_
  intro U7 hU7
  have hb : Below w6.heap.size w6 U7 := by rw [hU7]; exact ((Below.refl _ _).alloc (Nat.le_refl _) _)
  have zz : Hid (w6.heap.size + 1 = U7.heap.size) := Lib.hid (by rw [hU7]; simp)
  have HX3 : Kept w6.heap.size (w6.heap.size + 1) (BoxK w6.heap.size 88 #[.int .i64 v0, .slice Px0 n0 n0]) U7 := by rw [hU7]; exact Kept.box (Box.made_at _ _ _ rfl)
  replace HA0 := HA0.below hb
  replace HX1 := HX1.below hb
  replace HO0 := HO0.below hb
  replace HX2 := HX2.below hb
  replace HG0 := HG0.below hb
  replace HB := Lib.hid (below_step HB.out hb)
  clear hb
  have Z7 := zz; clear zz
  clear hU7
  refine (bothEnds_any v0 true _ _ Px0 n0 n0 ys0 _ HG0.ents HG0.le hN0 HM0.out).mono ?_
  rw [HRr.out, HRus.out]
  rintro e w8 ⟨O1, j1, b1, rfl, hk, hb⟩
  have Z8 := Lib.hid hb.size
  replace HA0 := HA0.below hb
  replace HX1 := HX1.below hb
  replace HO0 := HO0.below hb
  replace HX2 := HX2.below hb
  replace HG0 := HG0.below hb
  replace HX3 := HX3.below hb
  replace HB := Lib.hid (below_step HB.out hb)
  clear hb
  have HO1 := hk; clear hk
  obtain rfl : j0 = j1 := by have := HO1.ownF.1; have := HO0.ownF.1; omega
  have c6_0 := HX2.look 0
  have c6_1 := HX2.look 1
  have l6_0 := HX1.bx.lt
  have l6_1 := HX2.bx.lt
  have l6_2 := HX3.bx.lt
  go_wp2_with fail
  clear c6_0 c6_1 l6_0 l6_1 l6_2
  refine Calls.name ?_
  intro U9 hU9
  have hb : Below w8.heap.size w8 U9 := by rw [hU9]; exact ((Below.refl _ _).alloc (Nat.le_refl _) _)
  have zz : Hid (w8.heap.size + 1 = U9.heap.size) := Lib.hid (by rw [hU9]; simp)
  have HX4 : Kept w8.heap.size (w8.heap.size + 1) (BoxK w8.heap.size 84 #[.int .i64 r, .slice O1 j0 b1]) U9 := by rw [hU9]; exact Kept.box (Box.made_at _ _ _ rfl)
  replace HA0 := HA0.below hb
  replace HX1 := HX1.below hb
  replace HO0 := HO0.below hb
  replace HX2 := HX2.below hb
  replace HG0 := HG0.below hb
  replace HX3 := HX3.below hb
  replace HO1 := HO1.below hb
  replace HB := Lib.hid (below_step HB.out hb)
  clear hb
  have Z9 := zz; clear zz
  clear hU9
  refine (eqEdgesResult_yes r true true _ _ _ _ O1 O0 j0 b1 b0 us _ HO1.edges HO0.edges HO1.le HO0.le (by omega)).mono ?_
  rintro e w10 ⟨rfl, hb⟩
  have Z10 := Lib.hid hb.size
  replace HA0 := HA0.below hb
  replace HX1 := HX1.below hb
  replace HO0 := HO0.below hb
  replace HX2 := HX2.below hb
  replace HG0 := HG0.below hb
  replace HX3 := HX3.below hb
  replace HO1 := HO1.below hb
  replace HX4 := HX4.below hb
  replace HB := Lib.hid (below_step HB.out hb)
  clear hb
  have l7_0 := HX1.bx.lt
  have l7_1 := HX2.bx.lt
  have l7_2 := HX3.bx.lt
  have l7_3 := HX4.bx.lt
  go_wp2
  clear l7_0 l7_1 l7_2 l7_3
  have SB : Hid (∀ W, Hid (Below w10.heap.size w10 W) → (fun W => W.cell? ⟨w.heap.size, 0, none⟩ = some (.int .i64 v0) ∧ W.cell? ⟨w.heap.size, 1, none⟩ = some (.slice A0 n0 c0) ∧ W.cell? ⟨w6.heap.size, 0, none⟩ = some (.int .i64 v0) ∧ W.cell? ⟨w6.heap.size, 1, none⟩ = some (.slice Px0 n0 n0)) W) := fun W h => ⟨(HX1.below h.out).look 0, (HX1.below h.out).look 1, (HX3.below h.out).look 0, (HX3.below h.out).look 1⟩
  have V0 : Hid (Below w10.heap.size w10 w10.drew) := (Below.refl _ _).drew
  go_region_held3 (fun W => W.cell? ⟨w.heap.size, 0, none⟩ = some (.int .i64 v0) ∧ W.cell? ⟨w.heap.size, 1, none⟩ = some (.slice A0 n0 c0) ∧ W.cell? ⟨w6.heap.size, 0, none⟩ = some (.int .i64 v0) ∧ W.cell? ⟨w6.heap.size, 1, none⟩ = some (.slice Px0 n0 n0)) (exact SB.out _ (by assumption))
    (first | (go_at_call 59; ((with_reducible refine (toBase_any q0 lo0 hi0 A0 n0 c0 ys0 v0 _ (HA0.below V0.out).sl (HA0.below V0.out).le hN0 HM0.out).mono ?_); rintro e u1_0 ⟨Pz0, rfl, hk, hb⟩; have V1 := Lib.hid (below_step V0.out hb); clear hb; have HZ0 := hk; clear hk)) | (go_at_call 62; ((with_reducible refine (eqBase_yes true true _ _ _ _ Px0 _ n0 n0 n0 ys0 v0 _ (HG0.below V1.out).ents HZ0.ents (HG0.below V1.out).le HZ0.le hN0 HM0.out).mono ?_); rintro e u1_1 ⟨rfl, hb⟩; have V2 := Lib.hid (below_step V1.out hb); clear hb)))
  have hb := V2.out
  clear SB V0 V1 V2
  have Z11 := Lib.hid hb.size
  replace HA0 := HA0.below hb
  replace HX1 := HX1.below hb
  replace HO0 := HO0.below hb
  replace HX2 := HX2.below hb
  replace HG0 := HG0.below hb
  replace HX3 := HX3.below hb
  replace HO1 := HO1.below hb
  replace HX4 := HX4.below hb
  replace HB := Lib.hid (below_step HB.out hb)
  clear hb
  clear HZ0
  have c8_0 := HX3.look 0
  have c8_1 := HX3.look 1
  have l8_0 := HX1.bx.lt
  have l8_1 := HX2.bx.lt
  have l8_2 := HX3.bx.lt
  have l8_3 := HX4.bx.lt
  go_wp2_with fail
  clear c8_0 c8_1 l8_0 l8_1 l8_2 l8_3
  obtain ⟨bsw, hfw, hndw, hinw⟩ := HG0.out
  have HLW := HG0.le
  refine (markBase_F Px0 n0 n0 ys0 bsw v0 1 _ hfw hndw (fun b hb => Nat.lt_of_lt_of_le (hinw b hb).2 HLW) hN0 HT0.out (by omega) (by omega)).mono ?_
  rintro e w11 ⟨rfl, _, how⟩
  have ho := how.only hinw
  have Z12 := Lib.hid ho.size
  replace HA0 := HA0.only ho (by have := Z1.out; have := Z2.out; have := Z3.out; have := Z4.out; have := Z5.out; have := Z6.out; have := Z7.out; have := Z8.out; have := Z9.out; have := Z10.out; have := Z11.out; have := Z12.out; omega)
  replace HX1 := HX1.only ho (by have := Z1.out; have := Z2.out; have := Z3.out; have := Z4.out; have := Z5.out; have := Z6.out; have := Z7.out; have := Z8.out; have := Z9.out; have := Z10.out; have := Z11.out; have := Z12.out; omega)
  replace HO0 := HO0.only ho (by have := Z1.out; have := Z2.out; have := Z3.out; have := Z4.out; have := Z5.out; have := Z6.out; have := Z7.out; have := Z8.out; have := Z9.out; have := Z10.out; have := Z11.out; have := Z12.out; omega)
  replace HX2 := HX2.only ho (by have := Z1.out; have := Z2.out; have := Z3.out; have := Z4.out; have := Z5.out; have := Z6.out; have := Z7.out; have := Z8.out; have := Z9.out; have := Z10.out; have := Z11.out; have := Z12.out; omega)
  replace HX3 := HX3.only ho (by have := Z1.out; have := Z2.out; have := Z3.out; have := Z4.out; have := Z5.out; have := Z6.out; have := Z7.out; have := Z8.out; have := Z9.out; have := Z10.out; have := Z11.out; have := Z12.out; omega)
  replace HO1 := HO1.only ho (by have := Z1.out; have := Z2.out; have := Z3.out; have := Z4.out; have := Z5.out; have := Z6.out; have := Z7.out; have := Z8.out; have := Z9.out; have := Z10.out; have := Z11.out; have := Z12.out; omega)
  replace HX4 := HX4.only ho (by have := Z1.out; have := Z2.out; have := Z3.out; have := Z4.out; have := Z5.out; have := Z6.out; have := Z7.out; have := Z8.out; have := Z9.out; have := Z10.out; have := Z11.out; have := Z12.out; omega)
  replace HB := Lib.hid (Below.only HB.out ho (by have := Z1.out; have := Z2.out; have := Z3.out; have := Z4.out; have := Z5.out; have := Z6.out; have := Z7.out; have := Z8.out; have := Z9.out; have := Z10.out; have := Z11.out; have := Z12.out; omega) HB.out.size)
  clear HG0
  clear ho how hfw hndw hinw HLW
  obtain ⟨tw, htw⟩ : ∃ t, entWs ys0 = t := ⟨_, rfl⟩
  rw [htw]
  clear htw
  have hq0 : ¬ (1 + (tw : Int) < 0) := by omega
  have c9_0 := HX2.look 0
  have c9_1 := HX2.look 1
  have c9_2 := HX4.look 0
  have c9_3 := HX4.look 1
  have l9_0 := HX1.bx.lt
  have l9_1 := HX2.bx.lt
  have l9_2 := HX3.bx.lt
  have l9_3 := HX4.bx.lt
  go_wp2_with fail
  clear c9_0 c9_1 c9_2 c9_3 l9_0 l9_1 l9_2 l9_3
  refine (eqEdgesResult_yes r true true _ _ _ _ O1 O0 j0 b1 b0 us _ HO1.edges HO0.edges HO1.le HO0.le (by omega)).mono ?_
  rintro e w12 ⟨rfl, hb⟩
  have Z13 := Lib.hid hb.size
  replace HA0 := HA0.below hb
  replace HX1 := HX1.below hb
  replace HO0 := HO0.below hb
  replace HX2 := HX2.below hb
  replace HX3 := HX3.below hb
  replace HO1 := HO1.below hb
  replace HX4 := HX4.below hb
  replace HB := Lib.hid (below_step HB.out hb)
  clear hb
  have c10_0 := HX4.look 0
  have c10_1 := HX4.look 1
  have l10_0 := HX1.bx.lt
  have l10_1 := HX2.bx.lt
  have l10_2 := HX3.bx.lt
  have l10_3 := HX4.bx.lt
  go_wp2_with fail
  clear c10_0 c10_1 l10_0 l10_1 l10_2 l10_3
  refine (markEdgesResult_any r _ _ O1 j0 b1 us 1 _ HO1.edges HO1.le (by omega) (by omega) (by omega)).mono ?_
  rintro e w13 ⟨rfl, hs, ho⟩
  have Z14 := Lib.hid ho.size
  have HM := Rep.Sl.kept hs (Nat.le_trans HO1.le ho.size); clear hs
  replace HA0 := HA0.only ho (by have := Z1.out; have := Z2.out; have := Z3.out; have := Z4.out; have := Z5.out; have := Z6.out; have := Z7.out; have := Z8.out; have := Z9.out; have := Z10.out; have := Z11.out; have := Z12.out; have := Z13.out; have := Z14.out; omega)
  replace HX1 := HX1.only ho (by have := Z1.out; have := Z2.out; have := Z3.out; have := Z4.out; have := Z5.out; have := Z6.out; have := Z7.out; have := Z8.out; have := Z9.out; have := Z10.out; have := Z11.out; have := Z12.out; have := Z13.out; have := Z14.out; omega)
  replace HO0 := HO0.only ho (by have := Z1.out; have := Z2.out; have := Z3.out; have := Z4.out; have := Z5.out; have := Z6.out; have := Z7.out; have := Z8.out; have := Z9.out; have := Z10.out; have := Z11.out; have := Z12.out; have := Z13.out; have := Z14.out; omega)
  replace HX2 := HX2.only ho (by have := Z1.out; have := Z2.out; have := Z3.out; have := Z4.out; have := Z5.out; have := Z6.out; have := Z7.out; have := Z8.out; have := Z9.out; have := Z10.out; have := Z11.out; have := Z12.out; have := Z13.out; have := Z14.out; omega)
  replace HX3 := HX3.only ho (by have := Z1.out; have := Z2.out; have := Z3.out; have := Z4.out; have := Z5.out; have := Z6.out; have := Z7.out; have := Z8.out; have := Z9.out; have := Z10.out; have := Z11.out; have := Z12.out; have := Z13.out; have := Z14.out; omega)
  replace HX4 := HX4.only ho (by have := Z1.out; have := Z2.out; have := Z3.out; have := Z4.out; have := Z5.out; have := Z6.out; have := Z7.out; have := Z8.out; have := Z9.out; have := Z10.out; have := Z11.out; have := Z12.out; have := Z13.out; have := Z14.out; omega)
  replace HB := Lib.hid (Below.only HB.out ho (by have := Z1.out; have := Z2.out; have := Z3.out; have := Z4.out; have := Z5.out; have := Z6.out; have := Z7.out; have := Z8.out; have := Z9.out; have := Z10.out; have := Z11.out; have := Z12.out; have := Z13.out; have := Z14.out; omega) HB.out.size)
  clear ho
  clear HO1
  have hq1 : ¬ (1 + 5 * (j0 : Int) < 0) := by omega
  have c11_0 := HX4.look 0
  have c11_1 := HX4.look 1
  have l11_0 := HX1.bx.lt
  have l11_1 := HX2.bx.lt
  have l11_2 := HX3.bx.lt
  have l11_3 := HX4.bx.lt
  go_wp2_with fail
  clear c11_0 c11_1 l11_0 l11_1 l11_2 l11_3
  refine (heldEdgesResult_yes r true _ _ O1 j0 b1 1 _ HM.sl HM.le (by omega) (by omega) (by omega)).mono ?_
  rintro e w14 ⟨rfl, hb⟩
  have Z15 := Lib.hid hb.size
  replace HA0 := HA0.below hb
  replace HX1 := HX1.below hb
  replace HO0 := HO0.below hb
  replace HX2 := HX2.below hb
  replace HX3 := HX3.below hb
  replace HX4 := HX4.below hb
  replace HM := HM.below hb
  replace HB := Lib.hid (below_step HB.out hb)
  clear hb
  have c12_0 := HX1.look 0
  have c12_1 := HX1.look 1
  have l12_0 := HX1.bx.lt
  have l12_1 := HX2.bx.lt
  have l12_2 := HX3.bx.lt
  have l12_3 := HX4.bx.lt
  go_wp2_with fail
  clear c12_0 c12_1 l12_0 l12_1 l12_2 l12_3
  refine (toBase_any q0 lo0 hi0 A0 n0 c0 ys0 v0 _ HA0.sl HA0.le hN0 HM0.out).mono ?_
  rintro e w15 ⟨Py0, rfl, hk, hb⟩
  have Z16 := Lib.hid hb.size
  replace HA0 := HA0.below hb
  replace HX1 := HX1.below hb
  replace HO0 := HO0.below hb
  replace HX2 := HX2.below hb
  replace HX3 := HX3.below hb
  replace HX4 := HX4.below hb
  replace HM := HM.below hb
  replace HB := Lib.hid (below_step HB.out hb)
  clear hb
  have HH0 := hk; clear hk
  have l13_0 := HX1.bx.lt
  have l13_1 := HX2.bx.lt
  have l13_2 := HX3.bx.lt
  have l13_3 := HX4.bx.lt
  go_wp2_with fail
  clear l13_0 l13_1 l13_2 l13_3
  refine (bothEnds_any v0 true _ _ Py0 n0 n0 ys0 _ HH0.ents HH0.le hN0 HM0.out).mono ?_
  rw [HRr.out, HRus.out]
  rintro e w16 ⟨O2, j2, b2, rfl, hk, hb⟩
  have Z17 := Lib.hid hb.size
  replace HA0 := HA0.below hb
  replace HX1 := HX1.below hb
  replace HO0 := HO0.below hb
  replace HX2 := HX2.below hb
  replace HX3 := HX3.below hb
  replace HX4 := HX4.below hb
  replace HM := HM.below hb
  replace HH0 := HH0.below hb
  replace HB := Lib.hid (below_step HB.out hb)
  clear hb
  have HO2 := hk; clear hk
  obtain rfl : j0 = j2 := by have := HO2.ownF.1; have := HO0.ownF.1; omega
  clear HH0
  have c14_0 := HX2.look 0
  have c14_1 := HX2.look 1
  have l14_0 := HX1.bx.lt
  have l14_1 := HX2.bx.lt
  have l14_2 := HX3.bx.lt
  have l14_3 := HX4.bx.lt
  go_wp2_with fail
  clear c14_0 c14_1 l14_0 l14_1 l14_2 l14_3
  refine Calls.name ?_
  intro U17 hU17
  have hb : Below w16.heap.size w16 U17 := by rw [hU17]; exact ((Below.refl _ _).alloc (Nat.le_refl _) _)
  have zz : Hid (w16.heap.size + 1 = U17.heap.size) := Lib.hid (by rw [hU17]; simp)
  have HX5 : Kept w16.heap.size (w16.heap.size + 1) (BoxK w16.heap.size 84 #[.int .i64 r, .slice O2 j0 b2]) U17 := by rw [hU17]; exact Kept.box (Box.made_at _ _ _ rfl)
  replace HA0 := HA0.below hb
  replace HX1 := HX1.below hb
  replace HO0 := HO0.below hb
  replace HX2 := HX2.below hb
  replace HX3 := HX3.below hb
  replace HX4 := HX4.below hb
  replace HM := HM.below hb
  replace HO2 := HO2.below hb
  replace HB := Lib.hid (below_step HB.out hb)
  clear hb
  have Z18 := zz; clear zz
  clear hU17
  refine (eqEdgesResult_yes r true true _ _ _ _ O2 O0 j0 b2 b0 us _ HO2.edges HO0.edges HO2.le HO0.le (by omega)).mono ?_
  rintro e w18 ⟨rfl, hb⟩
  have Z19 := Lib.hid hb.size
  replace HA0 := HA0.below hb
  replace HX1 := HX1.below hb
  replace HO0 := HO0.below hb
  replace HX2 := HX2.below hb
  replace HX3 := HX3.below hb
  replace HX4 := HX4.below hb
  replace HM := HM.below hb
  replace HO2 := HO2.below hb
  replace HX5 := HX5.below hb
  replace HB := Lib.hid (below_step HB.out hb)
  clear hb
  have c15_0 := HX4.look 0
  have c15_1 := HX4.look 1
  have l15_0 := HX1.bx.lt
  have l15_1 := HX2.bx.lt
  have l15_2 := HX3.bx.lt
  have l15_3 := HX4.bx.lt
  have l15_4 := HX5.bx.lt
  go_wp2_with fail
  clear c15_0 c15_1 l15_0 l15_1 l15_2 l15_3 l15_4
  refine (heldEdgesResult_yes r true _ _ O1 j0 b1 1 _ HM.sl HM.le (by omega) (by omega) (by omega)).mono ?_
  rintro e w19 ⟨rfl, hb⟩
  have Z20 := Lib.hid hb.size
  replace HA0 := HA0.below hb
  replace HX1 := HX1.below hb
  replace HO0 := HO0.below hb
  replace HX2 := HX2.below hb
  replace HX3 := HX3.below hb
  replace HX4 := HX4.below hb
  replace HM := HM.below hb
  replace HO2 := HO2.below hb
  replace HX5 := HX5.below hb
  replace HB := Lib.hid (below_step HB.out hb)
  clear hb
  have l16_0 := HX1.bx.lt
  have l16_1 := HX2.bx.lt
  have l16_2 := HX3.bx.lt
  have l16_3 := HX4.bx.lt
  have l16_4 := HX5.bx.lt
  go_wp2
  clear l16_0 l16_1 l16_2 l16_3 l16_4
  go_ret
  exact ⟨rfl, HB.out⟩

end Go.Proofs.Ytooogjfnnmacjaa

namespace Go.Proofs.Ytooogjfnnmacjaa.fnExactBothEnds
open Go.ChangeShapes Go.WideShapes Go.ChangeAt Go.RowKit
open Go.ChangeMaps (open_string shut_string)
set_option linter.unusedVariables false

theorem own : ownKnob Try.prog.godebug = none := by kernel_rfl
theorem laidOut : laidOutB Try.prog = true := by kernel_rfl

theorem walk (v0 : Int) (A0 : Option Addr) (n0 c0 : Nat) (ys0 : List Ent) (w : World) (hl0 : Rep.ent.Sl false 0 w.heap.size w A0 n0 ys0) (hn0 : n0 ≤ maxLen) (hm0 : ∀ y ∈ ys0, y.l.links.length ≤ maxLen ∧ y.l.routers.length ≤ maxLen) :
    Calls Try.prog 7 #[.agg (#[.int .i64 v0, .slice A0 n0 c0])] w fun e w' => e = .returned (.bool true) ∧ Below w.heap.size w w' := by
  exact law_BothEnds v0 ys0 false 0 w.heap.size A0 n0 c0 w hl0 (Nat.le_refl _) hn0 hm0

set_option maxRecDepth 100000 in
theorem lifted (os : Os) (started : os.Started) (H : Type) (enc : TypeId × Value → H) :
    ReturnsInHanded {} Try.checked os 7 .any (Rows.fnExactBothEndsSpec.pre6 enc Try.prog Try.f7 Rows.fnExactBothEndsRow.domain false) (Rows.fnExactBothEndsSpec.post enc Try.prog Try.f7 false true false false) := by
  refine returnsInHanded_of_change (C := Try.checked) own started (by kernel_rfl) Try.func7
    (ChangeSpec.witness6 (enc := enc) (C := Try.checked) false ⟨#[], #[.agg #[.int .i64 0, .slice none 0 0]], []⟩ 8 (by kernel_rfl) (by kernel_rfl) (by kernel_rfl) (by kernel_rfl)) ?_
  intro W base args ds gs before hval0 hW hcnd _
  have hval : ∀ (j : Nat) t v, Try.f7.params[j]? = some t → args[j]? = some v → Value.okWide Try.prog W .any base t v := hval0
  have hW' := hW
  obtain ⟨p, q, hA0, hV, rfl, hfz, hnd⟩ := hW
  have hA : DataW.TrodAll enc Try.prog W 0 (fun _ => true) true Try.f7.params.toList args.toList ds p := hA0
  rw [Try.params7] at hA hval
  obtain ⟨v0, vs0, d0, ds0, p0, q0, hargs, rfl, rfl, h0, r0⟩ := trodAll_cons hA
  obtain ⟨rfl, rfl, rfl⟩ := trodAll_nil r0
  obtain rfl : args = #[v0] := by cases args; simp_all
  obtain ⟨rfl, rfl⟩ := trodVars_none hV
  obtain ⟨cs0, rfl, hsz0⟩ := okWide_struct Try.underlying80 (hval 0 80 v0 rfl rfl)
  have k0 := h0
  have lt0 : ∀ x ∈ p0, x.block < W.heap.size := by obtain ⟨m, hm⟩ := k0; exact DataW.trod_lt m _ _ _ hm
  obtain ⟨fuel0, hf0⟩ := h0
  obtain ⟨v0, A0, n0, c0, ys0, he0, hl0, hn0, hm0⟩ := open_base hf0
  obtain rfl : cs0 = #[.int .i64 v0, .slice A0 n0 c0] := by cases cs0; simp [Value.cells] at he0; simp [he0]
  clear hA0 hval0
  refine (walk v0 A0 n0 c0 ys0 W hl0 hn0 hm0).mono fun e W' ⟨he, bel⟩ => ?_
  subst he
  exact ⟨_, rfl, _, _, _, [], _, [], hW', trodAll_mk1 (shut_bool Try.underlying4 _), (trodAll_cons_mk (Below.trod laidOut (by kernel_rfl) (of_decide_eq_true (by kernel_rfl)) k0 bel lt0) trodAll_mk0), rfl, bel.frame _, fun h => by cases h⟩

theorem over : Rows.fnExactBothEndsRow.holds Try.pinned (OpenSpec.ofChange Rows.fnExactBothEndsSpec) :=
  OpenClaim.holds_of_wide 7 Try.f7 rfl rfl rfl rfl rfl rfl rfl ⟨rfl, rfl, rfl, rfl, rfl⟩ rfl rfl rfl rfl rfl (by kernel_rfl) Try.func7 (by kernel_rfl)
    (of_decide_eq_true (by kernel_rfl)) (by unfold Func.isWrapper; first | (rw [if_pos (by decide +kernel)]; kernel_rfl) | (rw [if_neg (by decide +kernel)]; exact ⟨rfl, rfl⟩))
    (fun os started H enc _ => lifted os started H enc)

theorem proved : Rows.FnExactBothEndsSaid := over
#print axioms proved
end Go.Proofs.Ytooogjfnnmacjaa.fnExactBothEnds
