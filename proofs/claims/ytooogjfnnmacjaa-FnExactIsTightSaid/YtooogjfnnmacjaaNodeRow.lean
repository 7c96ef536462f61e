/-
  What the laws' helpers do with rows of Nodes: sz, to, eq, mark, held. No statement is proved here.
-/
import Derived.Test.YtooogjfnnmacjaaTcell
import Derived.Test.YtooogjfnnmacjaaTimerSS
import Derived.Test.YtooogjfnnmacjaaTimerMark
namespace Go.Proofs.Ytooogjfnnmacjaa
open Go.RowKit
set_option linter.unusedVariables false

/-- The first m cells of a row are these. -/
def Marks (w : World) (b o : Nat) (g : Nat → Value) (m : Nat) : Prop := ∀ j, j < m → w.cell? ⟨b, o + j, none⟩ = some (g j)
theorem Marks.next {w : World} {b o N : Nat} {g : Nat → Value} {m : Nat} (h : Marks w b o g m) (hR : Room w b o N) (hm : m < N) (v : Value) (hv : g m = v) : Marks (w.setCell ⟨b, o + m, none⟩ v) b o g (m + 1) := by
  intro j hj
  by_cases e : j = m
  · subst e
    obtain ⟨u, hu⟩ := hR.1 j hm
    rw [World.cell?_setCell_same _ _ _ hu, hv]
  · rw [World.cell?_setCell_other _ _ _ _ (fun h' => e (by injection h' with _ h' _; omega))]
    exact h j (by omega)

theorem nodeInfo : (Try.prog.info? 105).map (fun i => (i.zero, i.size, i.bytes)) = some (some (.agg #[.bool false, .int .i64 0]), 2, 16) := by kernel_rfl

/-- A node, as its truth and its number. -/
structure Nd where
  net : Bool
  id : Int
instance : DecidableEq Nd := fun a b => decidable_of_iff (a.net = b.net ∧ a.id = b.id) (by cases a; cases b; simp)
def Rep.node : Rep Nd where
  size := 2
  rel _ _ _ _ cs a := cs = [.bool a.net, .int .i64 a.id]
  len h := by rw [h]; rfl
  keep h _ := h
  mono h _ _ := h
def nodecell (a : Nd) : List Value := [.bool a.net, .int .i64 a.id]
theorem nodecell_len (a : Nd) : (nodecell a).length = 2 := rfl
theorem nodecell_one : ∀ a : Nd, ∀ u ∈ nodecell a, u.oneCell' = true := by
  intro a u hu
  simp only [nodecell, List.mem_cons, List.not_mem_nil, or_false] at hu
  rcases hu with rfl | rfl <;> rfl
theorem Rep.node_inF {q : Bool} {lo hi : Nat} {w : World} {A : Option Addr} {n : Nat} {ys : List Nd} (h : Rep.node.Sl q lo hi w A n ys) : InF 2 nodecell w A n ys := Rep.Sl.inF (r := Rep.node) nodecell_len (fun _ _ _ _ _ _ h => h) h
theorem Rep.node_at {q : Bool} {lo hi : Nat} {w : World} {A : Option Addr} {n : Nat} {ys : List Nd} (h : Rep.node.Sl q lo hi w A n ys) {k : Nat} (hk : k < n) :
    ∃ b o a, A = some ⟨b, o, none⟩ ∧ ys[k]? = some a ∧ w.cell? ⟨b, o + k * 2, none⟩ = some (.bool a.net) ∧ w.cell? ⟨b, o + k * 2 + 1, none⟩ = some (.int .i64 a.id) := by
  obtain ⟨b, o, a, cs, e, ha, hr, hc⟩ := h.at_ hk
  have hr : cs = [.bool a.net, .int .i64 a.id] := hr
  subst hr
  exact ⟨b, o, a, e, ha, hc 0 _ rfl, hc 1 _ rfl⟩

set_option maxRecDepth 100000 in
set_option maxHeartbeats 1600000 in
theorem toNode_any (x0 : Bool) (x1 : Int) (w : World) :
    Calls Try.prog 73 #[.agg #[.bool x0, .int .i64 x1]] w fun e w' => e = .returned (.agg #[.bool x0, .int .i64 x1]) ∧ Below w.heap.size w w' := by
  have HB := Lib.hid (Below.refl w.heap.size w)
  go_enter Try.func73, Try.ntmps73
  go_wp2
  obtain ⟨U1, hU1⟩ : ∃ W : World, W = (((w.alloc (.cells #[.bool x0, .int .i64 x1] 98)).alloc (.cells #[.bool x0, .int .i64 x1] 105)).alloc (.cells #[.bool x0, .int .i64 x1] 105)) := ⟨_, rfl⟩
  have hb : Below w.heap.size w U1 := by rw [hU1]; exact ((((Below.refl _ _).alloc (Nat.le_refl _) _).alloc (by simp <;> omega) _).alloc (by simp <;> omega) _)
  have zz : Hid (w.heap.size + 3 = U1.heap.size) := Lib.hid (by rw [hU1]; simp)
  have HX1 : Kept w.heap.size (w.heap.size + 1) (BoxK w.heap.size 98 #[.bool x0, .int .i64 x1]) U1 := by rw [hU1]; exact Kept.box (((Box.made_at _ _ _ rfl).over _).over _)
  have HX2 : Kept (w.heap.size + 1) (w.heap.size + 1 + 1) (BoxK (w.heap.size + 1) 105 #[.bool x0, .int .i64 x1]) U1 := by rw [hU1]; exact Kept.box ((Box.made_at _ _ _ (by simp <;> omega)).over _)
  have HX3 : Kept (w.heap.size + 1 + 1) (w.heap.size + 1 + 1 + 1) (BoxK (w.heap.size + 1 + 1) 105 #[.bool x0, .int .i64 x1]) U1 := by rw [hU1]; exact Kept.box (Box.made_at _ _ _ (by simp <;> omega))
  replace HB := Lib.hid (below_step HB.out hb)
  clear hb
  have Z1 := zz; clear zz
  have q_0 := HX2.look 0
  have q_1 := HX2.look 1
  subst hU1
  exact bodyPost_ret (v := .agg #[.bool x0, .int .i64 x1]) (by simp [results, Try.results73, go_sem, q_0, q_1]) rfl ⟨rfl, HB.out⟩

set_option maxRecDepth 100000 in
set_option maxHeartbeats 1600000 in
theorem toNodeS_any (q : Bool) (lo hi : Nat) (A : Option Addr) (n c : Nat) (ys : List Nd) (w : World) (ha : Rep.node.Sl q lo hi w A n ys) (hh : hi ≤ w.heap.size) (hn : n ≤ 1048576) :
    Calls Try.prog 178 #[.slice A n c] w fun e w' => e = .returned (.slice (some ⟨w.heap.size, 0, none⟩) n n) ∧
      Rep.node.Sl true w.heap.size (w.heap.size + 1) w' (some ⟨w.heap.size, 0, none⟩) n ys ∧ w.heap.size < w'.heap.size ∧ Below w.heap.size w w' := by
  obtain ⟨i0, hi0, hz0, hz1, hz2⟩ := info_parts nodeInfo
  go_enter Try.func178, Try.ntmps178
  go_wp2_with (at_make; refine wpList_make_full _ rfl _ _ 199 rfl w.heap.size 105 i0 _ 2 Try.underlying199 hi0 hz0 hz1 .i64 .i64 _ _ n rfl rfl rfl rfl (by rw [hz2]; omega) (by unfold maxLen; omega) (Nat.le_refl _) ?_; intro w1 hown1 hg1)
  have hb1 := below_of_grown hg1
  clear hg1 hi0 hz0 hz1 hz2
  obtain ⟨B, HB⟩ : ∃ B, Hid (B = w.heap.size) := ⟨_, Lib.hid rfl⟩
  rw [← HB.out] at hown1 hb1 ⊢
  go_loopw [4] (fun i wr => ∃ k : Nat, k ≤ n ∧ i = .int .i64 k ∧ ∃ xs : List Value, wr.ownsRow B 105 2 (.slice (some ⟨B, 0, none⟩) n n) n xs ∧ Below B w wr ∧
      Hid (∀ j a, j < k → ys[j]? = some a → xs[j * 2]? = some (.bool a.net) ∧ xs[j * 2 + 1]? = some (.int .i64 a.id)))
    (fun i _ => n - (intOf i).toNat)
  case atStart => exact ⟨0, Nat.zero_le _, rfl, _, hown1, hb1, fun j a hj => absurd hj (by omega)⟩
  case round =>
    obtain ⟨k, hk, rfl, xs, hown, hbw, HS⟩ := hrel
    by_cases hlt : k < n
    · obtain ⟨b, o, a, rfl, hya, ca0, ca1⟩ := Rep.node_at (ha.below (by rw [← HB.out]; exact hbw) hh) hlt
      have hlt' : (k : Int) < n := by omega
      have HYA := Lib.hid hya
      clear hya
      go_wp2_with fail
      refine (toNode_any _ _ _).mono ?_
      rintro e w2 ⟨rfl, hb2⟩
      have hown2 : w2.ownsRow B 105 2 (.slice (some ⟨B, 0, none⟩) n n) n xs := World.ownsRow.kept hown (grownBy_of_below hb2 none) (by simp [Value.ownBlock])
      have hbw2 : Below B w w2 := hbw.trans (hb2.mono (Nat.le_of_lt (World.ownsRow.lt hown B rfl).2))
      have hl : xs.length = n * 2 := hown2.1
      have h4 : k * 2 + 1 < n * 2 := by omega
      obtain ⟨v0, d0⟩ := own_some hown2 (j := k * 2) (by omega)
      obtain ⟨v1, d1⟩ := own_some hown2 (j := k * 2 + 1) (by omega)
      have f0 := World.ownsRow.frozenAt hown2 (k * 2)
      have f1 := World.ownsRow.frozenAt hown2 (k * 2 + 1)
      obtain ⟨s1, _⟩ := World.ownsRow.stored hown2 (k * 2) (.bool a.net)
      obtain ⟨s2, _⟩ := World.ownsRow.stored s1 (k * 2 + 1) (.int .i64 a.id)
      have HO := Lib.hid s2
      have HL := Lib.hid hl
      have HBW := Lib.hid hbw2
      clear s1 s2 hl hbw2 hown hown2 hbw hb2
      go_wp2
      go_roundw
      case rel =>
        refine ⟨k + 1, by omega, by go_num, _, HO.out, ((HBW.out.setCell (Nat.le_refl _) _).setCell (Nat.le_refl _) _), fun j x hj hx => ?_⟩
        have hl := HL.out
        by_cases e : j = k
        · subst e
          have hax : x = a := by have := HYA.out; rw [hx] at this; injection this
          subst hax
          refine ⟨?_, ?_⟩ <;> simp only [List.getElem?_set, List.length_set]
          · rw [if_neg (by omega), if_pos trivial, if_pos (by omega)]
          · rw [if_pos trivial, if_pos (by omega)]
        · obtain ⟨e0, e1⟩ := HS.out j x (by omega) hx
          refine ⟨?_, ?_⟩ <;> simp only [List.getElem?_set, List.length_set]
          · rw [if_neg (by omega), if_neg (by omega)]; exact e0
          · rw [if_neg (by omega), if_neg (by omega)]; exact e1
      case measure => simp [intOf]; omega
    · have HO := Lib.hid hown
      have hlen := ha.1
      clear hown
      go_wp2
      go_ret
      obtain rfl := HB.out
      have hlt2 : w.heap.size < wr.heap.size := (World.ownsRow.lt HO.out w.heap.size rfl).2
      refine ⟨rfl, ⟨hlen, fun _ => ⟨w.heap.size, 0, rfl, Nat.le_refl _, by omega, fun _ i => World.ownsRow.frozenAt HO.out i, fun i a hi' => ?_⟩⟩, hlt2, hbw⟩
      have hin : i < n := by
        rcases Nat.lt_or_ge i ys.length with h' | h'
        · omega
        · rw [List.getElem?_eq_none h'] at hi'; cases hi'
      obtain ⟨e0, e1⟩ := HS.out i a (by omega) hi'
      refine ⟨[.bool a.net, .int .i64 a.id], rfl, fun j u hj => ?_⟩
      have hj4 : j < 2 := by
        rcases Nat.lt_or_ge j 2 with h' | h'
        · exact h'
        · rw [List.getElem?_eq_none (by simpa using h')] at hj; cases hj
      have hc := World.ownsRow.cellAt HO.out (i * 2 + j) (by omega)
      show wr.cell? ⟨w.heap.size, 0 + i * 2 + j, none⟩ = some u
      rw [Nat.zero_add, hc, ← hj]
      rcases (show j = 0 ∨ j = 1 by omega) with rfl | rfl
      · exact e0
      · exact e1

set_option maxRecDepth 100000 in
set_option maxHeartbeats 1600000 in
theorem eqNode_yes (x0 : Bool) (x1 : Int) (w : World) :
    Calls Try.prog 179 #[.agg #[.bool x0, .int .i64 x1], .agg #[.bool x0, .int .i64 x1]] w fun e w' => e = .returned (.bool true) ∧ Below w.heap.size w w' := by
  have HB := Lib.hid (Below.refl w.heap.size w)
  go_enter Try.func179, Try.ntmps179
  go_wp2
  obtain ⟨U1, hU1⟩ : ∃ W : World, W = ((w.alloc (.cells #[.bool x0, .int .i64 x1] 105)).alloc (.cells #[.bool x0, .int .i64 x1] 105)) := ⟨_, rfl⟩
  have hb : Below w.heap.size w U1 := by rw [hU1]; exact (((Below.refl _ _).alloc (Nat.le_refl _) _).alloc (by simp <;> omega) _)
  have zz : Hid (w.heap.size + 2 = U1.heap.size) := Lib.hid (by rw [hU1]; simp)
  have HX1 : Kept w.heap.size (w.heap.size + 1) (BoxK w.heap.size 105 #[.bool x0, .int .i64 x1]) U1 := by rw [hU1]; exact Kept.box ((Box.made_at _ _ _ rfl).over _)
  have HX2 : Kept (w.heap.size + 1) (w.heap.size + 1 + 1) (BoxK (w.heap.size + 1) 105 #[.bool x0, .int .i64 x1]) U1 := by rw [hU1]; exact Kept.box (Box.made_at _ _ _ (by simp <;> omega))
  replace HB := Lib.hid (below_step HB.out hb)
  clear hb
  have Z1 := zz; clear zz
  subst hU1
  go_ret
  exact ⟨rfl, HB.out⟩

set_option maxRecDepth 100000 in
set_option maxHeartbeats 3200000 in
theorem eqNodeS_yes (q1 q2 : Bool) (l1 h1 l2 h2 : Nat) (A B : Option Addr) (n c d : Nat) (ys : List Nd) (w : World) (ha : Rep.node.Sl q1 l1 h1 w A n ys) (hb : Rep.node.Sl q2 l2 h2 w B n ys) (hh1 : h1 ≤ w.heap.size) (hh2 : h2 ≤ w.heap.size) (hn : n ≤ 1048576) :
    Calls Try.prog 180 #[.slice A n c, .slice B n d] w fun e w' => e = .returned (.bool true) ∧ Below w.heap.size w w' := by
  go_enter Try.func180, Try.ntmps180
  go_wp2
  go_loopw [5] (fun i wr => ∃ k : Nat, k ≤ n ∧ i = .int .i64 k ∧ Hid (Below w.heap.size w wr)) (fun i _ => n - (intOf i).toNat)
  case atStart => exact ⟨0, Nat.zero_le _, rfl, Below.refl _ _⟩
  case round =>
    obtain ⟨k, hk, rfl, HB⟩ := hrel
    by_cases hlt : k < n
    · obtain ⟨b, o, a, rfl, hya, a0, a1⟩ := Rep.node_at (ha.below HB.out hh1) hlt
      obtain ⟨b', o', a', rfl, hya', b0, b1⟩ := Rep.node_at (hb.below HB.out hh2) hlt
      obtain rfl : a' = a := by rw [hya] at hya'; injection hya' with e; exact e.symm
      have hlt' : (k : Int) < n := by omega
      clear hya hya'
      have SB : Hid (∀ W, Hid (Below wr.heap.size wr W) → (fun W => W.cell? ⟨b, o + k * 2, none⟩ = some (.bool a'.net) ∧ W.cell? ⟨b, o + k * 2 + 1, none⟩ = some (.int .i64 a'.id) ∧ W.cell? ⟨b', o' + k * 2, none⟩ = some (.bool a'.net) ∧ W.cell? ⟨b', o' + k * 2 + 1, none⟩ = some (.int .i64 a'.id)) W) := fun W h => ⟨(h.out.cell (World.block_lt_of_cell? wr _ a0)).trans a0, (h.out.cell (World.block_lt_of_cell? wr _ a1)).trans a1, (h.out.cell (World.block_lt_of_cell? wr _ b0)).trans b0, (h.out.cell (World.block_lt_of_cell? wr _ b1)).trans b1⟩
      have V0 : Hid (Below wr.heap.size wr wr.drew) := (Below.refl _ _).drew
      clear a0 a1 b0 b1
      go_wp2
      go_region_held3 (fun W => W.cell? ⟨b, o + k * 2, none⟩ = some (.bool a'.net) ∧ W.cell? ⟨b, o + k * 2 + 1, none⟩ = some (.int .i64 a'.id) ∧ W.cell? ⟨b', o' + k * 2, none⟩ = some (.bool a'.net) ∧ W.cell? ⟨b', o' + k * 2 + 1, none⟩ = some (.int .i64 a'.id)) (exact SB.out _ (by assumption))
        (first | (go_at_call 179; refine (eqNode_yes _ _ _).mono ?_; rintro e u ⟨rfl, hbu⟩; have U0 := Lib.hid (below_step V0.out hbu); clear hbu))
      have HU := Lib.hid (below_step HB.out U0.out)
      clear SB V0 U0 HB
      go_wp2
      go_roundw
      case rel => exact ⟨k + 1, by omega, by go_num, HU⟩
      case measure => simp [intOf]; omega
    · go_wp2
      go_ret
      exact ⟨rfl, HB.out⟩

theorem szNodeS_any (A : Option Addr) (n c : Nat) (left : Int) (w : World) (h0 : 0 ≤ left) (h1 : left ≤ 1048576) (hn : n ≤ maxLen) :
    Calls Try.prog 177 #[.slice A n c, .int .i64 left] w fun e w' => e = .returned (.int .i64 (if left - n < 0 then -1 else left - n)) ∧ w' = w := by
  unfold maxLen at hn
  by_cases h : left - n < 0
  · rw [if_pos h]
    go_enter Try.func177, Try.ntmps177
    go_wp2
    go_ret
    exact ⟨rfl, rfl⟩
  · rw [if_neg h]
    go_enter Try.func177, Try.ntmps177
    go_wp2
    go_ret
    exact ⟨rfl, rfl⟩

theorem Rep.node_room {lo hi : Nat} {w : World} {A : Option Addr} {n : Nat} {ys : List Nd} (h : Rep.node.Sl true lo hi w A n ys) (hn : 0 < n) : ∃ b o, A = some ⟨b, o, none⟩ ∧ lo ≤ b ∧ b < hi ∧ Room w b o (2 * n) := by
  obtain ⟨b, o, e, h1, h2, hf, _⟩ := h.2 hn
  refine ⟨b, o, e, h1, h2, fun j hj => ?_, hf rfl⟩
  obtain ⟨b', o', a, e', _, c0, c1⟩ := Rep.node_at h (k := j / 2) (by omega)
  rw [e] at e'; injection e' with e'; injection e' with e1 e2 _
  subst e1 e2
  rcases (show j % 2 = 0 ∨ j % 2 = 1 by omega) with hm | hm
  · exact ⟨_, by rw [show o + j = o + j / 2 * 2 by omega]; exact c0⟩
  · exact ⟨_, by rw [show o + j = o + j / 2 * 2 + 1 by omega]; exact c1⟩

/-- What the marks write, cell by cell. -/
def nodemark (k0 : Int) (j : Nat) : Value := if j % 2 = 0 then .bool ((k0 + (j : Int)) % 3 == 0) else .int .i64 (k0 + (j : Int))
theorem nodemark_at (k0 : Int) (k j : Nat) (hj : j < 2) : nodemark k0 (k * 2 + j) = [.bool ((k0 + 2 * (k : Int)) % 3 == 0), .int .i64 (k0 + 2 * (k : Int) + 1)].getD j undef := by
  have hm : (k * 2 + j) % 2 = j := by omega
  have hi : k0 + ((k * 2 + j : Nat) : Int) = k0 + 2 * (k : Int) + j := by omega
  unfold nodemark
  rw [hm, hi]
  rcases (show j = 0 ∨ j = 1 by omega) with rfl | rfl <;> simp
def mNodes (k0 : Int) (n : Nat) : List Nd := (List.range n).map fun (i : Nat) => ⟨((k0 + 2 * (i : Int)) % 3 == 0), k0 + 2 * (i : Int) + 1⟩
theorem mNodes_len (k0 : Int) (n : Nat) : (mNodes k0 n).length = n := by simp [mNodes]
theorem mNodes_at (k0 : Int) (n k : Nat) (h : k < n) : (mNodes k0 n)[k]? = some ⟨((k0 + 2 * (k : Int)) % 3 == 0), k0 + 2 * (k : Int) + 1⟩ := by simp [mNodes, h]
theorem node_of_marks {q : Bool} {lo hi : Nat} {w : World} {b o : Nat} {k0 : Int} {n : Nat} (h : Marks w b o (nodemark k0) (2 * n)) (hR : Room w b o (2 * n)) (h1 : lo ≤ b) (h2 : b < hi) : Rep.node.Sl q lo hi w (some ⟨b, o, none⟩) n (mNodes k0 n) :=
  ⟨mNodes_len _ _, fun _ => ⟨b, o, rfl, h1, h2, fun _ => hR.2, fun i a ha => by
    have hi' : i < n := by
      rcases Nat.lt_or_ge i (mNodes k0 n).length with h' | h'
      · rwa [mNodes_len] at h'
      · rw [List.getElem?_eq_none h'] at ha; cases ha
    rw [mNodes_at _ _ _ hi'] at ha
    injection ha with ha
    subst ha
    refine ⟨_, rfl, fun j u hj => ?_⟩
    have hj3 : j < 2 := by
      rcases Nat.lt_or_ge j 2 with h' | h'
      · exact h'
      · rw [List.getElem?_eq_none (by simpa using h')] at hj; cases hj
    have := h (i * 2 + j) (by omega)
    show w.cell? ⟨b, o + i * 2 + j, none⟩ = some u
    rw [Nat.add_assoc, this, ← hj, nodemark_at k0 i j hj3]
    rcases (show j = 0 ∨ j = 1 by omega) with rfl | rfl <;> rfl⟩⟩

end Go.Proofs.Ytooogjfnnmacjaa
