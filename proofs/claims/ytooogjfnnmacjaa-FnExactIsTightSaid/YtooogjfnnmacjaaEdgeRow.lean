/-
  What the laws' helpers do with rows of Edges: sz, to, eq, mark, held. No statement is proved here.
-/
import Derived.Test.YtooogjfnnmacjaaNodeRow
namespace Go.Proofs.Ytooogjfnnmacjaa
open Go.RowKit
set_option linter.unusedVariables false

theorem edgeInfo : (Try.prog.info? 191).map (fun i => (i.zero, i.size, i.bytes)) = some (some (.agg #[.bool false, .int .i64 0, .bool false, .int .i64 0, .int .i64 0]), 5, 40) := by kernel_rfl

/-- An edge. -/
structure Eg where
  frm : Nd
  dst : Nd
  cost : Int
instance : DecidableEq Eg := fun a b => decidable_of_iff (a.frm = b.frm ∧ a.dst = b.dst ∧ a.cost = b.cost) (by cases a; cases b; simp)
def Rep.edge : Rep Eg where
  size := 5
  rel _ _ _ _ cs a := cs = [.bool a.frm.net, .int .i64 a.frm.id, .bool a.dst.net, .int .i64 a.dst.id, .int .i64 a.cost]
  len h := by rw [h]; rfl
  keep h _ := h
  mono h _ _ := h
def edgecell (a : Eg) : List Value := [.bool a.frm.net, .int .i64 a.frm.id, .bool a.dst.net, .int .i64 a.dst.id, .int .i64 a.cost]
theorem edgecell_len (a : Eg) : (edgecell a).length = 5 := rfl
theorem edgecell_one : ∀ a : Eg, ∀ u ∈ edgecell a, u.oneCell' = true := by
  intro a u hu
  simp only [edgecell, List.mem_cons, List.not_mem_nil, or_false] at hu
  rcases hu with rfl | rfl | rfl | rfl | rfl <;> rfl
theorem Rep.edge_inF {q : Bool} {lo hi : Nat} {w : World} {A : Option Addr} {n : Nat} {ys : List Eg} (h : Rep.edge.Sl q lo hi w A n ys) : InF 5 edgecell w A n ys := Rep.Sl.inF (r := Rep.edge) edgecell_len (fun _ _ _ _ _ _ h => h) h
theorem Rep.edge_at {q : Bool} {lo hi : Nat} {w : World} {A : Option Addr} {n : Nat} {ys : List Eg} (h : Rep.edge.Sl q lo hi w A n ys) {k : Nat} (hk : k < n) :
    ∃ b o a, A = some ⟨b, o, none⟩ ∧ ys[k]? = some a ∧ w.cell? ⟨b, o + k * 5, none⟩ = some (.bool a.frm.net) ∧ w.cell? ⟨b, o + k * 5 + 1, none⟩ = some (.int .i64 a.frm.id) ∧ w.cell? ⟨b, o + k * 5 + 2, none⟩ = some (.bool a.dst.net) ∧ w.cell? ⟨b, o + k * 5 + 3, none⟩ = some (.int .i64 a.dst.id) ∧ w.cell? ⟨b, o + k * 5 + 4, none⟩ = some (.int .i64 a.cost) := by
  obtain ⟨b, o, a, cs, e, ha, hr, hc⟩ := h.at_ hk
  have hr : cs = [.bool a.frm.net, .int .i64 a.frm.id, .bool a.dst.net, .int .i64 a.dst.id, .int .i64 a.cost] := hr
  subst hr
  exact ⟨b, o, a, e, ha, hc 0 _ rfl, hc 1 _ rfl, hc 2 _ rfl, hc 3 _ rfl, hc 4 _ rfl⟩

set_option maxRecDepth 100000 in
set_option maxHeartbeats 1600000 in
theorem toEdge_any (x0 : Bool) (x1 : Int) (x2 : Bool) (x3 : Int) (x4 : Int) (w : World) :
    Calls Try.prog 146 #[.agg #[.bool x0, .int .i64 x1, .bool x2, .int .i64 x3, .int .i64 x4]] w fun e w' => e = .returned (.agg #[.bool x0, .int .i64 x1, .bool x2, .int .i64 x3, .int .i64 x4]) ∧ Below w.heap.size w w' := by
  have HB := Lib.hid (Below.refl w.heap.size w)
  go_enter Try.func146, Try.ntmps146
  go_wp2_with fail
  refine Calls.name ?_
  intro U1 hU1
  have hb : Below w.heap.size w U1 := by rw [hU1]; exact ((((Below.refl _ _).alloc (Nat.le_refl _) _).alloc (by simp <;> omega) _).alloc (by simp <;> omega) _)
  have zz : Hid (w.heap.size + 3 = U1.heap.size) := Lib.hid (by rw [hU1]; simp)
  have HX1 : Kept w.heap.size (w.heap.size + 1) (BoxK w.heap.size 206 #[.bool x0, .int .i64 x1, .bool x2, .int .i64 x3, .int .i64 x4]) U1 := by rw [hU1]; exact Kept.box (((Box.made_at _ _ _ rfl).over _).over _)
  have HX2 : Kept (w.heap.size + 1) (w.heap.size + 1 + 1) (BoxK (w.heap.size + 1) 191 #[.bool false, .int .i64 0, .bool false, .int .i64 0, .int .i64 0]) U1 := by rw [hU1]; exact Kept.box ((Box.made_at _ _ _ (by simp <;> omega)).over _)
  have HX3 : Kept (w.heap.size + 1 + 1) (w.heap.size + 1 + 1 + 1) (BoxK (w.heap.size + 1 + 1) 191 #[.bool false, .int .i64 0, .bool false, .int .i64 0, .int .i64 0]) U1 := by rw [hU1]; exact Kept.box (Box.made_at _ _ _ (by simp <;> omega))
  replace HB := Lib.hid (below_step HB.out hb)
  clear hb
  have Z1 := zz; clear zz
  clear hU1
  refine (toNode_any x0 x1 _).mono ?_
  rintro e w2 ⟨rfl, hb⟩
  have Z2 := Lib.hid hb.size
  replace HX1 := HX1.below hb
  replace HX2 := HX2.below hb
  replace HX3 := HX3.below hb
  replace HB := Lib.hid (below_step HB.out hb)
  clear hb
  have c2_0 := HX1.look 2
  have c2_1 := HX1.look 3
  have c2_2 := HX3.look 0
  have c2_3 := HX3.look 1
  have f2_0 := HX3.free 0
  have f2_1 := HX3.free 1
  have l2_0 := HX1.bx.lt
  have l2_1 := HX2.bx.lt
  have l2_2 := HX3.bx.lt
  have n2_0_0 : ¬ (w.heap.size + 1 + 1) = w.heap.size := (by have := Z1.out; have := Z2.out; omega)
  have m2_0_0 : ¬ w.heap.size = (w.heap.size + 1 + 1) := (by have := Z1.out; have := Z2.out; omega)
  go_wp2_with fail
  clear c2_0 c2_1 c2_2 c2_3 f2_0 f2_1 l2_0 l2_1 l2_2 n2_0_0 m2_0_0
  refine Calls.name ?_
  intro U3 hU3
  have ho : Only (w.heap.size + 1 + 1) (w.heap.size + 1 + 1 + 1) w2 U3 := by rw [hU3]; exact (((Only.refl _ _ _).set (p := ⟨w.heap.size + 1 + 1, 0, none⟩) (Nat.le_refl _) (Nat.lt_succ_self _) _).set (p := ⟨w.heap.size + 1 + 1, 1, none⟩) (Nat.le_refl _) (Nat.lt_succ_self _) _)
  replace HX3 : Kept (w.heap.size + 1 + 1) (w.heap.size + 1 + 1 + 1) (BoxK (w.heap.size + 1 + 1) 191 #[.bool x0, .int .i64 x1, .bool false, .int .i64 0, .int .i64 0]) U3 := by rw [hU3]; exact Kept.box ((HX3.bx.puts 0 (.bool x0) (cs' := #[.bool x0, .int .i64 0, .bool false, .int .i64 0, .int .i64 0]) rfl).puts 1 (.int .i64 x1) (cs' := #[.bool x0, .int .i64 x1, .bool false, .int .i64 0, .int .i64 0]) rfl)
  replace HX1 := HX1.only ho (by have := Z1.out; have := Z2.out; omega)
  replace HX2 := HX2.only ho (by have := Z1.out; have := Z2.out; omega)
  replace HB := Lib.hid (Below.only HB.out ho (by have := Z1.out; have := Z2.out; omega) HB.out.size)
  have Z3 : Hid (U3.heap.size = w2.heap.size) := Lib.hid (by rw [hU3]; simp [World.setCell]); clear ho
  clear hU3
  refine (toNode_any x2 x3 _).mono ?_
  rintro e w4 ⟨rfl, hb⟩
  have Z4 := Lib.hid hb.size
  replace HX1 := HX1.below hb
  replace HX2 := HX2.below hb
  replace HX3 := HX3.below hb
  replace HB := Lib.hid (below_step HB.out hb)
  clear hb
  have c3_0 := HX1.look 4
  have c3_1 := HX2.look 0
  have c3_2 := HX2.look 1
  have c3_3 := HX2.look 2
  have c3_4 := HX2.look 3
  have c3_5 := HX2.look 4
  have c3_6 := HX3.look 0
  have c3_7 := HX3.look 1
  have c3_8 := HX3.look 2
  have c3_9 := HX3.look 3
  have c3_10 := HX3.look 4
  have f3_0 := HX2.free 0
  have f3_1 := HX2.free 1
  have f3_2 := HX2.free 2
  have f3_3 := HX2.free 3
  have f3_4 := HX2.free 4
  have f3_5 := HX3.free 2
  have f3_6 := HX3.free 3
  have f3_7 := HX3.free 4
  have l3_0 := HX1.bx.lt
  have l3_1 := HX2.bx.lt
  have l3_2 := HX3.bx.lt
  have n3_0_0 : ¬ (w.heap.size + 1) = w.heap.size := (by have := Z1.out; have := Z2.out; have := Z3.out; have := Z4.out; omega)
  have m3_0_0 : ¬ w.heap.size = (w.heap.size + 1) := (by have := Z1.out; have := Z2.out; have := Z3.out; have := Z4.out; omega)
  have n3_0_2 : ¬ (w.heap.size + 1) = (w.heap.size + 1 + 1) := (by have := Z1.out; have := Z2.out; have := Z3.out; have := Z4.out; omega)
  have m3_0_2 : ¬ (w.heap.size + 1 + 1) = (w.heap.size + 1) := (by have := Z1.out; have := Z2.out; have := Z3.out; have := Z4.out; omega)
  have n3_1_0 : ¬ (w.heap.size + 1 + 1) = w.heap.size := (by have := Z1.out; have := Z2.out; have := Z3.out; have := Z4.out; omega)
  have m3_1_0 : ¬ w.heap.size = (w.heap.size + 1 + 1) := (by have := Z1.out; have := Z2.out; have := Z3.out; have := Z4.out; omega)
  go_wp2
  clear c3_0 c3_1 c3_2 c3_3 c3_4 c3_5 c3_6 c3_7 c3_8 c3_9 c3_10 f3_0 f3_1 f3_2 f3_3 f3_4 f3_5 f3_6 f3_7 l3_0 l3_1 l3_2 n3_0_0 m3_0_0 n3_0_2 m3_0_2 n3_1_0 m3_1_0
  obtain ⟨U5, hU5⟩ : ∃ W : World, W = (((w4.setCell ⟨w.heap.size + 1 + 1, 2, none⟩ (.bool x2)).setCell ⟨w.heap.size + 1 + 1, 3, none⟩ (.int .i64 x3)).setCell ⟨w.heap.size + 1 + 1, 4, none⟩ (.int .i64 x4)) := ⟨_, rfl⟩
  have ho : Only (w.heap.size + 1 + 1) (w.heap.size + 1 + 1 + 1) w4 U5 := by rw [hU5]; exact ((((Only.refl _ _ _).set (p := ⟨w.heap.size + 1 + 1, 2, none⟩) (Nat.le_refl _) (Nat.lt_succ_self _) _).set (p := ⟨w.heap.size + 1 + 1, 3, none⟩) (Nat.le_refl _) (Nat.lt_succ_self _) _).set (p := ⟨w.heap.size + 1 + 1, 4, none⟩) (Nat.le_refl _) (Nat.lt_succ_self _) _)
  replace HX3 : Kept (w.heap.size + 1 + 1) (w.heap.size + 1 + 1 + 1) (BoxK (w.heap.size + 1 + 1) 191 #[.bool x0, .int .i64 x1, .bool x2, .int .i64 x3, .int .i64 x4]) U5 := by rw [hU5]; exact Kept.box (((HX3.bx.puts 2 (.bool x2) (cs' := #[.bool x0, .int .i64 x1, .bool x2, .int .i64 0, .int .i64 0]) rfl).puts 3 (.int .i64 x3) (cs' := #[.bool x0, .int .i64 x1, .bool x2, .int .i64 x3, .int .i64 0]) rfl).puts 4 (.int .i64 x4) (cs' := #[.bool x0, .int .i64 x1, .bool x2, .int .i64 x3, .int .i64 x4]) rfl)
  replace HX1 := HX1.only ho (by have := Z1.out; have := Z2.out; have := Z3.out; have := Z4.out; omega)
  replace HX2 := HX2.only ho (by have := Z1.out; have := Z2.out; have := Z3.out; have := Z4.out; omega)
  replace HB := Lib.hid (Below.only HB.out ho (by have := Z1.out; have := Z2.out; have := Z3.out; have := Z4.out; omega) HB.out.size)
  have Z5 : Hid (U5.heap.size = w4.heap.size) := Lib.hid (by rw [hU5]; simp [World.setCell]); clear ho
  obtain ⟨U6, hU6⟩ : ∃ W : World, W = (((((U5.setCell ⟨w.heap.size + 1, 0, none⟩ (.bool x0)).setCell ⟨w.heap.size + 1, 1, none⟩ (.int .i64 x1)).setCell ⟨w.heap.size + 1, 2, none⟩ (.bool x2)).setCell ⟨w.heap.size + 1, 3, none⟩ (.int .i64 x3)).setCell ⟨w.heap.size + 1, 4, none⟩ (.int .i64 x4)) := ⟨_, rfl⟩
  have ho : Only (w.heap.size + 1) (w.heap.size + 1 + 1) U5 U6 := by rw [hU6]; exact ((((((Only.refl _ _ _).set (p := ⟨w.heap.size + 1, 0, none⟩) (Nat.le_refl _) (Nat.lt_succ_self _) _).set (p := ⟨w.heap.size + 1, 1, none⟩) (Nat.le_refl _) (Nat.lt_succ_self _) _).set (p := ⟨w.heap.size + 1, 2, none⟩) (Nat.le_refl _) (Nat.lt_succ_self _) _).set (p := ⟨w.heap.size + 1, 3, none⟩) (Nat.le_refl _) (Nat.lt_succ_self _) _).set (p := ⟨w.heap.size + 1, 4, none⟩) (Nat.le_refl _) (Nat.lt_succ_self _) _)
  replace HX2 : Kept (w.heap.size + 1) (w.heap.size + 1 + 1) (BoxK (w.heap.size + 1) 191 #[.bool x0, .int .i64 x1, .bool x2, .int .i64 x3, .int .i64 x4]) U6 := by rw [hU6]; exact Kept.box (((((HX2.bx.puts 0 (.bool x0) (cs' := #[.bool x0, .int .i64 0, .bool false, .int .i64 0, .int .i64 0]) rfl).puts 1 (.int .i64 x1) (cs' := #[.bool x0, .int .i64 x1, .bool false, .int .i64 0, .int .i64 0]) rfl).puts 2 (.bool x2) (cs' := #[.bool x0, .int .i64 x1, .bool x2, .int .i64 0, .int .i64 0]) rfl).puts 3 (.int .i64 x3) (cs' := #[.bool x0, .int .i64 x1, .bool x2, .int .i64 x3, .int .i64 0]) rfl).puts 4 (.int .i64 x4) (cs' := #[.bool x0, .int .i64 x1, .bool x2, .int .i64 x3, .int .i64 x4]) rfl)
  replace HX1 := HX1.only ho (by have := Z1.out; have := Z2.out; have := Z3.out; have := Z4.out; have := Z5.out; omega)
  replace HX3 := HX3.only ho (by have := Z1.out; have := Z2.out; have := Z3.out; have := Z4.out; have := Z5.out; omega)
  replace HB := Lib.hid (Below.only HB.out ho (by have := Z1.out; have := Z2.out; have := Z3.out; have := Z4.out; have := Z5.out; omega) HB.out.size)
  have Z6 : Hid (U6.heap.size = U5.heap.size) := Lib.hid (by rw [hU6]; simp [World.setCell]); clear ho
  have q_0 := HX2.look 0
  have q_1 := HX2.look 1
  have q_2 := HX2.look 2
  have q_3 := HX2.look 3
  have q_4 := HX2.look 4
  subst hU6 hU5
  exact bodyPost_ret (v := .agg #[.bool x0, .int .i64 x1, .bool x2, .int .i64 x3, .int .i64 x4]) (by simp [results, Try.results146, go_sem, q_0, q_1, q_2, q_3, q_4]) rfl ⟨rfl, HB.out⟩

set_option maxRecDepth 100000 in
set_option maxHeartbeats 1600000 in
theorem toEdgeS_any (q : Bool) (lo hi : Nat) (A : Option Addr) (n c : Nat) (ys : List Eg) (w : World) (ha : Rep.edge.Sl q lo hi w A n ys) (hh : hi ≤ w.heap.size) (hn : n ≤ 1048576) :
    Calls Try.prog 71 #[.slice A n c] w fun e w' => e = .returned (.slice (some ⟨w.heap.size, 0, none⟩) n n) ∧
      Rep.edge.Sl true w.heap.size (w.heap.size + 1) w' (some ⟨w.heap.size, 0, none⟩) n ys ∧ w.heap.size < w'.heap.size ∧ Below w.heap.size w w' := by
  obtain ⟨i0, hi0, hz0, hz1, hz2⟩ := info_parts edgeInfo
  go_enter Try.func71, Try.ntmps71
  go_wp2_with (at_make; refine wpList_make_full _ rfl _ _ 82 rfl w.heap.size 191 i0 _ 5 Try.underlying82 hi0 hz0 hz1 .i64 .i64 _ _ n rfl rfl rfl rfl (by rw [hz2]; omega) (by unfold maxLen; omega) (Nat.le_refl _) ?_; intro w1 hown1 hg1)
  have hb1 := below_of_grown hg1
  clear hg1 hi0 hz0 hz1 hz2
  obtain ⟨B, HB⟩ : ∃ B, Hid (B = w.heap.size) := ⟨_, Lib.hid rfl⟩
  rw [← HB.out] at hown1 hb1 ⊢
  go_loopw [4] (fun i wr => ∃ k : Nat, k ≤ n ∧ i = .int .i64 k ∧ ∃ xs : List Value, wr.ownsRow B 191 5 (.slice (some ⟨B, 0, none⟩) n n) n xs ∧ Below B w wr ∧
      Hid (∀ j a, j < k → ys[j]? = some a → xs[j * 5]? = some (.bool a.frm.net) ∧ xs[j * 5 + 1]? = some (.int .i64 a.frm.id) ∧ xs[j * 5 + 2]? = some (.bool a.dst.net) ∧ xs[j * 5 + 3]? = some (.int .i64 a.dst.id) ∧ xs[j * 5 + 4]? = some (.int .i64 a.cost)))
    (fun i _ => n - (intOf i).toNat)
  case atStart => exact ⟨0, Nat.zero_le _, rfl, _, hown1, hb1, fun j a hj => absurd hj (by omega)⟩
  case round =>
    obtain ⟨k, hk, rfl, xs, hown, hbw, HS⟩ := hrel
    by_cases hlt : k < n
    · obtain ⟨b, o, a, rfl, hya, ca0, ca1, ca2, ca3, ca4⟩ := Rep.edge_at (ha.below (by rw [← HB.out]; exact hbw) hh) hlt
      have hlt' : (k : Int) < n := by omega
      have HYA := Lib.hid hya
      clear hya
      go_wp2_with fail
      refine (toEdge_any _ _ _ _ _ _).mono ?_
      rintro e w2 ⟨rfl, hb2⟩
      have hown2 : w2.ownsRow B 191 5 (.slice (some ⟨B, 0, none⟩) n n) n xs := World.ownsRow.kept hown (grownBy_of_below hb2 none) (by simp [Value.ownBlock])
      have hbw2 : Below B w w2 := hbw.trans (hb2.mono (Nat.le_of_lt (World.ownsRow.lt hown B rfl).2))
      have hl : xs.length = n * 5 := hown2.1
      have h4 : k * 5 + 4 < n * 5 := by omega
      obtain ⟨v0, d0⟩ := own_some hown2 (j := k * 5) (by omega)
      obtain ⟨v1, d1⟩ := own_some hown2 (j := k * 5 + 1) (by omega)
      obtain ⟨v2, d2⟩ := own_some hown2 (j := k * 5 + 2) (by omega)
      obtain ⟨v3, d3⟩ := own_some hown2 (j := k * 5 + 3) (by omega)
      obtain ⟨v4, d4⟩ := own_some hown2 (j := k * 5 + 4) (by omega)
      have f0 := World.ownsRow.frozenAt hown2 (k * 5)
      have f1 := World.ownsRow.frozenAt hown2 (k * 5 + 1)
      have f2 := World.ownsRow.frozenAt hown2 (k * 5 + 2)
      have f3 := World.ownsRow.frozenAt hown2 (k * 5 + 3)
      have f4 := World.ownsRow.frozenAt hown2 (k * 5 + 4)
      obtain ⟨s1, _⟩ := World.ownsRow.stored hown2 (k * 5) (.bool a.frm.net)
      obtain ⟨s2, _⟩ := World.ownsRow.stored s1 (k * 5 + 1) (.int .i64 a.frm.id)
      obtain ⟨s3, _⟩ := World.ownsRow.stored s2 (k * 5 + 2) (.bool a.dst.net)
      obtain ⟨s4, _⟩ := World.ownsRow.stored s3 (k * 5 + 3) (.int .i64 a.dst.id)
      obtain ⟨s5, _⟩ := World.ownsRow.stored s4 (k * 5 + 4) (.int .i64 a.cost)
      have HO := Lib.hid s5
      have HL := Lib.hid hl
      have HBW := Lib.hid hbw2
      clear s1 s2 s3 s4 s5 hl hbw2 hown hown2 hbw hb2
      go_wp2
      go_roundw
      case rel =>
        refine ⟨k + 1, by omega, by go_num, _, HO.out, (((((HBW.out.setCell (Nat.le_refl _) _).setCell (Nat.le_refl _) _).setCell (Nat.le_refl _) _).setCell (Nat.le_refl _) _).setCell (Nat.le_refl _) _), fun j x hj hx => ?_⟩
        have hl := HL.out
        by_cases e : j = k
        · subst e
          have hax : x = a := by have := HYA.out; rw [hx] at this; injection this
          subst hax
          refine ⟨?_, ?_, ?_, ?_, ?_⟩ <;> simp only [List.getElem?_set, List.length_set]
          · rw [if_neg (by omega), if_neg (by omega), if_neg (by omega), if_neg (by omega), if_pos trivial, if_pos (by omega)]
          · rw [if_neg (by omega), if_neg (by omega), if_neg (by omega), if_pos trivial, if_pos (by omega)]
          · rw [if_neg (by omega), if_neg (by omega), if_pos trivial, if_pos (by omega)]
          · rw [if_neg (by omega), if_pos trivial, if_pos (by omega)]
          · rw [if_pos trivial, if_pos (by omega)]
        · obtain ⟨e0, e1, e2, e3, e4⟩ := HS.out j x (by omega) hx
          refine ⟨?_, ?_, ?_, ?_, ?_⟩ <;> simp only [List.getElem?_set, List.length_set]
          · rw [if_neg (by omega), if_neg (by omega), if_neg (by omega), if_neg (by omega), if_neg (by omega)]; exact e0
          · rw [if_neg (by omega), if_neg (by omega), if_neg (by omega), if_neg (by omega), if_neg (by omega)]; exact e1
          · rw [if_neg (by omega), if_neg (by omega), if_neg (by omega), if_neg (by omega), if_neg (by omega)]; exact e2
          · rw [if_neg (by omega), if_neg (by omega), if_neg (by omega), if_neg (by omega), if_neg (by omega)]; exact e3
          · rw [if_neg (by omega), if_neg (by omega), if_neg (by omega), if_neg (by omega), if_neg (by omega)]; exact e4
      case measure => simp [intOf]; omega
    · have HO := Lib.hid hown
      have hlen := ha.1
      clear hown
      go_wp2
      go_ret
      obtain rfl := HB.out
      have hlt2 : w.heap.size < wr.heap.size := (World.ownsRow.lt HO.out w.heap.size rfl).2
      refine ⟨rfl, ⟨hlen, fun _ => ⟨w.heap.size, 0, rfl, Nat.le_refl _, by omega, fun _ i => World.ownsRow.frozenAt HO.out i, fun i a hi' => ?_⟩⟩, hlt2, hbw⟩
      have hin : i < n := by
        rcases Nat.lt_or_ge i ys.length with h' | h'
        · omega
        · rw [List.getElem?_eq_none h'] at hi'; cases hi'
      obtain ⟨e0, e1, e2, e3, e4⟩ := HS.out i a (by omega) hi'
      refine ⟨[.bool a.frm.net, .int .i64 a.frm.id, .bool a.dst.net, .int .i64 a.dst.id, .int .i64 a.cost], rfl, fun j u hj => ?_⟩
      have hj4 : j < 5 := by
        rcases Nat.lt_or_ge j 5 with h' | h'
        · exact h'
        · rw [List.getElem?_eq_none (by simpa using h')] at hj; cases hj
      have hc := World.ownsRow.cellAt HO.out (i * 5 + j) (by omega)
      show wr.cell? ⟨w.heap.size, 0 + i * 5 + j, none⟩ = some u
      rw [Nat.zero_add, hc, ← hj]
      rcases (show j = 0 ∨ j = 1 ∨ j = 2 ∨ j = 3 ∨ j = 4 by omega) with rfl | rfl | rfl | rfl | rfl
      · exact e0
      · exact e1
      · exact e2
      · exact e3
      · exact e4

set_option maxRecDepth 100000 in
set_option maxHeartbeats 1600000 in
theorem eqEdge_yes (x0 : Bool) (x1 : Int) (x2 : Bool) (x3 : Int) (x4 : Int) (w : World) :
    Calls Try.prog 151 #[.agg #[.bool x0, .int .i64 x1, .bool x2, .int .i64 x3, .int .i64 x4], .agg #[.bool x0, .int .i64 x1, .bool x2, .int .i64 x3, .int .i64 x4]] w fun e w' => e = .returned (.bool true) ∧ Below w.heap.size w w' := by
  have HB := Lib.hid (Below.refl w.heap.size w)
  go_enter Try.func151, Try.ntmps151
  go_wp2_with fail
  refine Calls.name ?_
  intro U1 hU1
  have hb : Below w.heap.size w U1 := by rw [hU1]; exact (((Below.refl _ _).alloc (Nat.le_refl _) _).alloc (by simp <;> omega) _)
  have zz : Hid (w.heap.size + 2 = U1.heap.size) := Lib.hid (by rw [hU1]; simp)
  have HX1 : Kept w.heap.size (w.heap.size + 1) (BoxK w.heap.size 191 #[.bool x0, .int .i64 x1, .bool x2, .int .i64 x3, .int .i64 x4]) U1 := by rw [hU1]; exact Kept.box ((Box.made_at _ _ _ rfl).over _)
  have HX2 : Kept (w.heap.size + 1) (w.heap.size + 1 + 1) (BoxK (w.heap.size + 1) 191 #[.bool x0, .int .i64 x1, .bool x2, .int .i64 x3, .int .i64 x4]) U1 := by rw [hU1]; exact Kept.box (Box.made_at _ _ _ (by simp <;> omega))
  replace HB := Lib.hid (below_step HB.out hb)
  clear hb
  have Z1 := zz; clear zz
  clear hU1
  refine (eqNode_yes x0 x1 _).mono ?_
  rintro e w2 ⟨rfl, hb⟩
  have Z2 := Lib.hid hb.size
  replace HX1 := HX1.below hb
  replace HX2 := HX2.below hb
  replace HB := Lib.hid (below_step HB.out hb)
  clear hb
  have c2_0 := HX1.look 2
  have c2_1 := HX1.look 3
  have c2_2 := HX2.look 2
  have c2_3 := HX2.look 3
  have l2_0 := HX1.bx.lt
  have l2_1 := HX2.bx.lt
  go_wp2_with fail
  clear c2_0 c2_1 c2_2 c2_3 l2_0 l2_1
  refine (eqNode_yes x2 x3 _).mono ?_
  rintro e w3 ⟨rfl, hb⟩
  have Z3 := Lib.hid hb.size
  replace HX1 := HX1.below hb
  replace HX2 := HX2.below hb
  replace HB := Lib.hid (below_step HB.out hb)
  clear hb
  have c3_0 := HX1.look 4
  have c3_1 := HX2.look 4
  have l3_0 := HX1.bx.lt
  have l3_1 := HX2.bx.lt
  go_wp2
  clear c3_0 c3_1 l3_0 l3_1
  go_ret
  exact ⟨rfl, HB.out⟩

set_option maxRecDepth 100000 in
set_option maxHeartbeats 3200000 in
theorem eqEdgeS_yes (q1 q2 : Bool) (l1 h1 l2 h2 : Nat) (A B : Option Addr) (n c d : Nat) (ys : List Eg) (w : World) (ha : Rep.edge.Sl q1 l1 h1 w A n ys) (hb : Rep.edge.Sl q2 l2 h2 w B n ys) (hh1 : h1 ≤ w.heap.size) (hh2 : h2 ≤ w.heap.size) (hn : n ≤ 1048576) :
    Calls Try.prog 75 #[.slice A n c, .slice B n d] w fun e w' => e = .returned (.bool true) ∧ Below w.heap.size w w' := by
  go_enter Try.func75, Try.ntmps75
  go_wp2
  go_loopw [5] (fun i wr => ∃ k : Nat, k ≤ n ∧ i = .int .i64 k ∧ Hid (Below w.heap.size w wr)) (fun i _ => n - (intOf i).toNat)
  case atStart => exact ⟨0, Nat.zero_le _, rfl, Below.refl _ _⟩
  case round =>
    obtain ⟨k, hk, rfl, HB⟩ := hrel
    by_cases hlt : k < n
    · obtain ⟨b, o, a, rfl, hya, a0, a1, a2, a3, a4⟩ := Rep.edge_at (ha.below HB.out hh1) hlt
      obtain ⟨b', o', a', rfl, hya', b0, b1, b2, b3, b4⟩ := Rep.edge_at (hb.below HB.out hh2) hlt
      obtain rfl : a' = a := by rw [hya] at hya'; injection hya' with e; exact e.symm
      have hlt' : (k : Int) < n := by omega
      clear hya hya'
      have SB : Hid (∀ W, Hid (Below wr.heap.size wr W) → (fun W => W.cell? ⟨b, o + k * 5, none⟩ = some (.bool a'.frm.net) ∧ W.cell? ⟨b, o + k * 5 + 1, none⟩ = some (.int .i64 a'.frm.id) ∧ W.cell? ⟨b, o + k * 5 + 2, none⟩ = some (.bool a'.dst.net) ∧ W.cell? ⟨b, o + k * 5 + 3, none⟩ = some (.int .i64 a'.dst.id) ∧ W.cell? ⟨b, o + k * 5 + 4, none⟩ = some (.int .i64 a'.cost) ∧ W.cell? ⟨b', o' + k * 5, none⟩ = some (.bool a'.frm.net) ∧ W.cell? ⟨b', o' + k * 5 + 1, none⟩ = some (.int .i64 a'.frm.id) ∧ W.cell? ⟨b', o' + k * 5 + 2, none⟩ = some (.bool a'.dst.net) ∧ W.cell? ⟨b', o' + k * 5 + 3, none⟩ = some (.int .i64 a'.dst.id) ∧ W.cell? ⟨b', o' + k * 5 + 4, none⟩ = some (.int .i64 a'.cost)) W) := fun W h => ⟨(h.out.cell (World.block_lt_of_cell? wr _ a0)).trans a0, (h.out.cell (World.block_lt_of_cell? wr _ a1)).trans a1, (h.out.cell (World.block_lt_of_cell? wr _ a2)).trans a2, (h.out.cell (World.block_lt_of_cell? wr _ a3)).trans a3, (h.out.cell (World.block_lt_of_cell? wr _ a4)).trans a4, (h.out.cell (World.block_lt_of_cell? wr _ b0)).trans b0, (h.out.cell (World.block_lt_of_cell? wr _ b1)).trans b1, (h.out.cell (World.block_lt_of_cell? wr _ b2)).trans b2, (h.out.cell (World.block_lt_of_cell? wr _ b3)).trans b3, (h.out.cell (World.block_lt_of_cell? wr _ b4)).trans b4⟩
      have V0 : Hid (Below wr.heap.size wr wr.drew) := (Below.refl _ _).drew
      clear a0 a1 a2 a3 a4 b0 b1 b2 b3 b4
      go_wp2
      go_region_held3 (fun W => W.cell? ⟨b, o + k * 5, none⟩ = some (.bool a'.frm.net) ∧ W.cell? ⟨b, o + k * 5 + 1, none⟩ = some (.int .i64 a'.frm.id) ∧ W.cell? ⟨b, o + k * 5 + 2, none⟩ = some (.bool a'.dst.net) ∧ W.cell? ⟨b, o + k * 5 + 3, none⟩ = some (.int .i64 a'.dst.id) ∧ W.cell? ⟨b, o + k * 5 + 4, none⟩ = some (.int .i64 a'.cost) ∧ W.cell? ⟨b', o' + k * 5, none⟩ = some (.bool a'.frm.net) ∧ W.cell? ⟨b', o' + k * 5 + 1, none⟩ = some (.int .i64 a'.frm.id) ∧ W.cell? ⟨b', o' + k * 5 + 2, none⟩ = some (.bool a'.dst.net) ∧ W.cell? ⟨b', o' + k * 5 + 3, none⟩ = some (.int .i64 a'.dst.id) ∧ W.cell? ⟨b', o' + k * 5 + 4, none⟩ = some (.int .i64 a'.cost)) (exact SB.out _ (by assumption))
        (first | (go_at_call 151; refine (eqEdge_yes _ _ _ _ _ _).mono ?_; rintro e u ⟨rfl, hbu⟩; have U0 := Lib.hid (below_step V0.out hbu); clear hbu))
      have HU := Lib.hid (below_step HB.out U0.out)
      clear SB V0 U0 HB
      go_wp2
      go_roundw
      case rel => exact ⟨k + 1, by omega, by go_num, HU⟩
      case measure => simp [intOf]; omega
    · go_wp2
      go_ret
      exact ⟨rfl, HB.out⟩

theorem szEdgeS_any (A : Option Addr) (n c : Nat) (left : Int) (w : World) (h0 : 0 ≤ left) (h1 : left ≤ 1048576) (hn : n ≤ maxLen) :
    Calls Try.prog 68 #[.slice A n c, .int .i64 left] w fun e w' => e = .returned (.int .i64 (if left - n < 0 then -1 else left - n)) ∧ w' = w := by
  unfold maxLen at hn
  by_cases h : left - n < 0
  · rw [if_pos h]
    go_enter Try.func68, Try.ntmps68
    go_wp2
    go_ret
    exact ⟨rfl, rfl⟩
  · rw [if_neg h]
    go_enter Try.func68, Try.ntmps68
    go_wp2
    go_ret
    exact ⟨rfl, rfl⟩

theorem Rep.edge_room {lo hi : Nat} {w : World} {A : Option Addr} {n : Nat} {ys : List Eg} (h : Rep.edge.Sl true lo hi w A n ys) (hn : 0 < n) : ∃ b o, A = some ⟨b, o, none⟩ ∧ lo ≤ b ∧ b < hi ∧ Room w b o (5 * n) := by
  obtain ⟨b, o, e, h1, h2, hf, _⟩ := h.2 hn
  refine ⟨b, o, e, h1, h2, fun j hj => ?_, hf rfl⟩
  obtain ⟨b', o', a, e', _, c0, c1, c2, c3, c4⟩ := Rep.edge_at h (k := j / 5) (by omega)
  rw [e] at e'; injection e' with e'; injection e' with e1 e2 _
  subst e1 e2
  rcases (show j % 5 = 0 ∨ j % 5 = 1 ∨ j % 5 = 2 ∨ j % 5 = 3 ∨ j % 5 = 4 by omega) with hm | hm | hm | hm | hm
  · exact ⟨_, by rw [show o + j = o + j / 5 * 5 by omega]; exact c0⟩
  · exact ⟨_, by rw [show o + j = o + j / 5 * 5 + 1 by omega]; exact c1⟩
  · exact ⟨_, by rw [show o + j = o + j / 5 * 5 + 2 by omega]; exact c2⟩
  · exact ⟨_, by rw [show o + j = o + j / 5 * 5 + 3 by omega]; exact c3⟩
  · exact ⟨_, by rw [show o + j = o + j / 5 * 5 + 4 by omega]; exact c4⟩

/-- What the marks write, cell by cell. -/
def edgemark (k0 : Int) (j : Nat) : Value := if j % 5 = 0 ∨ j % 5 = 2 then .bool ((k0 + (j : Int)) % 3 == 0) else .int .i64 (k0 + (j : Int))
theorem edgemark_at (k0 : Int) (k j : Nat) (hj : j < 5) : edgemark k0 (k * 5 + j) = [.bool ((k0 + 5 * (k : Int)) % 3 == 0), .int .i64 (k0 + 5 * (k : Int) + 1), .bool ((k0 + 5 * (k : Int) + 2) % 3 == 0), .int .i64 (k0 + 5 * (k : Int) + 3), .int .i64 (k0 + 5 * (k : Int) + 4)].getD j undef := by
  have hm : (k * 5 + j) % 5 = j := by omega
  have hi : k0 + ((k * 5 + j : Nat) : Int) = k0 + 5 * (k : Int) + j := by omega
  unfold edgemark
  rw [hm, hi]
  rcases (show j = 0 ∨ j = 1 ∨ j = 2 ∨ j = 3 ∨ j = 4 by omega) with rfl | rfl | rfl | rfl | rfl <;> simp
def mEdges (k0 : Int) (n : Nat) : List Eg := (List.range n).map fun (i : Nat) => ⟨⟨((k0 + 5 * (i : Int)) % 3 == 0), k0 + 5 * (i : Int) + 1⟩, ⟨((k0 + 5 * (i : Int) + 2) % 3 == 0), k0 + 5 * (i : Int) + 3⟩, k0 + 5 * (i : Int) + 4⟩
theorem mEdges_len (k0 : Int) (n : Nat) : (mEdges k0 n).length = n := by simp [mEdges]
theorem mEdges_at (k0 : Int) (n k : Nat) (h : k < n) : (mEdges k0 n)[k]? = some ⟨⟨((k0 + 5 * (k : Int)) % 3 == 0), k0 + 5 * (k : Int) + 1⟩, ⟨((k0 + 5 * (k : Int) + 2) % 3 == 0), k0 + 5 * (k : Int) + 3⟩, k0 + 5 * (k : Int) + 4⟩ := by simp [mEdges, h]
theorem edge_of_marks {q : Bool} {lo hi : Nat} {w : World} {b o : Nat} {k0 : Int} {n : Nat} (h : Marks w b o (edgemark k0) (5 * n)) (hR : Room w b o (5 * n)) (h1 : lo ≤ b) (h2 : b < hi) : Rep.edge.Sl q lo hi w (some ⟨b, o, none⟩) n (mEdges k0 n) :=
  ⟨mEdges_len _ _, fun _ => ⟨b, o, rfl, h1, h2, fun _ => hR.2, fun i a ha => by
    have hi' : i < n := by
      rcases Nat.lt_or_ge i (mEdges k0 n).length with h' | h'
      · rwa [mEdges_len] at h'
      · rw [List.getElem?_eq_none h'] at ha; cases ha
    rw [mEdges_at _ _ _ hi'] at ha
    injection ha with ha
    subst ha
    refine ⟨_, rfl, fun j u hj => ?_⟩
    have hj3 : j < 5 := by
      rcases Nat.lt_or_ge j 5 with h' | h'
      · exact h'
      · rw [List.getElem?_eq_none (by simpa using h')] at hj; cases hj
    have := h (i * 5 + j) (by omega)
    show w.cell? ⟨b, o + i * 5 + j, none⟩ = some u
    rw [Nat.add_assoc, this, ← hj, edgemark_at k0 i j hj3]
    rcases (show j = 0 ∨ j = 1 ∨ j = 2 ∨ j = 3 ∨ j = 4 by omega) with rfl | rfl | rfl | rfl | rfl <;> rfl⟩⟩

set_option maxRecDepth 100000 in
set_option maxHeartbeats 3200000 in
theorem markEdgeS_any (lo hi : Nat) (A : Option Addr) (n c : Nat) (ys : List Eg) (k0 : Int) (w : World) (ha : Rep.edge.Sl true lo hi w A n ys) (hn : n ≤ 1048576) (h0 : 0 ≤ k0) (h1 : k0 ≤ 4294967296) :
    Calls Try.prog 138 #[.slice A n c, .int .i64 k0] w fun e w' => e = .returned (.int .i64 (k0 + 5 * n)) ∧ Rep.edge.Sl true lo hi w' A n (mEdges k0 n) ∧ Only lo hi w w' := by
  by_cases hz : n = 0
  · subst hz
    go_enter Try.func138, Try.ntmps138
    go_wp2
    go_loop [1, 5] (fun q i => i = .int .i64 0 ∧ q = .int .i64 k0) (fun _ _ => 0)
    case atStart => exact ⟨rfl, rfl⟩
    case round =>
      obtain ⟨rfl, rfl⟩ := hrel
      go_wp2
      go_ret
      exact ⟨by simp, Rep.Sl_nil _ _ _ _ _ _, Only.refl _ _ _⟩
  · obtain ⟨b, o, rfl, hb1, hb2, hR⟩ := Rep.edge_room ha (by omega)
    have HR0 := Lib.hid hR
    have HN : Hid (0 < n) := Lib.hid (by omega)
    clear ha hR hz
    go_enter Try.func138, Try.ntmps138
    go_wp2
    go_loopw [1, 5] (fun q i wr => ∃ k : Nat, k ≤ n ∧ i = .int .i64 k ∧ q = .int .i64 (k0 + 5 * k) ∧ Hid (Room wr b o (5 * n)) ∧ Hid (Marks wr b o (edgemark k0) (5 * k)) ∧ Hid (Only lo hi w wr)) (fun _ i _ => n - (intOf i).toNat)
    case atStart => exact ⟨0, Nat.zero_le _, rfl, by simp, HR0, Lib.hid (fun j hj => absurd hj (by omega)), Lib.hid (Only.refl _ _ _)⟩
    case round =>
      obtain ⟨k, hk, rfl, rfl, HR, HC, HO⟩ := hrel
      by_cases hlt : k < n
      · have hlt' : (k : Int) < n := by omega
        have e0 : o + 5 * k = o + k * 5 := by omega
        have e1 : o + (5 * k + 1) = o + k * 5 + 1 := by omega
        have e2 : o + (5 * k + 1 + 1) = o + k * 5 + 2 := by omega
        have e3 : o + (5 * k + 1 + 1 + 1) = o + k * 5 + 2 + 1 := by omega
        have e4 : o + (5 * k + 1 + 1 + 1 + 1) = o + k * 5 + 4 := by omega
        obtain ⟨v0, d0⟩ := HR.out.1 (5 * k) (by omega)
        rw [e0] at d0
        obtain ⟨v1, d1⟩ := HR.out.1 (5 * k + 1) (by omega)
        rw [e1] at d1
        obtain ⟨v2, d2⟩ := HR.out.1 (5 * k + 1 + 1) (by omega)
        rw [e2] at d2
        obtain ⟨v3, d3⟩ := HR.out.1 (5 * k + 1 + 1 + 1) (by omega)
        rw [e3] at d3
        obtain ⟨v4, d4⟩ := HR.out.1 (5 * k + 1 + 1 + 1 + 1) (by omega)
        rw [e4] at d4
        have f0 := HR.out.2 (o + k * 5)
        have f1 := HR.out.2 (o + k * 5 + 1)
        have f2 := HR.out.2 (o + k * 5 + 2)
        have f3 := HR.out.2 (o + k * 5 + 2 + 1)
        have f4 := HR.out.2 (o + k * 5 + 4)
        have HR1 := Lib.hid ((((((HR.out.set ⟨b, o + k * 5, none⟩ (.bool ((k0 + 5 * (k : Int)) % 3 == 0))).set ⟨b, o + k * 5 + 1, none⟩ (.int .i64 (k0 + 5 * (k : Int) + 1))).set ⟨b, o + k * 5 + 2, none⟩ (.bool ((k0 + 5 * (k : Int) + 1 + 1) % 3 == 0))).set ⟨b, o + k * 5 + 2 + 1, none⟩ (.int .i64 (k0 + 5 * (k : Int) + 1 + 1 + 1))).set ⟨b, o + k * 5 + 4, none⟩ (.int .i64 (k0 + 5 * (k : Int) + 1 + 1 + 1 + 1))))
        have HC1 : Hid (Marks ((((((wr.setCell ⟨b, o + k * 5, none⟩ (.bool ((k0 + 5 * (k : Int)) % 3 == 0))).setCell ⟨b, o + k * 5 + 1, none⟩ (.int .i64 (k0 + 5 * (k : Int) + 1))).setCell ⟨b, o + k * 5 + 2, none⟩ (.bool ((k0 + 5 * (k : Int) + 1 + 1) % 3 == 0))).setCell ⟨b, o + k * 5 + 2 + 1, none⟩ (.int .i64 (k0 + 5 * (k : Int) + 1 + 1 + 1))).setCell ⟨b, o + k * 5 + 4, none⟩ (.int .i64 (k0 + 5 * (k : Int) + 1 + 1 + 1 + 1)))) b o (edgemark k0) (5 * (k + 1))) := Lib.hid (by
          have c0 := HC.out
          have r0 := HR.out
          have c1 := c0.next r0 (by omega) (.bool ((k0 + 5 * (k : Int)) % 3 == 0)) (by rw [show 5 * k = k * 5 + 0 by omega, edgemark_at k0 k 0 (by omega)]; rfl)
          rw [e0] at c1
          have r1 := r0.set ⟨b, o + k * 5, none⟩ (.bool ((k0 + 5 * (k : Int)) % 3 == 0))
          have c2 := c1.next r1 (by omega) (.int .i64 (k0 + 5 * (k : Int) + 1)) (by rw [show 5 * k + 1 = k * 5 + 1 by omega, edgemark_at k0 k 1 (by omega)]; rfl)
          rw [e1] at c2
          have r2 := r1.set ⟨b, o + k * 5 + 1, none⟩ (.int .i64 (k0 + 5 * (k : Int) + 1))
          have c3 := c2.next r2 (by omega) (.bool ((k0 + 5 * (k : Int) + 1 + 1) % 3 == 0)) (by rw [show 5 * k + 1 + 1 = k * 5 + 2 by omega, edgemark_at k0 k 2 (by omega), show k0 + 5 * (k : Int) + 1 + 1 = k0 + 5 * (k : Int) + 2 by omega]; rfl)
          rw [e2] at c3
          have r3 := r2.set ⟨b, o + k * 5 + 2, none⟩ (.bool ((k0 + 5 * (k : Int) + 1 + 1) % 3 == 0))
          have c4 := c3.next r3 (by omega) (.int .i64 (k0 + 5 * (k : Int) + 1 + 1 + 1)) (by rw [show 5 * k + 1 + 1 + 1 = k * 5 + 3 by omega, edgemark_at k0 k 3 (by omega), show k0 + 5 * (k : Int) + 1 + 1 + 1 = k0 + 5 * (k : Int) + 3 by omega]; rfl)
          rw [e3] at c4
          have r4 := r3.set ⟨b, o + k * 5 + 2 + 1, none⟩ (.int .i64 (k0 + 5 * (k : Int) + 1 + 1 + 1))
          have c5 := c4.next r4 (by omega) (.int .i64 (k0 + 5 * (k : Int) + 1 + 1 + 1 + 1)) (by rw [show 5 * k + 1 + 1 + 1 + 1 = k * 5 + 4 by omega, edgemark_at k0 k 4 (by omega), show k0 + 5 * (k : Int) + 1 + 1 + 1 + 1 = k0 + 5 * (k : Int) + 4 by omega]; rfl)
          rw [e4] at c5
          exact c5)
        have HO1 := Lib.hid ((((((HO.out.set (p := ⟨b, o + k * 5, none⟩) hb1 hb2 (.bool ((k0 + 5 * (k : Int)) % 3 == 0))).set (p := ⟨b, o + k * 5 + 1, none⟩) hb1 hb2 (.int .i64 (k0 + 5 * (k : Int) + 1))).set (p := ⟨b, o + k * 5 + 2, none⟩) hb1 hb2 (.bool ((k0 + 5 * (k : Int) + 1 + 1) % 3 == 0))).set (p := ⟨b, o + k * 5 + 2 + 1, none⟩) hb1 hb2 (.int .i64 (k0 + 5 * (k : Int) + 1 + 1 + 1))).set (p := ⟨b, o + k * 5 + 4, none⟩) hb1 hb2 (.int .i64 (k0 + 5 * (k : Int) + 1 + 1 + 1 + 1))))
        clear HR HC HO e0 e1 e2 e3 e4
        go_wp2
        go_roundw
        case rel => exact ⟨k + 1, by omega, by go_num, by go_num, HR1, HC1, HO1⟩
        case measure => simp [intOf]; omega
      · obtain rfl : k = n := by omega
        go_wp2
        go_ret
        exact ⟨rfl, edge_of_marks HC.out HR.out hb1 hb2, HO.out⟩

theorem markEdgeS_F (A : Option Addr) (n c : Nat) (ys : List Eg) (bs : List Nat) (k0 : Int) (w : World) (ha : Rep.edge.FSl w A n ys bs) (hn : n ≤ 1048576) (h0 : 0 ≤ k0) (h1 : k0 ≤ 4294967296) :
    Calls Try.prog 138 #[.slice A n c, .int .i64 k0] w fun e w' => e = .returned (.int .i64 (k0 + 5 * n)) ∧ Rep.edge.FSl w' A n (mEdges k0 n) bs ∧ OnlyB bs w w' := by
  rcases ha with ⟨rfl, rfl, rfl⟩ | ⟨hp, b, rfl, hs⟩
  · refine (markEdgeS_any 0 0 A 0 c [] k0 w (Rep.Sl_nil _ _ _ _ _ _) hn h0 h1).mono ?_
    rintro e w2 ⟨rfl, _, ho⟩
    exact ⟨rfl, .inl ⟨rfl, rfl, rfl⟩, OnlyB.of_same ho⟩
  · refine (markEdgeS_any b (b + 1) A n c ys k0 w hs hn h0 h1).mono ?_
    rintro e w2 ⟨rfl, h2, ho⟩
    exact ⟨rfl, .inr ⟨hp, b, rfl, h2⟩, OnlyB.of_only ho (by simp)⟩

set_option maxRecDepth 100000 in
set_option maxHeartbeats 1600000 in
theorem heldEdgeS_yes (q : Bool) (lo hi : Nat) (A : Option Addr) (n c : Nat) (k0 : Int) (w : World) (ha : Rep.edge.Sl q lo hi w A n (mEdges k0 n)) (hn : n ≤ 1048576) (h0 : 0 ≤ k0) (h1 : k0 ≤ 8388608) :
    Calls Try.prog 139 #[.slice A n c, .int .i64 k0] w fun e w' => e = .returned (.int .i64 (k0 + 5 * n)) ∧ w' = w := by
  go_enter Try.func139, Try.ntmps139
  go_wp2
  go_loop [1, 5] (fun q i => ∃ k : Nat, k ≤ n ∧ i = .int .i64 k ∧ q = .int .i64 (k0 + 5 * k)) (fun _ i => n - (intOf i).toNat)
  case atStart => exact ⟨0, Nat.zero_le _, rfl, by simp⟩
  case round =>
    obtain ⟨k, hk, rfl, rfl⟩ := hrel
    by_cases hlt : k < n
    · obtain ⟨b, o, a, rfl, hya, c0, c1, c2, c3, c4⟩ := Rep.edge_at ha hlt
      rw [mEdges_at _ _ _ hlt] at hya
      injection hya with hya
      subst hya
      simp only [] at c0 c1 c2 c3 c4
      have hlt' : (k : Int) < n := by omega
      rw [show k0 + 5 * (k : Int) + 2 = k0 + 5 * (k : Int) + 1 + 1 by omega] at c2
      rw [show k0 + 5 * (k : Int) + 3 = k0 + 5 * (k : Int) + 1 + 1 + 1 by omega] at c3
      rw [show k0 + 5 * (k : Int) + 4 = k0 + 5 * (k : Int) + 1 + 1 + 1 + 1 by omega] at c4
      go_wp2
      go_round
      case rel => exact ⟨k + 1, by omega, by go_num, by go_num⟩
      case measure => simp [intOf]; omega
    · obtain rfl : k = n := by omega
      go_wp2
      go_ret
      exact ⟨rfl, rfl⟩


end Go.Proofs.Ytooogjfnnmacjaa
