/-
  What the laws' helpers do with slices of int64 and of links: toInt64S, toLinkS copy; eqInt64S, eqLinkS find like ones alike. No statement is proved here.
-/
import Derived.Test.YtiffhjofabaflaaRep
import Derived.Deep.RegionHeld3
namespace Go.Proofs.Ytiffhjofabaflaa
open Go.RowKit

theorem wordInfo : (Try.prog.info? 2).map (fun i => (i.zero, i.size, i.bytes)) = some (some (.int .i64 0), 1, 8) := by kernel_rfl
theorem linkInfo : (Try.prog.info? 278).map (fun i => (i.zero, i.size, i.bytes)) = some (some (.agg #[.int .i64 0, .int .i64 0, .int .i64 0, .int .i64 0]), 4, 32) := by kernel_rfl

/-- A link, as its four numbers. -/
structure Lnk where
  kind : Int
  to_ : Int
  own : Int
  cost : Int
def Rep.link : Rep Lnk where
  size := 4
  rel _ _ _ _ cs a := cs = [.int .i64 a.kind, .int .i64 a.to_, .int .i64 a.own, .int .i64 a.cost]
  len h := by rw [h]; rfl
  keep h _ := h
  mono h _ _ := h

theorem Rep.int_at {q : Bool} {lo hi : Nat} {w : World} {A : Option Addr} {n : Nat} {ys : List Int} (h : Rep.int.Sl q lo hi w A n ys) {k : Nat} (hk : k < n) :
    ∃ b o, A = some ⟨b, o, none⟩ ∧ w.cell? ⟨b, o + k, none⟩ = some (.int .i64 (ys.getD k 0)) := by
  obtain ⟨b, o, a, cs, e, ha, hr, hc⟩ := h.at_ hk
  have hr : cs = [.int .i64 a] := hr
  subst hr
  have := hc 0 _ rfl
  refine ⟨b, o, e, ?_⟩
  rw [show ys.getD k 0 = a by simp [List.getD, ha]]
  simpa [Rep.int] using this

theorem Rep.int_of_own {w : World} {B b n c : Nat} {ys : List Int} (h : w.ownsRow B 2 1 (.slice (some ⟨b, 0, none⟩) n c) n (ys.map (Value.int .i64))) (lo hi : Nat) (hlo : lo ≤ b) (hhi : b < hi) : Rep.int.Sl true lo hi w (some ⟨b, 0, none⟩) n ys := by
  have hl : ys.length = n := by simpa using h.1
  refine ⟨hl, fun hn => ⟨b, 0, rfl, hlo, hhi, fun _ i => World.ownsRow.frozenAt h i, fun i a ha => ⟨[.int .i64 a], rfl, fun j u hj => ?_⟩⟩⟩
  have hi' : i < n := by
    rcases Nat.lt_or_ge i ys.length with h' | h'
    · omega
    · rw [List.getElem?_eq_none h'] at ha; cases ha
  obtain rfl : j = 0 := by
    rcases j with _ | j
    · rfl
    · simp at hj
  have := World.ownsRow.cellAt h i (by omega)
  simp only [Rep.int, Nat.zero_add, Nat.mul_one, Nat.add_zero]
  rw [this, List.getElem?_map, ha]
  simpa using hj

set_option maxHeartbeats 400000 in
theorem toInt64S_any (q : Bool) (lo hi : Nat) (A : Option Addr) (n c : Nat) (ys : List Int) (w : World) (ha : Rep.int.Sl q lo hi w A n ys) (hh : hi ≤ w.heap.size) (hn : n ≤ 1048576) :
    Calls Try.prog 140 #[.slice A n c] w fun e w' => e = .returned (.slice (some ⟨w.heap.size, 0, none⟩) n n) ∧
      Rep.int.Sl true w.heap.size (w.heap.size + 1) w' (some ⟨w.heap.size, 0, none⟩) n ys ∧ w.heap.size < w'.heap.size ∧ Below w.heap.size w w' := by
  obtain ⟨i0, hi0, hz0, hz1, hz2⟩ := info_parts wordInfo
  go_enter Try.func140, Try.ntmps140
  go_wp2_with (at_make; refine wpList_make_full _ rfl _ _ 78 rfl w.heap.size 2 i0 (.int .i64 0) 1 Try.underlying78 hi0 hz0 hz1 .i64 .i64 _ _ n rfl rfl rfl rfl (by rw [hz2]; omega) (by unfold maxLen; omega) (Nat.le_refl _) ?_; intro w1 hown1 hg1)
  have hb1 := below_of_grown hg1
  clear hg1 hi0 hz0 hz1 hz2
  have e : (madeCells (Value.int IntKind.i64 0).cells (n * 1)).toList = (List.replicate n (0 : Int)).map (Value.int .i64) := by
    rw [List.map_replicate, Nat.mul_one]; exact toList_madeCells_one _ _
  rw [e] at hown1
  clear e
  obtain ⟨B, HB⟩ : ∃ B, Hid (B = w.heap.size) := ⟨_, Lib.hid rfl⟩
  rw [← HB.out] at hown1 hb1 ⊢
  go_loopw [4] (fun i wr => ∃ k : Nat, k ≤ n ∧ i = .int .i64 k ∧ ∃ zs : List Int, wr.ownsRow B 2 1 (.slice (some ⟨B, 0, none⟩) n n) n (zs.map (Value.int .i64)) ∧ Below B w wr ∧ Hid (∀ j, j < k → zs.getD j 0 = ys.getD j 0))
    (fun i _ => n - (intOf i).toNat)
  case atStart => exact ⟨0, Nat.zero_le _, rfl, _, hown1, hb1, fun j hj => absurd hj (by omega)⟩
  case round =>
    obtain ⟨k, hk, rfl, zs, hown, hbw, HS⟩ := hrel
    by_cases hlt : k < n
    · obtain ⟨b, o, rfl, hca⟩ := Rep.int_at (ha.below (by rw [← HB.out]; exact hbw) hh) hlt
      have hlt' : (k : Int) < n := by omega
      have hl : zs.length = n := by simpa using hown.1
      have hc : wr.cell? ⟨B, k, none⟩ = some (.int .i64 (zs.getD k 0)) := by
        rw [World.ownsRow.cellAt hown k (by omega), List.getElem?_map, List.getElem?_eq_getElem (by omega)]
        simp [List.getD, (show k < zs.length by omega)]
      have hf := World.ownsRow.frozenAt hown k
      obtain ⟨hown', hg'⟩ := World.ownsRow.stored hown k (.int .i64 (ys.getD k 0))
      rw [← List.map_set] at hown'
      have HL := Lib.hid hl
      have HO := Lib.hid hown'
      obtain ⟨y, hy⟩ : ∃ y, ys.getD k 0 = y := ⟨_, rfl⟩
      rw [hy] at hca HO
      have HY := Lib.hid hy
      clear hl hown hown' hy hg'
      go_wp2
      go_roundw
      case rel => exact ⟨k + 1, by omega, by go_num, _, HO.out, hbw.setCell (Nat.le_refl _) _, fun j hj => by
        rw [getD_set _ _ _ _ (by have := HL.out; omega)]
        by_cases e : j = k
        · subst e; rw [if_pos rfl, HY.out]
        · rw [if_neg e]; exact HS.out j (by omega)⟩
      case measure => simp [intOf]; omega
    · have HO := Lib.hid hown
      have hl : zs.length = n := by simpa using hown.1
      have e : zs = ys := take_eq_all hl ha.1 (fun i hi => HS.out i (by omega))
      subst e
      clear hown hl
      go_wp2
      go_ret
      obtain rfl := HB.out
      have hr := Rep.int_of_own HO.out w.heap.size (w.heap.size + 1) (Nat.le_refl _) (by omega)
      have hlt2 : w.heap.size < wr.heap.size := (World.ownsRow.lt HO.out w.heap.size rfl).2
      exact ⟨rfl, hr, hlt2, hbw⟩

theorem Rep.link_at {q : Bool} {lo hi : Nat} {w : World} {A : Option Addr} {n : Nat} {ys : List Lnk} (h : Rep.link.Sl q lo hi w A n ys) {k : Nat} (hk : k < n) :
    ∃ b o a, A = some ⟨b, o, none⟩ ∧ ys[k]? = some a ∧ w.cell? ⟨b, o + k * 4, none⟩ = some (.int .i64 a.kind) ∧ w.cell? ⟨b, o + k * 4 + 1, none⟩ = some (.int .i64 a.to_) ∧
      w.cell? ⟨b, o + k * 4 + 2, none⟩ = some (.int .i64 a.own) ∧ w.cell? ⟨b, o + k * 4 + 3, none⟩ = some (.int .i64 a.cost) := by
  obtain ⟨b, o, a, cs, e, ha, hr, hc⟩ := h.at_ hk
  have hr : cs = [.int .i64 a.kind, .int .i64 a.to_, .int .i64 a.own, .int .i64 a.cost] := hr
  subst hr
  exact ⟨b, o, a, e, ha, hc 0 _ rfl, hc 1 _ rfl, hc 2 _ rfl, hc 3 _ rfl⟩

theorem toLink_any (k t o c : Int) (w : World) :
    Calls Try.prog 238 #[.agg #[.int .i64 k, .int .i64 t, .int .i64 o, .int .i64 c]] w fun e w' => e = .returned (.agg #[.int .i64 k, .int .i64 t, .int .i64 o, .int .i64 c]) ∧ Below w.heap.size w w' := by
  go_enter Try.func238, Try.ntmps238
  go_wp2
  exact bodyPost_ret (v := .agg #[.int .i64 k, .int .i64 t, .int .i64 o, .int .i64 c]) (by simp [results, Try.results238, go_sem]) rfl ⟨rfl, (((Below.refl _ _).alloc (Nat.le_refl _) _).alloc (by simp) _).alloc (by simp; omega) _⟩

theorem toKey_any (t i a : Int) (w : World) :
    Calls Try.prog 75 #[.agg #[.int .i64 t, .int .i64 i, .int .i64 a]] w fun e w' => e = .returned (.agg #[.int .i64 t, .int .i64 i, .int .i64 a]) ∧ Below w.heap.size w w' := by
  go_enter Try.func75, Try.ntmps75
  go_wp2
  exact bodyPost_ret (v := .agg #[.int .i64 t, .int .i64 i, .int .i64 a]) (by simp [results, Try.results75, go_sem]) rfl ⟨rfl, (((Below.refl _ _).alloc (Nat.le_refl _) _).alloc (by simp) _).alloc (by simp; omega) _⟩

theorem own_some {w : World} {B g n c size j : Nat} {e : TypeId} {xs : List Value} (h : w.ownsRow B e size (.slice (some ⟨g, 0, none⟩) n c) n xs) (hj : j < n * size) : ∃ v, w.cell? ⟨g, j, none⟩ = some v := by
  have hl := h.1
  exact ⟨xs[j]'(by omega), by rw [World.ownsRow.cellAt h j hj, List.getElem?_eq_getElem (by omega)]⟩

/-- The cells of links. -/
def linkCells (ys : List Lnk) : List Value := ys.flatMap fun a => [.int .i64 a.kind, .int .i64 a.to_, .int .i64 a.own, .int .i64 a.cost]

set_option maxHeartbeats 800000 in
theorem toLinkS_any (q : Bool) (lo hi : Nat) (A : Option Addr) (n c : Nat) (ys : List Lnk) (w : World) (ha : Rep.link.Sl q lo hi w A n ys) (hh : hi ≤ w.heap.size) (hn : n ≤ 1048576) :
    Calls Try.prog 212 #[.slice A n c] w fun e w' => e = .returned (.slice (some ⟨w.heap.size, 0, none⟩) n n) ∧
      Rep.link.Sl true w.heap.size (w.heap.size + 1) w' (some ⟨w.heap.size, 0, none⟩) n ys ∧ w.heap.size < w'.heap.size ∧ Below w.heap.size w w' := by
  obtain ⟨i0, hi0, hz0, hz1, hz2⟩ := info_parts linkInfo
  go_enter Try.func212, Try.ntmps212
  go_wp2_with (at_make; refine wpList_make_full _ rfl _ _ 121 rfl w.heap.size 278 i0 _ 4 Try.underlying121 hi0 hz0 hz1 .i64 .i64 _ _ n rfl rfl rfl rfl (by rw [hz2]; omega) (by unfold maxLen; omega) (Nat.le_refl _) ?_; intro w1 hown1 hg1)
  have hb1 := below_of_grown hg1
  clear hg1 hi0 hz0 hz1 hz2
  obtain ⟨B, HB⟩ : ∃ B, Hid (B = w.heap.size) := ⟨_, Lib.hid rfl⟩
  rw [← HB.out] at hown1 hb1 ⊢
  go_loopw [4] (fun i wr => ∃ k : Nat, k ≤ n ∧ i = .int .i64 k ∧ ∃ xs : List Value, wr.ownsRow B 278 4 (.slice (some ⟨B, 0, none⟩) n n) n xs ∧ Below B w wr ∧
      Hid (∀ j a, j < k → ys[j]? = some a → xs[j * 4]? = some (.int .i64 a.kind) ∧ xs[j * 4 + 1]? = some (.int .i64 a.to_) ∧ xs[j * 4 + 2]? = some (.int .i64 a.own) ∧ xs[j * 4 + 3]? = some (.int .i64 a.cost)))
    (fun i _ => n - (intOf i).toNat)
  case atStart => exact ⟨0, Nat.zero_le _, rfl, _, hown1, hb1, fun j a hj => absurd hj (by omega)⟩
  case round =>
    obtain ⟨k, hk, rfl, xs, hown, hbw, HS⟩ := hrel
    by_cases hlt : k < n
    · obtain ⟨b, o, a, rfl, hya, ca0, ca1, ca2, ca3⟩ := Rep.link_at (ha.below (by rw [← HB.out]; exact hbw) hh) hlt
      have hlt' : (k : Int) < n := by omega
      have HYA := Lib.hid hya
      clear hya
      go_wp2_with fail
      refine (toLink_any _ _ _ _ _).mono ?_
      rintro e w2 ⟨rfl, hb2⟩
      have hown2 : w2.ownsRow B 278 4 (.slice (some ⟨B, 0, none⟩) n n) n xs := World.ownsRow.kept hown (grownBy_of_below hb2 none) (by simp [Value.ownBlock])
      have hbw2 : Below B w w2 := hbw.trans (hb2.mono (Nat.le_of_lt (World.ownsRow.lt hown B rfl).2))
      have hl : xs.length = n * 4 := hown2.1
      have h4 : k * 4 + 3 < n * 4 := by omega
      obtain ⟨v0, d0⟩ := own_some hown2 (j := k * 4) (by omega)
      obtain ⟨v1, d1⟩ := own_some hown2 (j := k * 4 + 1) (by omega)
      obtain ⟨v2, d2⟩ := own_some hown2 (j := k * 4 + 2) (by omega)
      obtain ⟨v3, d3⟩ := own_some hown2 (j := k * 4 + 3) (by omega)
      have f0 := World.ownsRow.frozenAt hown2 (k * 4)
      have f1 := World.ownsRow.frozenAt hown2 (k * 4 + 1)
      have f2 := World.ownsRow.frozenAt hown2 (k * 4 + 2)
      have f3 := World.ownsRow.frozenAt hown2 (k * 4 + 3)
      obtain ⟨s1, _⟩ := World.ownsRow.stored hown2 (k * 4) (.int .i64 a.kind)
      obtain ⟨s2, _⟩ := World.ownsRow.stored s1 (k * 4 + 1) (.int .i64 a.to_)
      obtain ⟨s3, _⟩ := World.ownsRow.stored s2 (k * 4 + 2) (.int .i64 a.own)
      obtain ⟨s4, _⟩ := World.ownsRow.stored s3 (k * 4 + 3) (.int .i64 a.cost)
      have HO := Lib.hid s4
      have HL := Lib.hid hl
      have HBW := Lib.hid hbw2
      clear s1 s2 s3 s4 hl hbw2 hown hown2 hbw hb2
      go_wp2
      go_roundw
      case rel =>
        refine ⟨k + 1, by omega, by go_num, _, HO.out, (((HBW.out.setCell (Nat.le_refl _) _).setCell (Nat.le_refl _) _).setCell (Nat.le_refl _) _).setCell (Nat.le_refl _) _, fun j x hj hx => ?_⟩
        have hl := HL.out
        by_cases e : j = k
        · subst e
          have hax : x = a := by have := HYA.out; rw [hx] at this; injection this
          subst hax
          refine ⟨?_, ?_, ?_, ?_⟩ <;> simp only [List.getElem?_set, List.length_set]
          · rw [if_neg (by omega), if_neg (by omega), if_neg (by omega), if_pos trivial, if_pos (by omega)]
          · rw [if_neg (by omega), if_neg (by omega), if_pos trivial, if_pos (by omega)]
          · rw [if_neg (by omega), if_pos trivial, if_pos (by omega)]
          · rw [if_pos trivial, if_pos (by omega)]
        · obtain ⟨e0, e1, e2, e3⟩ := HS.out j x (by omega) hx
          refine ⟨?_, ?_, ?_, ?_⟩ <;> simp only [List.getElem?_set, List.length_set]
          · rw [if_neg (by omega), if_neg (by omega), if_neg (by omega), if_neg (by omega)]; exact e0
          · rw [if_neg (by omega), if_neg (by omega), if_neg (by omega), if_neg (by omega)]; exact e1
          · rw [if_neg (by omega), if_neg (by omega), if_neg (by omega), if_neg (by omega)]; exact e2
          · rw [if_neg (by omega), if_neg (by omega), if_neg (by omega), if_neg (by omega)]; exact e3
      case measure => simp [intOf]; omega
    · have HO := Lib.hid hown
      have hlen := ha.1
      clear hown
      go_wp2
      go_ret
      obtain rfl := HB.out
      have hlt2 : w.heap.size < wr.heap.size := (World.ownsRow.lt HO.out w.heap.size rfl).2
      refine ⟨rfl, ⟨hlen, fun _ => ⟨w.heap.size, 0, rfl, Nat.le_refl _, by omega, fun _ i => World.ownsRow.frozenAt HO.out i, fun i a hi' => ?_⟩⟩, hlt2, hbw⟩
      have hin : i < n := by
        rcases Nat.lt_or_ge i ys.length with h' | h'
        · omega
        · rw [List.getElem?_eq_none h'] at hi'; cases hi'
      obtain ⟨e0, e1, e2, e3⟩ := HS.out i a (by omega) hi'
      refine ⟨[.int .i64 a.kind, .int .i64 a.to_, .int .i64 a.own, .int .i64 a.cost], rfl, fun j u hj => ?_⟩
      have hj4 : j < 4 := by
        rcases Nat.lt_or_ge j 4 with h' | h'
        · exact h'
        · rw [List.getElem?_eq_none (by simpa using h')] at hj; cases hj
      have hc := World.ownsRow.cellAt HO.out (i * 4 + j) (by omega)
      show wr.cell? ⟨w.heap.size, 0 + i * 4 + j, none⟩ = some u
      rw [Nat.zero_add, hc, ← hj]
      rcases (show j = 0 ∨ j = 1 ∨ j = 2 ∨ j = 3 by omega) with rfl | rfl | rfl | rfl
      · exact e0
      · exact e1
      · exact e2
      · exact e3

theorem eqLink_yes (k t o c : Int) (w : World) :
    Calls Try.prog 240 #[.agg #[.int .i64 k, .int .i64 t, .int .i64 o, .int .i64 c], .agg #[.int .i64 k, .int .i64 t, .int .i64 o, .int .i64 c]] w fun e w' => e = .returned (.bool true) ∧ Below w.heap.size w w' := by
  go_enter Try.func240, Try.ntmps240
  go_wp2
  go_ret
  exact ⟨rfl, ((Below.refl _ _).alloc (Nat.le_refl _) _).alloc (by simp) _⟩

theorem eqKey_yes (t i a : Int) (w : World) :
    Calls Try.prog 150 #[.agg #[.int .i64 t, .int .i64 i, .int .i64 a], .agg #[.int .i64 t, .int .i64 i, .int .i64 a]] w fun e w' => e = .returned (.bool true) ∧ Below w.heap.size w w' := by
  go_enter Try.func150, Try.ntmps150
  go_wp2
  go_ret
  exact ⟨rfl, ((Below.refl _ _).alloc (Nat.le_refl _) _).alloc (by simp) _⟩

set_option maxHeartbeats 400000 in
theorem eqInt64S_yes (q1 q2 : Bool) (l1 h1 l2 h2 : Nat) (A B : Option Addr) (n c d : Nat) (ys : List Int) (w : World) (ha : Rep.int.Sl q1 l1 h1 w A n ys) (hb : Rep.int.Sl q2 l2 h2 w B n ys) (hn : n ≤ 1048576) :
    Calls Try.prog 141 #[.slice A n c, .slice B n d] w fun e w' => e = .returned (.bool true) ∧ Below w.heap.size w w' := by
  go_enter Try.func141, Try.ntmps141
  go_wp2
  go_loopw [5] (fun i wr => ∃ k : Nat, k ≤ n ∧ i = .int .i64 k ∧ ∃ q, wr = w.drewN q) (fun i _ => n - (intOf i).toNat)
  case atStart => exact ⟨0, Nat.zero_le _, rfl, 0, rfl⟩
  case round =>
    obtain ⟨k, hk, rfl, q, rfl⟩ := hrel
    by_cases hlt : k < n
    · obtain ⟨b, o, rfl, hca⟩ := Rep.int_at ha hlt
      obtain ⟨b', o', rfl, hcb⟩ := Rep.int_at hb hlt
      have hlt' : (k : Int) < n := by omega
      obtain ⟨y, hy⟩ : ∃ y, ys.getD k 0 = y := ⟨_, rfl⟩
      rw [hy] at hca hcb
      clear hy
      go_wp2
      go_quiet (fail)
      go_wp2
      go_roundw
      case rel => exact ⟨k + 1, by omega, by go_num, _, rfl⟩
      case measure => simp [intOf]; omega
    · go_wp2
      go_ret
      exact ⟨rfl, below_drewN (Below.refl _ _) _⟩

set_option maxHeartbeats 1600000 in
theorem eqLinkS_yes (q1 q2 : Bool) (l1 h1 l2 h2 : Nat) (A B : Option Addr) (n c d : Nat) (ys : List Lnk) (w : World) (ha : Rep.link.Sl q1 l1 h1 w A n ys) (hb : Rep.link.Sl q2 l2 h2 w B n ys) (hh1 : h1 ≤ w.heap.size) (hh2 : h2 ≤ w.heap.size) (hn : n ≤ 1048576) :
    Calls Try.prog 218 #[.slice A n c, .slice B n d] w fun e w' => e = .returned (.bool true) ∧ Below w.heap.size w w' := by
  go_enter Try.func218, Try.ntmps218
  go_wp2
  go_loopw [5] (fun i wr => ∃ k : Nat, k ≤ n ∧ i = .int .i64 k ∧ Hid (Below w.heap.size w wr)) (fun i _ => n - (intOf i).toNat)
  case atStart => exact ⟨0, Nat.zero_le _, rfl, Below.refl _ _⟩
  case round =>
    obtain ⟨k, hk, rfl, HB⟩ := hrel
    by_cases hlt : k < n
    · obtain ⟨b, o, a, rfl, hya, a0, a1, a2, a3⟩ := Rep.link_at (ha.below HB.out hh1) hlt
      obtain ⟨b', o', a', rfl, hya', b0, b1, b2, b3⟩ := Rep.link_at (hb.below HB.out hh2) hlt
      obtain rfl : a' = a := by rw [hya] at hya'; injection hya' with e; exact e.symm
      have hlt' : (k : Int) < n := by omega
      clear hya hya'
      have SB : Hid (∀ W, Hid (Below wr.heap.size wr W) → (fun W => W.cell? ⟨b, o + k * 4, none⟩ = some (.int .i64 a'.kind) ∧ W.cell? ⟨b, o + k * 4 + 1, none⟩ = some (.int .i64 a'.to_) ∧ W.cell? ⟨b, o + k * 4 + 2, none⟩ = some (.int .i64 a'.own) ∧ W.cell? ⟨b, o + k * 4 + 3, none⟩ = some (.int .i64 a'.cost) ∧ W.cell? ⟨b', o' + k * 4, none⟩ = some (.int .i64 a'.kind) ∧ W.cell? ⟨b', o' + k * 4 + 1, none⟩ = some (.int .i64 a'.to_) ∧ W.cell? ⟨b', o' + k * 4 + 2, none⟩ = some (.int .i64 a'.own) ∧ W.cell? ⟨b', o' + k * 4 + 3, none⟩ = some (.int .i64 a'.cost)) W) := fun W h => ⟨(h.out.cell (World.block_lt_of_cell? wr _ a0)).trans a0, (h.out.cell (World.block_lt_of_cell? wr _ a1)).trans a1, (h.out.cell (World.block_lt_of_cell? wr _ a2)).trans a2, (h.out.cell (World.block_lt_of_cell? wr _ a3)).trans a3, (h.out.cell (World.block_lt_of_cell? wr _ b0)).trans b0, (h.out.cell (World.block_lt_of_cell? wr _ b1)).trans b1, (h.out.cell (World.block_lt_of_cell? wr _ b2)).trans b2, (h.out.cell (World.block_lt_of_cell? wr _ b3)).trans b3⟩
      have V0 : Hid (Below wr.heap.size wr wr.drew) := (Below.refl _ _).drew
      clear a0 a1 a2 a3 b0 b1 b2 b3
      go_wp2
      go_region_held3 (fun W => W.cell? ⟨b, o + k * 4, none⟩ = some (.int .i64 a'.kind) ∧ W.cell? ⟨b, o + k * 4 + 1, none⟩ = some (.int .i64 a'.to_) ∧ W.cell? ⟨b, o + k * 4 + 2, none⟩ = some (.int .i64 a'.own) ∧ W.cell? ⟨b, o + k * 4 + 3, none⟩ = some (.int .i64 a'.cost) ∧ W.cell? ⟨b', o' + k * 4, none⟩ = some (.int .i64 a'.kind) ∧ W.cell? ⟨b', o' + k * 4 + 1, none⟩ = some (.int .i64 a'.to_) ∧ W.cell? ⟨b', o' + k * 4 + 2, none⟩ = some (.int .i64 a'.own) ∧ W.cell? ⟨b', o' + k * 4 + 3, none⟩ = some (.int .i64 a'.cost)) (exact SB.out _ (by assumption))
        (first | (go_at_call 240; refine (eqLink_yes _ _ _ _ _).mono ?_; rintro e u ⟨rfl, hbu⟩; have U0 := Lib.hid (below_step V0.out hbu); clear hbu))
      have HU := Lib.hid (below_step HB.out U0.out)
      clear SB V0 U0 HB
      go_wp2
      go_roundw
      case rel => exact ⟨k + 1, by omega, by go_num, HU⟩
      case measure => simp [intOf]; omega
    · go_wp2
      go_ret
      exact ⟨rfl, HB.out⟩

end Go.Proofs.Ytiffhjofabaflaa
