/-
  The words of the three bodies. No statement is proved here.
-/
import Derived.Test.YtamclkjofojhmaaWords
namespace Go.Proofs.Ytamclkjofojhmaa
open Go.RowKit

def linkWords (a : Lnk) : List (Int × Int) := [(a.to_, 4), (a.own, 4), (a.kind, 1), (0, 1), (a.cost, 2)]
def rWords (ys : List Lnk) : List (Int × Int) := [(0, 2), ((ys.length : Int), 2)] ++ ys.flatMap linkWords
def nWords (mask : Int) (ys : List Int) : List (Int × Int) := [(mask, 4)] ++ ys.map fun r => (r, 4)
def sWords (mask cost : Int) : List (Int × Int) := [(mask, 4), (0, 1), (cost, 3)]

/-- A row that was just made. -/
theorem OwnF.lit {α : Type} {size : Nat} {f : α → List Value} (hf : ∀ a, (f a).length = size) (w : World) (cs : Array Value) (t : TypeId) (ys : List α) (hc : cs.toList = ys.flatMap f) (hm : ys.length ≤ maxLen) {B : Nat} (hB : B ≤ w.heap.size) : OwnF t size f (w.alloc (.cells cs t)) B (some ⟨w.heap.size, 0, none⟩) ys.length ys.length ys :=
  ⟨rfl, by
    have hs : cs.size = ys.length * size := by rw [← Array.length_toList, hc, flat_len hf]
    have := World.ownsRow_lit (base := B) (e := t) (size := size) w cs ys.length hB hm hs
    rw [hc] at this
    exact this⟩

set_option maxRecDepth 100000 in
set_option maxHeartbeats 1600000 in
theorem words_1 (q : Bool) (lo hi : Nat) (A : Option Addr) (n c : Nat) (ys : List Lnk) (w : World) (ha : Rep.link.Sl q lo hi w A n ys) (hh : hi ≤ w.heap.size) (hn : n ≤ 8) :
    Calls Try.prog 154 #[.agg #[.slice A n c]] w fun e w' => ∃ B k d, e = .returned (.slice B k d) ∧ OwnF 122 2 wcell w' w.heap.size B k d (rWords ys) ∧ Below w.heap.size w w' := by
  obtain ⟨V0, hV0⟩ : ∃ W : World, W = w.alloc (.cells #[.slice A n c] 133) := ⟨_, rfl⟩
  obtain ⟨V1, hV1⟩ : ∃ W : World, W = V0.alloc (.cells #[.int .i64 0, .int .i64 2, .int .i64 n, .int .i64 2] 122) := ⟨_, rfl⟩
  have hs0 : V0.heap.size = w.heap.size + 1 := by rw [hV0]; simp
  have hb0 : Below w.heap.size w V0 := by rw [hV0]; exact (Below.refl _ _).alloc (Nat.le_refl _) _
  have hb1 : Below V0.heap.size V0 V1 := by rw [hV1]; exact (Below.refl _ _).alloc (Nat.le_refl _) _
  have HB1 := Lib.hid (below_step hb0 hb1)
  have HA := Lib.hid ha
  have HL := Lib.hid ha.1
  have ho1 : OwnF 122 2 wcell V1 w.heap.size (some ⟨w.heap.size + 1, 0, none⟩) 2 2 ([(0, 2), ((n : Int), 2)] ++ (ys.take 0).flatMap linkWords) := by
    rw [hV1, ← hs0]; exact OwnF.lit wcell_len V0 _ _ [(0, 2), ((n : Int), 2)] rfl (by simp [maxLen]) (by omega)
  have HO1 := Lib.hid ho1
  clear ha hb0 hb1 ho1
  go_enter Try.func154, Try.ntmps154
  go_wp2
  rw [← hV0, ← hV1]
  clear hV0 hV1 hs0
  obtain ⟨B0, hB0⟩ : ∃ B0, B0 = w.heap.size := ⟨_, rfl⟩
  have HB0 := Lib.hid hB0
  clear hB0
  go_loopw [3, 15] (fun v i wr => ∃ k : Nat, k ≤ n ∧ i = .int .i64 k ∧ ∃ B m d, v = .slice B m d ∧ Hid (OwnF 122 2 wcell wr w.heap.size B m d ([(0, 2), ((n : Int), 2)] ++ (ys.take k).flatMap linkWords)) ∧ Hid (m = 2 + 5 * k) ∧ Hid (Below w.heap.size w wr)) (fun _ i _ => n - (intOf i).toNat)
  case atStart => exact ⟨0, Nat.zero_le _, rfl, _, 2, 2, rfl, HO1, Lib.hid rfl, HB1⟩
  case round =>
    obtain ⟨k, hk, rfl, B, m, d, rfl, HO, HM, HB⟩ := hrel
    by_cases hlt : k < n
    · obtain ⟨b, o, a, rfl, hya, a0, a1, a2, a3⟩ := Rep.link_at (HA.out.below HB.out hh) hlt
      have hlt' : (k : Int) < n := by omega
      have HT : Hid ((ys.take (k + 1)).flatMap linkWords = (ys.take k).flatMap linkWords ++ linkWords a) := Lib.hid (by
        have hkl : k < ys.length := by have := HL.out; omega
        have e : ys[k] = a := by rw [List.getElem?_eq_getElem hkl] at hya; injection hya
        rw [List.take_succ_eq_append_getElem hkl, e, List.flatMap_append]; simp)
      clear hya
      obtain ⟨z0, z1, z2, z3⟩ := a
      simp only [] at a0 a1 a2 a3
      obtain ⟨U1, hU1⟩ : ∃ W : World, W = wr.alloc (.cells #[.int .i64 z0, .int .i64 z1, .int .i64 z2, .int .i64 z3] 101) := ⟨_, rfl⟩
      obtain ⟨U2, hU2⟩ : ∃ W : World, W = U1.alloc (.cells #[.int .i64 z1, .int .i64 4, .int .i64 z2, .int .i64 4, .int .i64 z0, .int .i64 1, .int .i64 0, .int .i64 1, .int .i64 z3, .int .i64 2] 122) := ⟨_, rfl⟩
      have hs1 : U1.heap.size = wr.heap.size + 1 := by rw [hU1]; simp
      have hb1 : Below wr.heap.size wr U1 := by rw [hU1]; exact (Below.refl _ _).alloc (Nat.le_refl _) _
      have hb2 : Below U1.heap.size U1 U2 := by rw [hU2]; exact (Below.refl _ _).alloc (Nat.le_refl _) _
      have HE : Hid (InF 2 wcell U2 (some ⟨wr.heap.size + 1, 0, none⟩) 5 (linkWords ⟨z0, z1, z2, z3⟩)) := Lib.hid (by
        have hx : Box U2 U1.heap.size 122 #[.int .i64 z1, .int .i64 4, .int .i64 z2, .int .i64 4, .int .i64 z0, .int .i64 1, .int .i64 0, .int .i64 1, .int .i64 z3, .int .i64 2] := by rw [hU2]; exact Box.made _ _ _
        rw [← hs1]
        exact hx.inF (linkWords ⟨z0, z1, z2, z3⟩) rfl)
      have HO2 := Lib.hid ((HO.out.below hb1).below hb2)
      have HB2 := Lib.hid (below_step (below_step HB.out hb1) hb2)
      have HO3 : Hid (OwnF 122 2 wcell ((wr.alloc (.cells #[.int .i64 z0, .int .i64 z1, .int .i64 z2, .int .i64 z3] 101)).alloc (.cells #[.int .i64 z1, .int .i64 4, .int .i64 z2, .int .i64 4, .int .i64 z0, .int .i64 1, .int .i64 0, .int .i64 1, .int .i64 z3, .int .i64 2] 122)) w.heap.size B m d ([(0, 2), ((n : Int), 2)] ++ (ys.take k).flatMap linkWords)) := Lib.hid (by rw [← hU1, ← hU2]; exact HO2.out)
      have HE3 : Hid (InF 2 wcell ((wr.alloc (.cells #[.int .i64 z0, .int .i64 z1, .int .i64 z2, .int .i64 z3] 101)).alloc (.cells #[.int .i64 z1, .int .i64 4, .int .i64 z2, .int .i64 4, .int .i64 z0, .int .i64 1, .int .i64 0, .int .i64 1, .int .i64 z3, .int .i64 2] 122)) (some ⟨wr.heap.size + 1, 0, none⟩) 5 (linkWords ⟨z0, z1, z2, z3⟩)) := Lib.hid (by rw [← hU1, ← hU2]; exact HE.out)
      have HU : Hid (U2 = (wr.alloc (.cells #[.int .i64 z0, .int .i64 z1, .int .i64 z2, .int .i64 z3] 101)).alloc (.cells #[.int .i64 z1, .int .i64 4, .int .i64 z2, .int .i64 4, .int .i64 z0, .int .i64 1, .int .i64 0, .int .i64 1, .int .i64 z3, .int .i64 2] 122)) := Lib.hid (by rw [hU2, hU1])
      have hm8 : m + 5 ≤ 1048576 := by have := HM.out; omega
      clear hU1 hU2 hs1 hb1 hb2 HO HB
      go_wp2_with (at_builtin; refine wpList_appF wcell_len wcell_one Try.underlying119 wordInfo2 rfl (by decide) (by decide) rfl (.tmp 19) (.tmp 33) rfl rfl HO3.out rfl (by omega) HE3.out hm8 (by rw [← HU.out]; exact HB2.out.size) ?_; intro A' c' w2 ho2 hg2)
      go_roundw
      case rel =>
        rw [← HU.out] at hg2
        have hblk := HO2.out.block
        refine ⟨k + 1, by omega, by go_num, A', _, c', rfl, Lib.hid ?_, Lib.hid (by have := HM.out; omega), Lib.hid ?_⟩
        · rw [HT.out, ← List.append_assoc]; exact ho2
        · exact HB2.out.grown hg2 HB2.out.size (fun r hr => (hblk r hr).1)
      case measure => simp [intOf]; omega
    · go_wp2
      go_ret
      obtain rfl : k = n := by omega
      have e : ys.take k = ys := List.take_of_length_le (by rw [HL.out]; omega)
      have ho := HO.out
      rw [e] at ho
      exact ⟨B, m, d, rfl, by unfold rWords; rw [HL.out]; exact ho, HB.out⟩

set_option maxRecDepth 100000 in
set_option maxHeartbeats 1600000 in
theorem words_2 (q : Bool) (lo hi : Nat) (A : Option Addr) (n c : Nat) (x : Int) (ys : List Int) (w : World) (ha : Rep.int.Sl q lo hi w A n ys) (hh : hi ≤ w.heap.size) (hn : n ≤ 8) :
    Calls Try.prog 155 #[.agg #[.int .i64 x, .slice A n c]] w fun e w' => ∃ B k d, e = .returned (.slice B k d) ∧ OwnF 122 2 wcell w' w.heap.size B k d (nWords x ys) ∧ Below w.heap.size w w' := by
  obtain ⟨V0, hV0⟩ : ∃ W : World, W = w.alloc (.cells #[.int .i64 x, .slice A n c] 135) := ⟨_, rfl⟩
  obtain ⟨V1, hV1⟩ : ∃ W : World, W = V0.alloc (.cells #[.int .i64 x, .int .i64 4] 122) := ⟨_, rfl⟩
  have hs0 : V0.heap.size = w.heap.size + 1 := by rw [hV0]; simp
  have hb0 : Below w.heap.size w V0 := by rw [hV0]; exact (Below.refl _ _).alloc (Nat.le_refl _) _
  have hb1 : Below V0.heap.size V0 V1 := by rw [hV1]; exact (Below.refl _ _).alloc (Nat.le_refl _) _
  have HB1 := Lib.hid (below_step hb0 hb1)
  have HA := Lib.hid ha
  have HL := Lib.hid ha.1
  have ho1 : OwnF 122 2 wcell V1 w.heap.size (some ⟨w.heap.size + 1, 0, none⟩) 1 1 ([(x, 4)] ++ (ys.take 0).map (fun r => ((r, 4) : Int × Int))) := by
    rw [hV1, ← hs0]; exact OwnF.lit wcell_len V0 _ _ [(x, 4)] rfl (by simp [maxLen]) (by omega)
  have HO1 := Lib.hid ho1
  clear ha hb0 hb1 ho1
  go_enter Try.func155, Try.ntmps155
  go_wp2
  rw [← hV0, ← hV1]
  clear hV0 hV1 hs0
  obtain ⟨B0, hB0⟩ : ∃ B0, B0 = w.heap.size := ⟨_, rfl⟩
  have HB0 := Lib.hid hB0
  clear hB0
  go_loopw [3, 13] (fun v i wr => ∃ k : Nat, k ≤ n ∧ i = .int .i64 k ∧ ∃ B m d, v = .slice B m d ∧ Hid (OwnF 122 2 wcell wr w.heap.size B m d ([(x, 4)] ++ (ys.take k).map (fun r => ((r, 4) : Int × Int)))) ∧ Hid (m = 1 + k) ∧ Hid (Below w.heap.size w wr)) (fun _ i _ => n - (intOf i).toNat)
  case atStart => exact ⟨0, Nat.zero_le _, rfl, _, 1, 1, rfl, HO1, Lib.hid rfl, HB1⟩
  case round =>
    obtain ⟨k, hk, rfl, B, m, d, rfl, HO, HM, HB⟩ := hrel
    by_cases hlt : k < n
    · obtain ⟨b, o, rfl, a0⟩ := Rep.int_at (HA.out.below HB.out hh) hlt
      obtain ⟨a, hya⟩ : ∃ a, ys.getD k 0 = a := ⟨_, rfl⟩
      rw [hya] at a0
      have hlt' : (k : Int) < n := by omega
      have HT : Hid ((ys.take (k + 1)).map (fun r => ((r, 4) : Int × Int)) = (ys.take k).map (fun r => ((r, 4) : Int × Int)) ++ [(a, 4)]) := Lib.hid (by
        have hkl : k < ys.length := by have := HL.out; omega
        have e : ys[k] = a := by simpa [List.getD, hkl] using hya
        rw [List.take_succ_eq_append_getElem hkl, e, List.map_append]; simp)
      clear hya
      obtain ⟨U2, hU2⟩ : ∃ W : World, W = wr.alloc (.cells #[.int .i64 a, .int .i64 4] 122) := ⟨_, rfl⟩
      have hb2 : Below wr.heap.size wr U2 := by rw [hU2]; exact (Below.refl _ _).alloc (Nat.le_refl _) _
      have HE : Hid (InF 2 wcell U2 (some ⟨wr.heap.size, 0, none⟩) 1 [(a, 4)]) := Lib.hid (by
        have hx : Box U2 wr.heap.size 122 #[.int .i64 a, .int .i64 4] := by rw [hU2]; exact Box.made _ _ _
        exact hx.inF [(a, 4)] rfl)
      have HO2 := Lib.hid (HO.out.below hb2)
      have HB2 := Lib.hid (below_step HB.out hb2)
      have HO3 : Hid (OwnF 122 2 wcell (wr.alloc (.cells #[.int .i64 a, .int .i64 4] 122)) w.heap.size B m d ([(x, 4)] ++ (ys.take k).map (fun r => ((r, 4) : Int × Int)))) := Lib.hid (by rw [← hU2]; exact HO2.out)
      have HE3 : Hid (InF 2 wcell (wr.alloc (.cells #[.int .i64 a, .int .i64 4] 122)) (some ⟨wr.heap.size, 0, none⟩) 1 [(a, 4)]) := Lib.hid (by rw [← hU2]; exact HE.out)
      have HU : Hid (U2 = wr.alloc (.cells #[.int .i64 a, .int .i64 4] 122)) := Lib.hid (by rw [hU2])
      have hm8 : m + 1 ≤ 1048576 := by have := HM.out; omega
      clear hU2 hb2 HO HB
      go_wp2_with (at_builtin; refine wpList_appF wcell_len wcell_one Try.underlying119 wordInfo2 rfl (by decide) (by decide) rfl (.tmp 17) (.tmp 20) rfl rfl HO3.out rfl (by omega) HE3.out hm8 (by rw [← HU.out]; exact HB2.out.size) ?_; intro A' c' w2 ho2 hg2)
      go_roundw
      case rel =>
        rw [← HU.out] at hg2
        have hblk := HO2.out.block
        refine ⟨k + 1, by omega, by go_num, A', _, c', rfl, Lib.hid ?_, Lib.hid (by have := HM.out; omega), Lib.hid ?_⟩
        · rw [HT.out, ← List.append_assoc]; exact ho2
        · exact HB2.out.grown hg2 HB2.out.size (fun r hr => (hblk r hr).1)
      case measure => simp [intOf]; omega
    · go_wp2
      go_ret
      obtain rfl : k = n := by omega
      have e : ys.take k = ys := List.take_of_length_le (by rw [HL.out]; omega)
      have ho := HO.out
      rw [e] at ho
      exact ⟨B, m, d, rfl, by unfold nWords; exact ho, HB.out⟩

theorem words_3 (x y : Int) (w : World) :
    Calls Try.prog 156 #[.agg #[.int .i64 x, .int .i64 y]] w fun e w' => ∃ B k d, e = .returned (.slice B k d) ∧ OwnF 122 2 wcell w' w.heap.size B k d (sWords x y) ∧ Below w.heap.size w w' := by
  go_enter Try.func156, Try.ntmps156
  go_wp2
  go_ret
  refine ⟨some ⟨w.heap.size + 1, 0, none⟩, 3, 3, rfl, ?_, ((Below.refl _ _).alloc (Nat.le_refl _) _).alloc (by simp) _⟩
  have hs : (w.alloc (.cells #[.int .i64 x, .int .i64 y] 137)).heap.size = w.heap.size + 1 := by simp
  rw [← hs]
  exact OwnF.lit wcell_len _ _ _ (sWords x y) rfl (by simp [maxLen, sWords]) (by simp)

end Go.Proofs.Ytamclkjofojhmaa
