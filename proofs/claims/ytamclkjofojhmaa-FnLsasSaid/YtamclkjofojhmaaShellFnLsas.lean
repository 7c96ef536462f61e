/-
  Whatever bytes the law is given: advertisements are read back from their bytes, bytes that are read are those of what was read, and a bit that is turned behind the age is told. No condition.
-/
import Derived.Test.YtamclkjofojhmaaMDecA
import Derived.Test.YtamclkjofojhmaaMDecB
import Derived.Test.YtamclkjofojhmaaMDecC
import Derived.Test.YtamclkjofojhmaaSameLsa
import Derived.Test.YtamclkjofojhmaaEncMath
import Derived.Test.YtamclkjofojhmaaDecode
import Derived.Test.YtamclkjofojhmaaSame
import Derived.Test.YtamclkjofojhmaaMDraw
import Derived.Test.YtamclkjofojhmaaMA
import Derived.Test.YtamclkjofojhmaaRows
import Derived.WalkKit
import Derived.ProofKit
import Derived.OpenShut
import Derived.ShutString
import Derived.ChangeOld
import Derived.Below
namespace Go.Proofs.Ytamclkjofojhmaa
open Go.RowKit
set_option linter.unusedVariables false

theorem l2Decode_good (b off n c : Nat) (xs : List Int) (w : World) (ha : BIn w (some ⟨b, off, none⟩) n xs) (hb : Bytes xs) (hnc : n ≤ c) (hn0 : 20 ≤ n) (hn : n ≤ 400) (hg : goodB n xs) : Calls Try.prog 77 #[.slice (some ⟨b, off, none⟩) n c] w (DecYes w (readM n xs)) := by
  have hr := rd_of ha.1 hg.1 hg.2
  by_cases h : 2147483647 < rval n xs 12 4
  · exact l2Decode_good_1 b off n c xs w ha hb hnc hn0 hn h hr hg.1 hg.2
  · exact l2Decode_good_0 b off n c xs w ha hb hnc hn0 hn h hr hg.1 hg.2
theorem l2Decode_bad (b off n c : Nat) (xs : List Int) (w : World) (ha : BIn w (some ⟨b, off, none⟩) n xs) (hb : Bytes xs) (hnc : n ≤ c) (hn0 : 20 ≤ n) (hn : n ≤ 400) (hg : ¬ goodB n xs) : Calls Try.prog 77 #[.slice (some ⟨b, off, none⟩) n c] w (DecNo w) := by
  by_cases hr : rdB n xs
  · by_cases hf : faultOf (readM n xs) = 0
    · have he : ¬ encN (readM n xs) = xs := fun he => hg ⟨hf, he⟩
      by_cases h : 2147483647 < rval n xs 12 4
      · exact l2Decode_text_1 b off n c xs w ha hb hnc hn0 hn h hr hf he
      · exact l2Decode_text_0 b off n c xs w ha hb hnc hn0 hn h hr hf he
    · by_cases h : 2147483647 < rval n xs 12 4
      · exact l2Decode_fault_1 b off n c xs w ha hb hnc hn0 hn h hr hf
      · exact l2Decode_fault_0 b off n c xs w ha hb hnc hn0 hn h hr hf
  · by_cases h2 : c = 20
    · by_cases h : 2147483647 < rval n xs 12 4
      · exact l2Decode_no20_1 b off n c xs w ha hb hnc hn0 hn h hr h2
      · exact l2Decode_no20_0 b off n c xs w ha hb hnc hn0 hn h hr h2
    · by_cases h : 2147483647 < rval n xs 12 4
      · exact l2Decode_no_1 b off n c xs w ha hb hnc hn0 hn h hr h2
      · exact l2Decode_no_0 b off n c xs w ha hb hnc hn0 hn h hr h2

set_option maxRecDepth 100000 in
set_option maxHeartbeats 6400000 in
theorem specDecode_few (A : Option Addr) (n c : Nat) (xs : List Int) (w : World) (hn : n ≤ 1048576) (h : n < 20) :
    Calls Try.prog 19 #[.slice A n c] w (LsaOut w 2 zeroM) := by
  have g1 : (n : Int) < 20 := by omega
  have HB := Lib.hid (Below.refl w.heap.size w)
  go_enter Try.func19, Try.ntmps19
  go_wp2
  obtain ⟨U1, hU1⟩ : ∃ W : World, W = (w.alloc (.cells #[.int .i64 2, .int .i64 0, .int .i64 0, .int .i64 0, .int .i64 0, .int .i64 0, .int .i64 0, .slice none 0 0, .slice none 0 0, .int .i64 0, .int .i64 0] 36)) := ⟨_, rfl⟩
  have hb : Below w.heap.size w U1 := by rw [hU1]; exact ((Below.refl _ _).alloc (Nat.le_refl _) _)
  have zz : Hid (w.heap.size + 1 = U1.heap.size) := Lib.hid (by rw [hU1]; simp)
  have HX1 : Kept w.heap.size (w.heap.size + 1) (BoxK w.heap.size 36 #[.int .i64 2, .int .i64 0, .int .i64 0, .int .i64 0, .int .i64 0, .int .i64 0, .int .i64 0, .slice none 0 0, .slice none 0 0, .int .i64 0, .int .i64 0]) U1 := by rw [hU1]; exact Kept.box (Box.made_at _ _ _ rfl)
  replace HB := Lib.hid (below_step HB.out hb)
  clear hb
  have Z1 := zz; clear zz
  have q_0 := HX1.look 0
  have q_1 := HX1.look 1
  have q_2 := HX1.look 2
  have q_3 := HX1.look 3
  have q_4 := HX1.look 4
  have q_5 := HX1.look 5
  have q_6 := HX1.look 6
  have q_7 := HX1.look 7
  have q_8 := HX1.look 8
  have q_9 := HX1.look 9
  have q_10 := HX1.look 10
  have fin : ∀ e, e = Ending.returned (.agg (resCells 2 zeroM none none 0 0 0 0)) → (LsaOut w 2 zeroM e U1) := by rintro _ rfl; exact ⟨none, none, 0, 0, 0, 0, rfl, LsaTwo.zero _ _ (by have := Z1.out; omega), by omega, by omega, HB.out⟩
  subst hU1
  exact bodyPost_ret (v := .agg (resCells 2 zeroM none none 0 0 0 0)) (by simp [results, Try.results19, go_sem, zeroM, q_0, q_1, q_2, q_3, q_4, q_5, q_6, q_7, q_8, q_9, q_10]) rfl (fin _ rfl)

set_option maxRecDepth 100000 in
set_option maxHeartbeats 6400000 in
theorem specDecode_much (A : Option Addr) (n c : Nat) (xs : List Int) (w : World) (hn : n ≤ 1048576) (h : 400 < n) :
    Calls Try.prog 19 #[.slice A n c] w (LsaOut w 2 zeroM) := by
  have g1 : ¬ (n : Int) < 20 := by omega
  have g2 : (400 : Int) < n := by omega
  have HB := Lib.hid (Below.refl w.heap.size w)
  go_enter Try.func19, Try.ntmps19
  go_wp2
  obtain ⟨U1, hU1⟩ : ∃ W : World, W = (w.alloc (.cells #[.int .i64 2, .int .i64 0, .int .i64 0, .int .i64 0, .int .i64 0, .int .i64 0, .int .i64 0, .slice none 0 0, .slice none 0 0, .int .i64 0, .int .i64 0] 36)) := ⟨_, rfl⟩
  have hb : Below w.heap.size w U1 := by rw [hU1]; exact ((Below.refl _ _).alloc (Nat.le_refl _) _)
  have zz : Hid (w.heap.size + 1 = U1.heap.size) := Lib.hid (by rw [hU1]; simp)
  have HX1 : Kept w.heap.size (w.heap.size + 1) (BoxK w.heap.size 36 #[.int .i64 2, .int .i64 0, .int .i64 0, .int .i64 0, .int .i64 0, .int .i64 0, .int .i64 0, .slice none 0 0, .slice none 0 0, .int .i64 0, .int .i64 0]) U1 := by rw [hU1]; exact Kept.box (Box.made_at _ _ _ rfl)
  replace HB := Lib.hid (below_step HB.out hb)
  clear hb
  have Z1 := zz; clear zz
  have q_0 := HX1.look 0
  have q_1 := HX1.look 1
  have q_2 := HX1.look 2
  have q_3 := HX1.look 3
  have q_4 := HX1.look 4
  have q_5 := HX1.look 5
  have q_6 := HX1.look 6
  have q_7 := HX1.look 7
  have q_8 := HX1.look 8
  have q_9 := HX1.look 9
  have q_10 := HX1.look 10
  have fin : ∀ e, e = Ending.returned (.agg (resCells 2 zeroM none none 0 0 0 0)) → (LsaOut w 2 zeroM e U1) := by rintro _ rfl; exact ⟨none, none, 0, 0, 0, 0, rfl, LsaTwo.zero _ _ (by have := Z1.out; omega), by omega, by omega, HB.out⟩
  subst hU1
  exact bodyPost_ret (v := .agg (resCells 2 zeroM none none 0 0 0 0)) (by simp [results, Try.results19, go_sem, zeroM, q_0, q_1, q_2, q_3, q_4, q_5, q_6, q_7, q_8, q_9, q_10]) rfl (fin _ rfl)

set_option maxRecDepth 100000 in
set_option maxHeartbeats 6400000 in
theorem specDecode_form (b off n c : Nat) (xs : List Int) (w : World) (ha : BIn w (some ⟨b, off, none⟩) n xs) (hb : Bytes xs) (hnc : n ≤ c) (hn0 : 20 ≤ n) (hn : n ≤ 400) (h : ¬ rval n xs 18 2 = n) :
    Calls Try.prog 19 #[.slice (some ⟨b, off, none⟩) n c] w (LsaOut w 1 zeroM) := by
  have HD := ha.kept
  have HBY := Lib.hid hb
  have HLEN := Lib.hid ha.1
  have g1 : ¬ (n : Int) < 20 := by omega
  have g2 : ¬ (400 : Int) < n := by omega
  obtain ⟨z, hz⟩ : ∃ z, rval n xs 18 2 = z := ⟨_, rfl⟩
  rw [hz] at h
  have hne : (z != (n : Int)) = true := by rw [bne_iff_ne]; exact h
  have HZ := Lib.hid hz
  clear hz h
  have i1 : (2 : Int) ≤ (n : Int) := by omega
  have i2 : (n : Int) ≤ (c : Int) := by omega
  have i3 : ¬ c = 2 := by omega
  clear ha hb
  have HB := Lib.hid (Below.refl w.heap.size w)
  go_enter Try.func19, Try.ntmps19
  go_wp2_with fail
  refine Calls.name ?_
  intro U1 hU1
  have hb : Below w.heap.size w U1 := by rw [hU1]; exact ((Below.refl _ _).alloc (Nat.le_refl _) _)
  have zz : Hid (w.heap.size + 1 = U1.heap.size) := Lib.hid (by rw [hU1]; simp)
  have HX1 : Kept w.heap.size (w.heap.size + 1) (BoxK w.heap.size 36 #[.int .i64 0, .int .i64 0, .int .i64 0, .int .i64 0, .int .i64 0, .int .i64 0, .int .i64 0, .slice none 0 0, .slice none 0 0, .int .i64 0, .int .i64 0]) U1 := by rw [hU1]; exact Kept.box (Box.made_at _ _ _ rfl)
  replace HD := HD.below hb
  replace HB := Lib.hid (below_step HB.out hb)
  clear hb
  have Z1 := zz; clear zz
  clear hU1
  refine (l1ReadI (some ⟨b, off, none⟩) n c xs 18 2 _ HD.out HBY.out (by omega) (by omega) (by omega) (by omega)).mono ?_
  rw [HZ.out]
  rintro e w2 ⟨rfl, rfl⟩
  have c2_0 := HX1.look 0
  have c2_1 := HX1.look 1
  have c2_2 := HX1.look 2
  have c2_3 := HX1.look 3
  have c2_4 := HX1.look 4
  have c2_5 := HX1.look 5
  have c2_6 := HX1.look 6
  have c2_7 := HX1.look 7
  have c2_8 := HX1.look 8
  have c2_9 := HX1.look 9
  have c2_10 := HX1.look 10
  have f2_0 := HX1.free 0
  have f2_1 := HX1.free 1
  have f2_2 := HX1.free 2
  have f2_3 := HX1.free 3
  have f2_4 := HX1.free 4
  have f2_5 := HX1.free 5
  have f2_6 := HX1.free 6
  have f2_7 := HX1.free 7
  have f2_8 := HX1.free 8
  have f2_9 := HX1.free 9
  have f2_10 := HX1.free 10
  have l2_0 := HX1.bx.lt
  go_wp2
  clear c2_0 c2_1 c2_2 c2_3 c2_4 c2_5 c2_6 c2_7 c2_8 c2_9 c2_10 f2_0 f2_1 f2_2 f2_3 f2_4 f2_5 f2_6 f2_7 f2_8 f2_9 f2_10 l2_0
  obtain ⟨U3, hU3⟩ : ∃ W : World, W = (((((((((((w2.setCell ⟨w.heap.size, 0, none⟩ (.int .i64 1)).setCell ⟨w.heap.size, 1, none⟩ (.int .i64 0)).setCell ⟨w.heap.size, 2, none⟩ (.int .i64 0)).setCell ⟨w.heap.size, 3, none⟩ (.int .i64 0)).setCell ⟨w.heap.size, 4, none⟩ (.int .i64 0)).setCell ⟨w.heap.size, 5, none⟩ (.int .i64 0)).setCell ⟨w.heap.size, 6, none⟩ (.int .i64 0)).setCell ⟨w.heap.size, 7, none⟩ (.slice none 0 0)).setCell ⟨w.heap.size, 8, none⟩ (.slice none 0 0)).setCell ⟨w.heap.size, 9, none⟩ (.int .i64 0)).setCell ⟨w.heap.size, 10, none⟩ (.int .i64 0)) := ⟨_, rfl⟩
  have ho : Only w.heap.size (w.heap.size + 1) w2 U3 := by rw [hU3]; exact ((((((((((((Only.refl _ _ _).set (p := ⟨w.heap.size, 0, none⟩) (Nat.le_refl _) (Nat.lt_succ_self _) _).set (p := ⟨w.heap.size, 1, none⟩) (Nat.le_refl _) (Nat.lt_succ_self _) _).set (p := ⟨w.heap.size, 2, none⟩) (Nat.le_refl _) (Nat.lt_succ_self _) _).set (p := ⟨w.heap.size, 3, none⟩) (Nat.le_refl _) (Nat.lt_succ_self _) _).set (p := ⟨w.heap.size, 4, none⟩) (Nat.le_refl _) (Nat.lt_succ_self _) _).set (p := ⟨w.heap.size, 5, none⟩) (Nat.le_refl _) (Nat.lt_succ_self _) _).set (p := ⟨w.heap.size, 6, none⟩) (Nat.le_refl _) (Nat.lt_succ_self _) _).set (p := ⟨w.heap.size, 7, none⟩) (Nat.le_refl _) (Nat.lt_succ_self _) _).set (p := ⟨w.heap.size, 8, none⟩) (Nat.le_refl _) (Nat.lt_succ_self _) _).set (p := ⟨w.heap.size, 9, none⟩) (Nat.le_refl _) (Nat.lt_succ_self _) _).set (p := ⟨w.heap.size, 10, none⟩) (Nat.le_refl _) (Nat.lt_succ_self _) _)
  replace HX1 : Kept w.heap.size (w.heap.size + 1) (BoxK w.heap.size 36 #[.int .i64 1, .int .i64 0, .int .i64 0, .int .i64 0, .int .i64 0, .int .i64 0, .int .i64 0, .slice none 0 0, .slice none 0 0, .int .i64 0, .int .i64 0]) U3 := by rw [hU3]; exact Kept.box (((((((((((HX1.bx.puts 0 (.int .i64 1) (cs' := #[.int .i64 1, .int .i64 0, .int .i64 0, .int .i64 0, .int .i64 0, .int .i64 0, .int .i64 0, .slice none 0 0, .slice none 0 0, .int .i64 0, .int .i64 0]) rfl).puts 1 (.int .i64 0) (cs' := #[.int .i64 1, .int .i64 0, .int .i64 0, .int .i64 0, .int .i64 0, .int .i64 0, .int .i64 0, .slice none 0 0, .slice none 0 0, .int .i64 0, .int .i64 0]) rfl).puts 2 (.int .i64 0) (cs' := #[.int .i64 1, .int .i64 0, .int .i64 0, .int .i64 0, .int .i64 0, .int .i64 0, .int .i64 0, .slice none 0 0, .slice none 0 0, .int .i64 0, .int .i64 0]) rfl).puts 3 (.int .i64 0) (cs' := #[.int .i64 1, .int .i64 0, .int .i64 0, .int .i64 0, .int .i64 0, .int .i64 0, .int .i64 0, .slice none 0 0, .slice none 0 0, .int .i64 0, .int .i64 0]) rfl).puts 4 (.int .i64 0) (cs' := #[.int .i64 1, .int .i64 0, .int .i64 0, .int .i64 0, .int .i64 0, .int .i64 0, .int .i64 0, .slice none 0 0, .slice none 0 0, .int .i64 0, .int .i64 0]) rfl).puts 5 (.int .i64 0) (cs' := #[.int .i64 1, .int .i64 0, .int .i64 0, .int .i64 0, .int .i64 0, .int .i64 0, .int .i64 0, .slice none 0 0, .slice none 0 0, .int .i64 0, .int .i64 0]) rfl).puts 6 (.int .i64 0) (cs' := #[.int .i64 1, .int .i64 0, .int .i64 0, .int .i64 0, .int .i64 0, .int .i64 0, .int .i64 0, .slice none 0 0, .slice none 0 0, .int .i64 0, .int .i64 0]) rfl).puts 7 (.slice none 0 0) (cs' := #[.int .i64 1, .int .i64 0, .int .i64 0, .int .i64 0, .int .i64 0, .int .i64 0, .int .i64 0, .slice none 0 0, .slice none 0 0, .int .i64 0, .int .i64 0]) rfl).puts 8 (.slice none 0 0) (cs' := #[.int .i64 1, .int .i64 0, .int .i64 0, .int .i64 0, .int .i64 0, .int .i64 0, .int .i64 0, .slice none 0 0, .slice none 0 0, .int .i64 0, .int .i64 0]) rfl).puts 9 (.int .i64 0) (cs' := #[.int .i64 1, .int .i64 0, .int .i64 0, .int .i64 0, .int .i64 0, .int .i64 0, .int .i64 0, .slice none 0 0, .slice none 0 0, .int .i64 0, .int .i64 0]) rfl).puts 10 (.int .i64 0) (cs' := #[.int .i64 1, .int .i64 0, .int .i64 0, .int .i64 0, .int .i64 0, .int .i64 0, .int .i64 0, .slice none 0 0, .slice none 0 0, .int .i64 0, .int .i64 0]) rfl)
  replace HD := HD.only ho (by have := Z1.out; omega)
  replace HB := Lib.hid (Below.only HB.out ho (by have := Z1.out; omega) HB.out.size)
  have Z2 : Hid (U3.heap.size = w2.heap.size) := Lib.hid (by rw [hU3]; simp [World.setCell]); clear ho
  have q_0 := HX1.look 0
  have q_1 := HX1.look 1
  have q_2 := HX1.look 2
  have q_3 := HX1.look 3
  have q_4 := HX1.look 4
  have q_5 := HX1.look 5
  have q_6 := HX1.look 6
  have q_7 := HX1.look 7
  have q_8 := HX1.look 8
  have q_9 := HX1.look 9
  have q_10 := HX1.look 10
  have fin : ∀ e, e = Ending.returned (.agg (resCells 1 zeroM none none 0 0 0 0)) → (LsaOut w 1 zeroM e U3) := by rintro _ rfl; exact ⟨none, none, 0, 0, 0, 0, rfl, LsaTwo.zero _ _ (by have := Z1.out; have := Z2.out; omega), by omega, by omega, HB.out⟩
  subst hU3
  exact bodyPost_ret (v := .agg (resCells 1 zeroM none none 0 0 0 0)) (by simp [results, Try.results19, go_sem, zeroM, q_0, q_1, q_2, q_3, q_4, q_5, q_6, q_7, q_8, q_9, q_10]) rfl (fin _ rfl)

set_option maxRecDepth 100000 in
set_option maxHeartbeats 6400000 in
theorem specDecode_sum (b off n c : Nat) (xs : List Int) (w : World) (ha : BIn w (some ⟨b, off, none⟩) n xs) (hb : Bytes xs) (hnc : n ≤ c) (hn0 : 20 ≤ n) (hn : n ≤ 400) (h : rval n xs 18 2 = n) (hs : sealedB (xs.drop 2) = false) :
    Calls Try.prog 19 #[.slice (some ⟨b, off, none⟩) n c] w (LsaOut w 6 zeroM) := by
  have HD := ha.kept
  have HBY := Lib.hid hb
  have HLEN := Lib.hid ha.1
  have g1 : ¬ (n : Int) < 20 := by omega
  have g2 : ¬ (400 : Int) < n := by omega
  have HZ := Lib.hid h
  have hq : ((n : Int) != (n : Int)) = false := by simp
  have HS : Hid ((((sums (xs.drop 2)).1 % 255 == 0) && ((sums (xs.drop 2)).2 % 255 == 0)) = false) := Lib.hid (by have h := hs; unfold sealedB at h; rw [decide_eq_true (by rw [List.length_drop, HLEN.out]; omega), decide_eq_true (by rw [List.length_drop, HLEN.out]; omega)] at h; simpa using h)
  clear h hs
  have i1 : (2 : Int) ≤ (n : Int) := by omega
  have i2 : (n : Int) ≤ (c : Int) := by omega
  have i3 : ¬ c = 2 := by omega
  clear ha hb
  have HB := Lib.hid (Below.refl w.heap.size w)
  go_enter Try.func19, Try.ntmps19
  go_wp2_with fail
  refine Calls.name ?_
  intro U1 hU1
  have hb : Below w.heap.size w U1 := by rw [hU1]; exact ((Below.refl _ _).alloc (Nat.le_refl _) _)
  have zz : Hid (w.heap.size + 1 = U1.heap.size) := Lib.hid (by rw [hU1]; simp)
  have HX1 : Kept w.heap.size (w.heap.size + 1) (BoxK w.heap.size 36 #[.int .i64 0, .int .i64 0, .int .i64 0, .int .i64 0, .int .i64 0, .int .i64 0, .int .i64 0, .slice none 0 0, .slice none 0 0, .int .i64 0, .int .i64 0]) U1 := by rw [hU1]; exact Kept.box (Box.made_at _ _ _ rfl)
  replace HD := HD.below hb
  replace HB := Lib.hid (below_step HB.out hb)
  clear hb
  have Z1 := zz; clear zz
  clear hU1
  refine (l1ReadI (some ⟨b, off, none⟩) n c xs 18 2 _ HD.out HBY.out (by omega) (by omega) (by omega) (by omega)).mono ?_
  rw [HZ.out]
  rintro e w2 ⟨rfl, rfl⟩
  have l2_0 := HX1.bx.lt
  go_wp2_with fail
  clear l2_0
  have hP : BIn w2 (some ⟨b, off + 2, none⟩) (n - 2) (xs.drop 2) := by
    have h := HD.out.part (a := 2) (s := n - 2) (by omega)
    rw [List.take_of_length_le (by rw [List.length_drop, HLEN.out]; exact Nat.le_refl _)] at h
    exact h
  refine (l1Sealed_any _ (n - 2) (c - 2) (xs.drop 2) _ hP (fun z h => HBY.out z (List.mem_of_mem_drop h)) (by omega)).mono ?_
  rw [HS.out]
  rintro e w3 ⟨rfl, rfl⟩
  clear hP
  have c3_0 := HX1.look 0
  have c3_1 := HX1.look 1
  have c3_2 := HX1.look 2
  have c3_3 := HX1.look 3
  have c3_4 := HX1.look 4
  have c3_5 := HX1.look 5
  have c3_6 := HX1.look 6
  have c3_7 := HX1.look 7
  have c3_8 := HX1.look 8
  have c3_9 := HX1.look 9
  have c3_10 := HX1.look 10
  have f3_0 := HX1.free 0
  have f3_1 := HX1.free 1
  have f3_2 := HX1.free 2
  have f3_3 := HX1.free 3
  have f3_4 := HX1.free 4
  have f3_5 := HX1.free 5
  have f3_6 := HX1.free 6
  have f3_7 := HX1.free 7
  have f3_8 := HX1.free 8
  have f3_9 := HX1.free 9
  have f3_10 := HX1.free 10
  have l3_0 := HX1.bx.lt
  go_wp2
  clear c3_0 c3_1 c3_2 c3_3 c3_4 c3_5 c3_6 c3_7 c3_8 c3_9 c3_10 f3_0 f3_1 f3_2 f3_3 f3_4 f3_5 f3_6 f3_7 f3_8 f3_9 f3_10 l3_0
  obtain ⟨U4, hU4⟩ : ∃ W : World, W = (((((((((((w3.setCell ⟨w.heap.size, 0, none⟩ (.int .i64 6)).setCell ⟨w.heap.size, 1, none⟩ (.int .i64 0)).setCell ⟨w.heap.size, 2, none⟩ (.int .i64 0)).setCell ⟨w.heap.size, 3, none⟩ (.int .i64 0)).setCell ⟨w.heap.size, 4, none⟩ (.int .i64 0)).setCell ⟨w.heap.size, 5, none⟩ (.int .i64 0)).setCell ⟨w.heap.size, 6, none⟩ (.int .i64 0)).setCell ⟨w.heap.size, 7, none⟩ (.slice none 0 0)).setCell ⟨w.heap.size, 8, none⟩ (.slice none 0 0)).setCell ⟨w.heap.size, 9, none⟩ (.int .i64 0)).setCell ⟨w.heap.size, 10, none⟩ (.int .i64 0)) := ⟨_, rfl⟩
  have ho : Only w.heap.size (w.heap.size + 1) w3 U4 := by rw [hU4]; exact ((((((((((((Only.refl _ _ _).set (p := ⟨w.heap.size, 0, none⟩) (Nat.le_refl _) (Nat.lt_succ_self _) _).set (p := ⟨w.heap.size, 1, none⟩) (Nat.le_refl _) (Nat.lt_succ_self _) _).set (p := ⟨w.heap.size, 2, none⟩) (Nat.le_refl _) (Nat.lt_succ_self _) _).set (p := ⟨w.heap.size, 3, none⟩) (Nat.le_refl _) (Nat.lt_succ_self _) _).set (p := ⟨w.heap.size, 4, none⟩) (Nat.le_refl _) (Nat.lt_succ_self _) _).set (p := ⟨w.heap.size, 5, none⟩) (Nat.le_refl _) (Nat.lt_succ_self _) _).set (p := ⟨w.heap.size, 6, none⟩) (Nat.le_refl _) (Nat.lt_succ_self _) _).set (p := ⟨w.heap.size, 7, none⟩) (Nat.le_refl _) (Nat.lt_succ_self _) _).set (p := ⟨w.heap.size, 8, none⟩) (Nat.le_refl _) (Nat.lt_succ_self _) _).set (p := ⟨w.heap.size, 9, none⟩) (Nat.le_refl _) (Nat.lt_succ_self _) _).set (p := ⟨w.heap.size, 10, none⟩) (Nat.le_refl _) (Nat.lt_succ_self _) _)
  replace HX1 : Kept w.heap.size (w.heap.size + 1) (BoxK w.heap.size 36 #[.int .i64 6, .int .i64 0, .int .i64 0, .int .i64 0, .int .i64 0, .int .i64 0, .int .i64 0, .slice none 0 0, .slice none 0 0, .int .i64 0, .int .i64 0]) U4 := by rw [hU4]; exact Kept.box (((((((((((HX1.bx.puts 0 (.int .i64 6) (cs' := #[.int .i64 6, .int .i64 0, .int .i64 0, .int .i64 0, .int .i64 0, .int .i64 0, .int .i64 0, .slice none 0 0, .slice none 0 0, .int .i64 0, .int .i64 0]) rfl).puts 1 (.int .i64 0) (cs' := #[.int .i64 6, .int .i64 0, .int .i64 0, .int .i64 0, .int .i64 0, .int .i64 0, .int .i64 0, .slice none 0 0, .slice none 0 0, .int .i64 0, .int .i64 0]) rfl).puts 2 (.int .i64 0) (cs' := #[.int .i64 6, .int .i64 0, .int .i64 0, .int .i64 0, .int .i64 0, .int .i64 0, .int .i64 0, .slice none 0 0, .slice none 0 0, .int .i64 0, .int .i64 0]) rfl).puts 3 (.int .i64 0) (cs' := #[.int .i64 6, .int .i64 0, .int .i64 0, .int .i64 0, .int .i64 0, .int .i64 0, .int .i64 0, .slice none 0 0, .slice none 0 0, .int .i64 0, .int .i64 0]) rfl).puts 4 (.int .i64 0) (cs' := #[.int .i64 6, .int .i64 0, .int .i64 0, .int .i64 0, .int .i64 0, .int .i64 0, .int .i64 0, .slice none 0 0, .slice none 0 0, .int .i64 0, .int .i64 0]) rfl).puts 5 (.int .i64 0) (cs' := #[.int .i64 6, .int .i64 0, .int .i64 0, .int .i64 0, .int .i64 0, .int .i64 0, .int .i64 0, .slice none 0 0, .slice none 0 0, .int .i64 0, .int .i64 0]) rfl).puts 6 (.int .i64 0) (cs' := #[.int .i64 6, .int .i64 0, .int .i64 0, .int .i64 0, .int .i64 0, .int .i64 0, .int .i64 0, .slice none 0 0, .slice none 0 0, .int .i64 0, .int .i64 0]) rfl).puts 7 (.slice none 0 0) (cs' := #[.int .i64 6, .int .i64 0, .int .i64 0, .int .i64 0, .int .i64 0, .int .i64 0, .int .i64 0, .slice none 0 0, .slice none 0 0, .int .i64 0, .int .i64 0]) rfl).puts 8 (.slice none 0 0) (cs' := #[.int .i64 6, .int .i64 0, .int .i64 0, .int .i64 0, .int .i64 0, .int .i64 0, .int .i64 0, .slice none 0 0, .slice none 0 0, .int .i64 0, .int .i64 0]) rfl).puts 9 (.int .i64 0) (cs' := #[.int .i64 6, .int .i64 0, .int .i64 0, .int .i64 0, .int .i64 0, .int .i64 0, .int .i64 0, .slice none 0 0, .slice none 0 0, .int .i64 0, .int .i64 0]) rfl).puts 10 (.int .i64 0) (cs' := #[.int .i64 6, .int .i64 0, .int .i64 0, .int .i64 0, .int .i64 0, .int .i64 0, .int .i64 0, .slice none 0 0, .slice none 0 0, .int .i64 0, .int .i64 0]) rfl)
  replace HD := HD.only ho (by have := Z1.out; omega)
  replace HB := Lib.hid (Below.only HB.out ho (by have := Z1.out; omega) HB.out.size)
  have Z2 : Hid (U4.heap.size = w3.heap.size) := Lib.hid (by rw [hU4]; simp [World.setCell]); clear ho
  have q_0 := HX1.look 0
  have q_1 := HX1.look 1
  have q_2 := HX1.look 2
  have q_3 := HX1.look 3
  have q_4 := HX1.look 4
  have q_5 := HX1.look 5
  have q_6 := HX1.look 6
  have q_7 := HX1.look 7
  have q_8 := HX1.look 8
  have q_9 := HX1.look 9
  have q_10 := HX1.look 10
  have fin : ∀ e, e = Ending.returned (.agg (resCells 6 zeroM none none 0 0 0 0)) → (LsaOut w 6 zeroM e U4) := by rintro _ rfl; exact ⟨none, none, 0, 0, 0, 0, rfl, LsaTwo.zero _ _ (by have := Z1.out; have := Z2.out; omega), by omega, by omega, HB.out⟩
  subst hU4
  exact bodyPost_ret (v := .agg (resCells 6 zeroM none none 0 0 0 0)) (by simp [results, Try.results19, go_sem, zeroM, q_0, q_1, q_2, q_3, q_4, q_5, q_6, q_7, q_8, q_9, q_10]) rfl (fin _ rfl)

set_option maxRecDepth 100000 in
set_option maxHeartbeats 6400000 in
theorem specDecode_text (b off n c : Nat) (xs : List Int) (w : World) (ha : BIn w (some ⟨b, off, none⟩) n xs) (hb : Bytes xs) (hnc : n ≤ c) (hn0 : 20 ≤ n) (hn : n ≤ 400) (h : rval n xs 18 2 = n) (hs : sealedB (xs.drop 2) = true) (hg : ¬ goodB n xs) :
    Calls Try.prog 19 #[.slice (some ⟨b, off, none⟩) n c] w (LsaOut w 5 zeroM) := by
  have HD := ha.kept
  have HBY := Lib.hid hb
  have HLEN := Lib.hid ha.1
  have g1 : ¬ (n : Int) < 20 := by omega
  have g2 : ¬ (400 : Int) < n := by omega
  have HZ := Lib.hid h
  have hq : ((n : Int) != (n : Int)) = false := by simp
  have HS : Hid ((((sums (xs.drop 2)).1 % 255 == 0) && ((sums (xs.drop 2)).2 % 255 == 0)) = true) := Lib.hid (by have h := hs; unfold sealedB at h; rw [decide_eq_true (by rw [List.length_drop, HLEN.out]; omega), decide_eq_true (by rw [List.length_drop, HLEN.out]; omega)] at h; simpa using h)
  have HG := Lib.hid hg
  clear hg
  clear h hs
  have i1 : (2 : Int) ≤ (n : Int) := by omega
  have i2 : (n : Int) ≤ (c : Int) := by omega
  have i3 : ¬ c = 2 := by omega
  clear ha hb
  have HB := Lib.hid (Below.refl w.heap.size w)
  go_enter Try.func19, Try.ntmps19
  go_wp2_with fail
  refine Calls.name ?_
  intro U1 hU1
  have hb : Below w.heap.size w U1 := by rw [hU1]; exact ((Below.refl _ _).alloc (Nat.le_refl _) _)
  have zz : Hid (w.heap.size + 1 = U1.heap.size) := Lib.hid (by rw [hU1]; simp)
  have HX1 : Kept w.heap.size (w.heap.size + 1) (BoxK w.heap.size 36 #[.int .i64 0, .int .i64 0, .int .i64 0, .int .i64 0, .int .i64 0, .int .i64 0, .int .i64 0, .slice none 0 0, .slice none 0 0, .int .i64 0, .int .i64 0]) U1 := by rw [hU1]; exact Kept.box (Box.made_at _ _ _ rfl)
  replace HD := HD.below hb
  replace HB := Lib.hid (below_step HB.out hb)
  clear hb
  have Z1 := zz; clear zz
  clear hU1
  refine (l1ReadI (some ⟨b, off, none⟩) n c xs 18 2 _ HD.out HBY.out (by omega) (by omega) (by omega) (by omega)).mono ?_
  rw [HZ.out]
  rintro e w2 ⟨rfl, rfl⟩
  have l2_0 := HX1.bx.lt
  go_wp2_with fail
  clear l2_0
  have hP : BIn w2 (some ⟨b, off + 2, none⟩) (n - 2) (xs.drop 2) := by
    have h := HD.out.part (a := 2) (s := n - 2) (by omega)
    rw [List.take_of_length_le (by rw [List.length_drop, HLEN.out]; exact Nat.le_refl _)] at h
    exact h
  refine (l1Sealed_any _ (n - 2) (c - 2) (xs.drop 2) _ hP (fun z h => HBY.out z (List.mem_of_mem_drop h)) (by omega)).mono ?_
  rw [HS.out]
  rintro e w3 ⟨rfl, rfl⟩
  clear hP
  have l3_0 := HX1.bx.lt
  go_wp2_with fail
  clear l3_0
  refine (l2Decode_bad b off n c xs _ HD.out HBY.out (by omega) (by omega) (by omega) HG.out).mono ?_
  rintro e w4 ⟨l, E, F, k, d, m, d2, rfl, hb⟩
  have Z2 := Lib.hid hb.size
  replace HD := HD.below hb
  replace HX1 := HX1.below hb
  replace HB := Lib.hid (below_step HB.out hb)
  clear hb
  have c4_0 := HX1.look 0
  have c4_1 := HX1.look 1
  have c4_2 := HX1.look 2
  have c4_3 := HX1.look 3
  have c4_4 := HX1.look 4
  have c4_5 := HX1.look 5
  have c4_6 := HX1.look 6
  have c4_7 := HX1.look 7
  have c4_8 := HX1.look 8
  have c4_9 := HX1.look 9
  have c4_10 := HX1.look 10
  have f4_0 := HX1.free 0
  have f4_1 := HX1.free 1
  have f4_2 := HX1.free 2
  have f4_3 := HX1.free 3
  have f4_4 := HX1.free 4
  have f4_5 := HX1.free 5
  have f4_6 := HX1.free 6
  have f4_7 := HX1.free 7
  have f4_8 := HX1.free 8
  have f4_9 := HX1.free 9
  have f4_10 := HX1.free 10
  have l4_0 := HX1.bx.lt
  go_wp2
  clear c4_0 c4_1 c4_2 c4_3 c4_4 c4_5 c4_6 c4_7 c4_8 c4_9 c4_10 f4_0 f4_1 f4_2 f4_3 f4_4 f4_5 f4_6 f4_7 f4_8 f4_9 f4_10 l4_0
  obtain ⟨U5, hU5⟩ : ∃ W : World, W = (((((((((((w4.setCell ⟨w.heap.size, 0, none⟩ (.int .i64 5)).setCell ⟨w.heap.size, 1, none⟩ (.int .i64 0)).setCell ⟨w.heap.size, 2, none⟩ (.int .i64 0)).setCell ⟨w.heap.size, 3, none⟩ (.int .i64 0)).setCell ⟨w.heap.size, 4, none⟩ (.int .i64 0)).setCell ⟨w.heap.size, 5, none⟩ (.int .i64 0)).setCell ⟨w.heap.size, 6, none⟩ (.int .i64 0)).setCell ⟨w.heap.size, 7, none⟩ (.slice none 0 0)).setCell ⟨w.heap.size, 8, none⟩ (.slice none 0 0)).setCell ⟨w.heap.size, 9, none⟩ (.int .i64 0)).setCell ⟨w.heap.size, 10, none⟩ (.int .i64 0)) := ⟨_, rfl⟩
  have ho : Only w.heap.size (w.heap.size + 1) w4 U5 := by rw [hU5]; exact ((((((((((((Only.refl _ _ _).set (p := ⟨w.heap.size, 0, none⟩) (Nat.le_refl _) (Nat.lt_succ_self _) _).set (p := ⟨w.heap.size, 1, none⟩) (Nat.le_refl _) (Nat.lt_succ_self _) _).set (p := ⟨w.heap.size, 2, none⟩) (Nat.le_refl _) (Nat.lt_succ_self _) _).set (p := ⟨w.heap.size, 3, none⟩) (Nat.le_refl _) (Nat.lt_succ_self _) _).set (p := ⟨w.heap.size, 4, none⟩) (Nat.le_refl _) (Nat.lt_succ_self _) _).set (p := ⟨w.heap.size, 5, none⟩) (Nat.le_refl _) (Nat.lt_succ_self _) _).set (p := ⟨w.heap.size, 6, none⟩) (Nat.le_refl _) (Nat.lt_succ_self _) _).set (p := ⟨w.heap.size, 7, none⟩) (Nat.le_refl _) (Nat.lt_succ_self _) _).set (p := ⟨w.heap.size, 8, none⟩) (Nat.le_refl _) (Nat.lt_succ_self _) _).set (p := ⟨w.heap.size, 9, none⟩) (Nat.le_refl _) (Nat.lt_succ_self _) _).set (p := ⟨w.heap.size, 10, none⟩) (Nat.le_refl _) (Nat.lt_succ_self _) _)
  replace HX1 : Kept w.heap.size (w.heap.size + 1) (BoxK w.heap.size 36 #[.int .i64 5, .int .i64 0, .int .i64 0, .int .i64 0, .int .i64 0, .int .i64 0, .int .i64 0, .slice none 0 0, .slice none 0 0, .int .i64 0, .int .i64 0]) U5 := by rw [hU5]; exact Kept.box (((((((((((HX1.bx.puts 0 (.int .i64 5) (cs' := #[.int .i64 5, .int .i64 0, .int .i64 0, .int .i64 0, .int .i64 0, .int .i64 0, .int .i64 0, .slice none 0 0, .slice none 0 0, .int .i64 0, .int .i64 0]) rfl).puts 1 (.int .i64 0) (cs' := #[.int .i64 5, .int .i64 0, .int .i64 0, .int .i64 0, .int .i64 0, .int .i64 0, .int .i64 0, .slice none 0 0, .slice none 0 0, .int .i64 0, .int .i64 0]) rfl).puts 2 (.int .i64 0) (cs' := #[.int .i64 5, .int .i64 0, .int .i64 0, .int .i64 0, .int .i64 0, .int .i64 0, .int .i64 0, .slice none 0 0, .slice none 0 0, .int .i64 0, .int .i64 0]) rfl).puts 3 (.int .i64 0) (cs' := #[.int .i64 5, .int .i64 0, .int .i64 0, .int .i64 0, .int .i64 0, .int .i64 0, .int .i64 0, .slice none 0 0, .slice none 0 0, .int .i64 0, .int .i64 0]) rfl).puts 4 (.int .i64 0) (cs' := #[.int .i64 5, .int .i64 0, .int .i64 0, .int .i64 0, .int .i64 0, .int .i64 0, .int .i64 0, .slice none 0 0, .slice none 0 0, .int .i64 0, .int .i64 0]) rfl).puts 5 (.int .i64 0) (cs' := #[.int .i64 5, .int .i64 0, .int .i64 0, .int .i64 0, .int .i64 0, .int .i64 0, .int .i64 0, .slice none 0 0, .slice none 0 0, .int .i64 0, .int .i64 0]) rfl).puts 6 (.int .i64 0) (cs' := #[.int .i64 5, .int .i64 0, .int .i64 0, .int .i64 0, .int .i64 0, .int .i64 0, .int .i64 0, .slice none 0 0, .slice none 0 0, .int .i64 0, .int .i64 0]) rfl).puts 7 (.slice none 0 0) (cs' := #[.int .i64 5, .int .i64 0, .int .i64 0, .int .i64 0, .int .i64 0, .int .i64 0, .int .i64 0, .slice none 0 0, .slice none 0 0, .int .i64 0, .int .i64 0]) rfl).puts 8 (.slice none 0 0) (cs' := #[.int .i64 5, .int .i64 0, .int .i64 0, .int .i64 0, .int .i64 0, .int .i64 0, .int .i64 0, .slice none 0 0, .slice none 0 0, .int .i64 0, .int .i64 0]) rfl).puts 9 (.int .i64 0) (cs' := #[.int .i64 5, .int .i64 0, .int .i64 0, .int .i64 0, .int .i64 0, .int .i64 0, .int .i64 0, .slice none 0 0, .slice none 0 0, .int .i64 0, .int .i64 0]) rfl).puts 10 (.int .i64 0) (cs' := #[.int .i64 5, .int .i64 0, .int .i64 0, .int .i64 0, .int .i64 0, .int .i64 0, .int .i64 0, .slice none 0 0, .slice none 0 0, .int .i64 0, .int .i64 0]) rfl)
  replace HD := HD.only ho (by have := Z1.out; have := Z2.out; omega)
  replace HB := Lib.hid (Below.only HB.out ho (by have := Z1.out; have := Z2.out; omega) HB.out.size)
  have Z3 : Hid (U5.heap.size = w4.heap.size) := Lib.hid (by rw [hU5]; simp [World.setCell]); clear ho
  obtain ⟨U6, hU6⟩ : ∃ W : World, W = (U5.alloc (.cells #[.int .i64 l.age, .int .i64 l.options, .int .i64 l.typ, .int .i64 l.id, .int .i64 l.adv, .int .i64 l.seq, .slice E k d, .slice F m d2, .int .i64 l.mask, .int .i64 l.cost] 29)) := ⟨_, rfl⟩
  have hb : Below U5.heap.size U5 U6 := by rw [hU6]; exact ((Below.refl _ _).alloc (Nat.le_refl _) _)
  have zz : Hid (U5.heap.size + 1 = U6.heap.size) := Lib.hid (by rw [hU6]; simp)
  have HX2 : Kept w4.heap.size (w4.heap.size + 1) (BoxK w4.heap.size 29 #[.int .i64 l.age, .int .i64 l.options, .int .i64 l.typ, .int .i64 l.id, .int .i64 l.adv, .int .i64 l.seq, .slice E k d, .slice F m d2, .int .i64 l.mask, .int .i64 l.cost]) U6 := by rw [hU6]; exact Kept.box (Box.made_at _ _ _ (by rw [hU5]; simp [World.setCell]))
  replace HD := HD.below hb
  replace HX1 := HX1.below hb
  replace HB := Lib.hid (below_step HB.out hb)
  clear hb
  have Z4 := zz; clear zz
  have q_0 := HX1.look 0
  have q_1 := HX1.look 1
  have q_2 := HX1.look 2
  have q_3 := HX1.look 3
  have q_4 := HX1.look 4
  have q_5 := HX1.look 5
  have q_6 := HX1.look 6
  have q_7 := HX1.look 7
  have q_8 := HX1.look 8
  have q_9 := HX1.look 9
  have q_10 := HX1.look 10
  have fin : ∀ e, e = Ending.returned (.agg (resCells 5 zeroM none none 0 0 0 0)) → (LsaOut w 5 zeroM e U6) := by rintro _ rfl; exact ⟨none, none, 0, 0, 0, 0, rfl, LsaTwo.zero _ _ (by have := Z1.out; have := Z2.out; have := Z3.out; have := Z4.out; omega), by omega, by omega, HB.out⟩
  subst hU6 hU5
  exact bodyPost_ret (v := .agg (resCells 5 zeroM none none 0 0 0 0)) (by simp [results, Try.results19, go_sem, zeroM, q_0, q_1, q_2, q_3, q_4, q_5, q_6, q_7, q_8, q_9, q_10]) rfl (fin _ rfl)

set_option maxRecDepth 100000 in
set_option maxHeartbeats 6400000 in
theorem specDecode_good (b off n c : Nat) (xs : List Int) (w : World) (ha : BIn w (some ⟨b, off, none⟩) n xs) (hb : Bytes xs) (hnc : n ≤ c) (hn0 : 20 ≤ n) (hn : n ≤ 400) (h : rval n xs 18 2 = n) (hs : sealedB (xs.drop 2) = true) (hg : goodB n xs) :
    Calls Try.prog 19 #[.slice (some ⟨b, off, none⟩) n c] w (LsaOut w 0 (readM n xs)) := by
  obtain ⟨l, hl⟩ : ∃ z, readM n xs = z := ⟨_, rfl⟩
  have HRM := Lib.hid hl
  rw [hl]
  clear hl
  have HD := ha.kept
  have HBY := Lib.hid hb
  have HLEN := Lib.hid ha.1
  have g1 : ¬ (n : Int) < 20 := by omega
  have g2 : ¬ (400 : Int) < n := by omega
  have HZ := Lib.hid h
  have hq : ((n : Int) != (n : Int)) = false := by simp
  have HS : Hid ((((sums (xs.drop 2)).1 % 255 == 0) && ((sums (xs.drop 2)).2 % 255 == 0)) = true) := Lib.hid (by have h := hs; unfold sealedB at h; rw [decide_eq_true (by rw [List.length_drop, HLEN.out]; omega), decide_eq_true (by rw [List.length_drop, HLEN.out]; omega)] at h; simpa using h)
  have HG := Lib.hid hg
  clear hg
  clear h hs
  have i1 : (2 : Int) ≤ (n : Int) := by omega
  have i2 : (n : Int) ≤ (c : Int) := by omega
  have i3 : ¬ c = 2 := by omega
  clear ha hb
  have HB := Lib.hid (Below.refl w.heap.size w)
  go_enter Try.func19, Try.ntmps19
  go_wp2_with fail
  refine Calls.name ?_
  intro U1 hU1
  have hb : Below w.heap.size w U1 := by rw [hU1]; exact ((Below.refl _ _).alloc (Nat.le_refl _) _)
  have zz : Hid (w.heap.size + 1 = U1.heap.size) := Lib.hid (by rw [hU1]; simp)
  have HX1 : Kept w.heap.size (w.heap.size + 1) (BoxK w.heap.size 36 #[.int .i64 0, .int .i64 0, .int .i64 0, .int .i64 0, .int .i64 0, .int .i64 0, .int .i64 0, .slice none 0 0, .slice none 0 0, .int .i64 0, .int .i64 0]) U1 := by rw [hU1]; exact Kept.box (Box.made_at _ _ _ rfl)
  replace HD := HD.below hb
  replace HB := Lib.hid (below_step HB.out hb)
  clear hb
  have Z1 := zz; clear zz
  clear hU1
  refine (l1ReadI (some ⟨b, off, none⟩) n c xs 18 2 _ HD.out HBY.out (by omega) (by omega) (by omega) (by omega)).mono ?_
  rw [HZ.out]
  rintro e w2 ⟨rfl, rfl⟩
  have l2_0 := HX1.bx.lt
  go_wp2_with fail
  clear l2_0
  have hP : BIn w2 (some ⟨b, off + 2, none⟩) (n - 2) (xs.drop 2) := by
    have h := HD.out.part (a := 2) (s := n - 2) (by omega)
    rw [List.take_of_length_le (by rw [List.length_drop, HLEN.out]; exact Nat.le_refl _)] at h
    exact h
  refine (l1Sealed_any _ (n - 2) (c - 2) (xs.drop 2) _ hP (fun z h => HBY.out z (List.mem_of_mem_drop h)) (by omega)).mono ?_
  rw [HS.out]
  rintro e w3 ⟨rfl, rfl⟩
  clear hP
  have l3_0 := HX1.bx.lt
  go_wp2_with fail
  clear l3_0
  refine (l2Decode_good b off n c xs _ HD.out HBY.out (by omega) (by omega) (by omega) HG.out).mono ?_
  rw [HRM.out]
  rintro e w4 ⟨E, F, k, d, m, d2, rfl, ht, hk, hm, hb⟩
  have Z2 := Lib.hid hb.size
  replace HD := HD.below hb
  replace HX1 := HX1.below hb
  replace HB := Lib.hid (below_step HB.out hb)
  clear hb
  have HT := ht.kept; clear ht
  have c4_0 := HX1.look 0
  have c4_1 := HX1.look 1
  have c4_2 := HX1.look 2
  have c4_3 := HX1.look 3
  have c4_4 := HX1.look 4
  have c4_5 := HX1.look 5
  have c4_6 := HX1.look 6
  have c4_7 := HX1.look 7
  have c4_8 := HX1.look 8
  have c4_9 := HX1.look 9
  have c4_10 := HX1.look 10
  have f4_0 := HX1.free 0
  have f4_1 := HX1.free 1
  have f4_2 := HX1.free 2
  have f4_3 := HX1.free 3
  have f4_4 := HX1.free 4
  have f4_5 := HX1.free 5
  have f4_6 := HX1.free 6
  have f4_7 := HX1.free 7
  have f4_8 := HX1.free 8
  have f4_9 := HX1.free 9
  have f4_10 := HX1.free 10
  have l4_0 := HX1.bx.lt
  go_wp2
  clear c4_0 c4_1 c4_2 c4_3 c4_4 c4_5 c4_6 c4_7 c4_8 c4_9 c4_10 f4_0 f4_1 f4_2 f4_3 f4_4 f4_5 f4_6 f4_7 f4_8 f4_9 f4_10 l4_0
  obtain ⟨U5, hU5⟩ : ∃ W : World, W = (((((((((((w4.setCell ⟨w.heap.size, 0, none⟩ (.int .i64 0)).setCell ⟨w.heap.size, 1, none⟩ (.int .i64 l.age)).setCell ⟨w.heap.size, 2, none⟩ (.int .i64 l.options)).setCell ⟨w.heap.size, 3, none⟩ (.int .i64 l.typ)).setCell ⟨w.heap.size, 4, none⟩ (.int .i64 l.id)).setCell ⟨w.heap.size, 5, none⟩ (.int .i64 l.adv)).setCell ⟨w.heap.size, 6, none⟩ (.int .i64 l.seq)).setCell ⟨w.heap.size, 7, none⟩ (.slice E k d)).setCell ⟨w.heap.size, 8, none⟩ (.slice F m d2)).setCell ⟨w.heap.size, 9, none⟩ (.int .i64 l.mask)).setCell ⟨w.heap.size, 10, none⟩ (.int .i64 l.cost)) := ⟨_, rfl⟩
  have ho : Only w.heap.size (w.heap.size + 1) w4 U5 := by rw [hU5]; exact ((((((((((((Only.refl _ _ _).set (p := ⟨w.heap.size, 0, none⟩) (Nat.le_refl _) (Nat.lt_succ_self _) _).set (p := ⟨w.heap.size, 1, none⟩) (Nat.le_refl _) (Nat.lt_succ_self _) _).set (p := ⟨w.heap.size, 2, none⟩) (Nat.le_refl _) (Nat.lt_succ_self _) _).set (p := ⟨w.heap.size, 3, none⟩) (Nat.le_refl _) (Nat.lt_succ_self _) _).set (p := ⟨w.heap.size, 4, none⟩) (Nat.le_refl _) (Nat.lt_succ_self _) _).set (p := ⟨w.heap.size, 5, none⟩) (Nat.le_refl _) (Nat.lt_succ_self _) _).set (p := ⟨w.heap.size, 6, none⟩) (Nat.le_refl _) (Nat.lt_succ_self _) _).set (p := ⟨w.heap.size, 7, none⟩) (Nat.le_refl _) (Nat.lt_succ_self _) _).set (p := ⟨w.heap.size, 8, none⟩) (Nat.le_refl _) (Nat.lt_succ_self _) _).set (p := ⟨w.heap.size, 9, none⟩) (Nat.le_refl _) (Nat.lt_succ_self _) _).set (p := ⟨w.heap.size, 10, none⟩) (Nat.le_refl _) (Nat.lt_succ_self _) _)
  replace HX1 : Kept w.heap.size (w.heap.size + 1) (BoxK w.heap.size 36 #[.int .i64 0, .int .i64 l.age, .int .i64 l.options, .int .i64 l.typ, .int .i64 l.id, .int .i64 l.adv, .int .i64 l.seq, .slice E k d, .slice F m d2, .int .i64 l.mask, .int .i64 l.cost]) U5 := by rw [hU5]; exact Kept.box (((((((((((HX1.bx.puts 0 (.int .i64 0) (cs' := #[.int .i64 0, .int .i64 0, .int .i64 0, .int .i64 0, .int .i64 0, .int .i64 0, .int .i64 0, .slice none 0 0, .slice none 0 0, .int .i64 0, .int .i64 0]) rfl).puts 1 (.int .i64 l.age) (cs' := #[.int .i64 0, .int .i64 l.age, .int .i64 0, .int .i64 0, .int .i64 0, .int .i64 0, .int .i64 0, .slice none 0 0, .slice none 0 0, .int .i64 0, .int .i64 0]) rfl).puts 2 (.int .i64 l.options) (cs' := #[.int .i64 0, .int .i64 l.age, .int .i64 l.options, .int .i64 0, .int .i64 0, .int .i64 0, .int .i64 0, .slice none 0 0, .slice none 0 0, .int .i64 0, .int .i64 0]) rfl).puts 3 (.int .i64 l.typ) (cs' := #[.int .i64 0, .int .i64 l.age, .int .i64 l.options, .int .i64 l.typ, .int .i64 0, .int .i64 0, .int .i64 0, .slice none 0 0, .slice none 0 0, .int .i64 0, .int .i64 0]) rfl).puts 4 (.int .i64 l.id) (cs' := #[.int .i64 0, .int .i64 l.age, .int .i64 l.options, .int .i64 l.typ, .int .i64 l.id, .int .i64 0, .int .i64 0, .slice none 0 0, .slice none 0 0, .int .i64 0, .int .i64 0]) rfl).puts 5 (.int .i64 l.adv) (cs' := #[.int .i64 0, .int .i64 l.age, .int .i64 l.options, .int .i64 l.typ, .int .i64 l.id, .int .i64 l.adv, .int .i64 0, .slice none 0 0, .slice none 0 0, .int .i64 0, .int .i64 0]) rfl).puts 6 (.int .i64 l.seq) (cs' := #[.int .i64 0, .int .i64 l.age, .int .i64 l.options, .int .i64 l.typ, .int .i64 l.id, .int .i64 l.adv, .int .i64 l.seq, .slice none 0 0, .slice none 0 0, .int .i64 0, .int .i64 0]) rfl).puts 7 (.slice E k d) (cs' := #[.int .i64 0, .int .i64 l.age, .int .i64 l.options, .int .i64 l.typ, .int .i64 l.id, .int .i64 l.adv, .int .i64 l.seq, .slice E k d, .slice none 0 0, .int .i64 0, .int .i64 0]) rfl).puts 8 (.slice F m d2) (cs' := #[.int .i64 0, .int .i64 l.age, .int .i64 l.options, .int .i64 l.typ, .int .i64 l.id, .int .i64 l.adv, .int .i64 l.seq, .slice E k d, .slice F m d2, .int .i64 0, .int .i64 0]) rfl).puts 9 (.int .i64 l.mask) (cs' := #[.int .i64 0, .int .i64 l.age, .int .i64 l.options, .int .i64 l.typ, .int .i64 l.id, .int .i64 l.adv, .int .i64 l.seq, .slice E k d, .slice F m d2, .int .i64 l.mask, .int .i64 0]) rfl).puts 10 (.int .i64 l.cost) (cs' := #[.int .i64 0, .int .i64 l.age, .int .i64 l.options, .int .i64 l.typ, .int .i64 l.id, .int .i64 l.adv, .int .i64 l.seq, .slice E k d, .slice F m d2, .int .i64 l.mask, .int .i64 l.cost]) rfl)
  replace HD := HD.only ho (by have := Z1.out; have := Z2.out; omega)
  replace HT := HT.only ho (by have := Z1.out; have := Z2.out; omega)
  replace HB := Lib.hid (Below.only HB.out ho (by have := Z1.out; have := Z2.out; omega) HB.out.size)
  have Z3 : Hid (U5.heap.size = w4.heap.size) := Lib.hid (by rw [hU5]; simp [World.setCell]); clear ho
  obtain ⟨U6, hU6⟩ : ∃ W : World, W = (U5.alloc (.cells #[.int .i64 l.age, .int .i64 l.options, .int .i64 l.typ, .int .i64 l.id, .int .i64 l.adv, .int .i64 l.seq, .slice E k d, .slice F m d2, .int .i64 l.mask, .int .i64 l.cost] 29)) := ⟨_, rfl⟩
  have hb : Below U5.heap.size U5 U6 := by rw [hU6]; exact ((Below.refl _ _).alloc (Nat.le_refl _) _)
  have zz : Hid (U5.heap.size + 1 = U6.heap.size) := Lib.hid (by rw [hU6]; simp)
  have HX2 : Kept w4.heap.size (w4.heap.size + 1) (BoxK w4.heap.size 29 #[.int .i64 l.age, .int .i64 l.options, .int .i64 l.typ, .int .i64 l.id, .int .i64 l.adv, .int .i64 l.seq, .slice E k d, .slice F m d2, .int .i64 l.mask, .int .i64 l.cost]) U6 := by rw [hU6]; exact Kept.box (Box.made_at _ _ _ (by rw [hU5]; simp [World.setCell]))
  replace HD := HD.below hb
  replace HX1 := HX1.below hb
  replace HT := HT.below hb
  replace HB := Lib.hid (below_step HB.out hb)
  clear hb
  have Z4 := zz; clear zz
  have q_0 := HX1.look 0
  have q_1 := HX1.look 1
  have q_2 := HX1.look 2
  have q_3 := HX1.look 3
  have q_4 := HX1.look 4
  have q_5 := HX1.look 5
  have q_6 := HX1.look 6
  have q_7 := HX1.look 7
  have q_8 := HX1.look 8
  have q_9 := HX1.look 9
  have q_10 := HX1.look 10
  have fin : ∀ e, e = Ending.returned (.agg (resCells 0 l E F k d m d2)) → (LsaOut w 0 l e U6) := by rintro _ rfl; exact ⟨E, F, k, d, m, d2, rfl, LsaTwo.mono (lo' := w.heap.size) (hi' := U6.heap.size) HT.two (by have := Z1.out; have := Z2.out; have := Z3.out; have := Z4.out; omega) (by have := Z1.out; have := Z2.out; have := Z3.out; have := Z4.out; omega) (Nat.le_refl _), by omega, by omega, HB.out⟩
  subst hU6 hU5
  exact bodyPost_ret (v := .agg (resCells 0 l E F k d m d2)) (by simp [results, Try.results19, go_sem, q_0, q_1, q_2, q_3, q_4, q_5, q_6, q_7, q_8, q_9, q_10]) rfl (fin _ rfl)

/-- What the model's DecodeLsa answers. -/
theorem specDecode_any (A : Option Addr) (n c : Nat) (xs : List Int) (w : World) (ha : BIn w A n xs) (hb : Bytes xs) (hnc : n ≤ c) (hn : n ≤ 1048576) :
    Calls Try.prog 19 #[.slice A n c] w (LsaOut w (decCode n xs) (decM n xs)) := by
  have no : ∀ r, r ≠ 0 → decCode n xs = r → Calls Try.prog 19 #[.slice A n c] w (LsaOut w r zeroM) → Calls Try.prog 19 #[.slice A n c] w (LsaOut w (decCode n xs) (decM n xs)) := fun r h0 hr h => by
    have hM : decM n xs = zeroM := by unfold decM; rw [hr, if_neg h0]
    rw [hM, hr]; exact h
  by_cases h1 : 20 ≤ n ∧ n ≤ 400
  rotate_left
  · refine no 2 (by decide) (by unfold decCode; rw [if_pos h1]) ?_
    by_cases h : n < 20
    · exact specDecode_few A n c xs w hn h
    · exact specDecode_much A n c xs w hn (by omega)
  obtain ⟨b, off, rfl, _⟩ := ha.2 (by omega)
  by_cases h2 : rval n xs 18 2 = n
  rotate_left
  · exact no 1 (by decide) (by unfold decCode; rw [if_neg (by omega), if_pos h2]) (specDecode_form b off n c xs w ha hb hnc h1.1 h1.2 h2)
  by_cases h3 : sealedB (xs.drop 2) = false
  · exact no 6 (by decide) (by unfold decCode; rw [if_neg (by omega), if_neg (fun h => h h2), if_pos h3]) (specDecode_sum b off n c xs w ha hb hnc h1.1 h1.2 h2 h3)
  have h3' : sealedB (xs.drop 2) = true := by simpa using h3
  by_cases h4 : goodB n xs
  rotate_left
  · exact no 5 (by decide) (by unfold decCode; rw [if_neg (by omega), if_neg (fun h => h h2), if_neg h3, if_neg (show ¬ (faultOf (readM n xs) = 0 ∧ encN (readM n xs) = xs) from h4)]) (specDecode_text b off n c xs w ha hb hnc h1.1 h1.2 h2 h3' h4)
  have hc : decCode n xs = 0 := by unfold decCode; rw [if_neg (by omega), if_neg (fun h => h h2), if_neg h3, if_pos (show faultOf (readM n xs) = 0 ∧ encN (readM n xs) = xs from h4)]
  have hM : decM n xs = readM n xs := by unfold decM; rw [if_pos hc]
  rw [hc, hM]
  exact specDecode_good b off n c xs w ha hb hnc h1.1 h1.2 h2 h3' h4
/-- What the program's DecodeLsa answers, told alike. -/
theorem decodeOut_any (A : Option Addr) (n c : Nat) (xs : List Int) (w : World) (ha : BIn w A n xs) (hb : Bytes xs) (hnc : n ≤ c) (hn : n ≤ 1048576) :
    Calls Try.prog 16 #[.slice A n c] w (LsaOut w (decCode n xs) (decM n xs)) :=
  (decode_any A n c xs w ha hb hnc hn).mono fun e w' ⟨E, F, k, d, m, g, h1, h2, h3, h4, h5⟩ => ⟨E, F, k, d, m, g, h1, h2, by omega, by omega, h5⟩


end Go.Proofs.Ytamclkjofojhmaa

namespace Go.Proofs.Ytamclkjofojhmaa
open Go.RowKit

set_option maxHeartbeats 6400000 in
theorem specSameLsas_any (x y : LsaM) (q q' : Bool) (lo hi lo' hi' : Nat) (A B A' B' : Option Addr) (n c m d n' c' m' d' : Nat) (w : World) (hx : LsaIn q lo hi w A n B m x) (hy : LsaIn q' lo' hi' w A' n' B' m' y) (hh : hi ≤ w.heap.size) (hh' : hi' ≤ w.heap.size) (hn : n ≤ 1048576) (hm : m ≤ 1048576) (hn' : n' ≤ 1048576) (hm' : m' ≤ 1048576) :
    Calls Try.prog 24 #[lsaV x A B n c m d, lsaV y A' B' n' c' m' d'] w fun e w' => e = .returned (.bool (decide (x = y))) ∧ Below w.heap.size w w' := by
  have hV : Below w.heap.size w ((w.alloc (.cells #[.int .i64 x.age, .int .i64 x.options, .int .i64 x.typ, .int .i64 x.id, .int .i64 x.adv, .int .i64 x.seq, .slice A n c, .slice B m d, .int .i64 x.mask, .int .i64 x.cost] 29)).alloc (.cells #[.int .i64 y.age, .int .i64 y.options, .int .i64 y.typ, .int .i64 y.id, .int .i64 y.adv, .int .i64 y.seq, .slice A' n' c', .slice B' m' d', .int .i64 y.mask, .int .i64 y.cost] 29)) := ((Below.refl _ _).alloc (Nat.le_refl _) _).alloc (by simp) _
  have HA := Lib.hid (hx.below hV hh)
  have HC := Lib.hid (hy.below hV hh')
  have HB := Lib.hid hV
  clear hx hy hV
  have HQ : Hid (x.links.length = n ∧ y.links.length = n' ∧ x.routers.length = m ∧ y.routers.length = m') := Lib.hid ⟨HA.out.links.1, HC.out.links.1, HA.out.routers.1, HC.out.routers.1⟩
  have HAL := Lib.hid HA.out.links
  have HAR := Lib.hid HA.out.routers
  have HCL := Lib.hid HC.out.links
  have HCR := Lib.hid HC.out.routers
  clear HA HC
  have HD : Hid (¬ x = y → decide (x = y) = false) := Lib.hid (fun h => decide_eq_false h)
  obtain ⟨x0, x1, x2, x3, x4, x5, x6, x7, x8, x9⟩ := x
  obtain ⟨y0, y1, y2, y3, y4, y5, y6, y7, y8, y9⟩ := y
  simp only [] at HAL HAR HCL HCR HB
  rcases Decidable.em (x0 = y0) with e | hne
  rotate_left
  · have HN := Lib.hid (HD.out (fun e => hne (by injection e)))
    clear HD HQ
    go_enter Try.func24, Try.ntmps24
    go_wp2
    go_ret
    exact ⟨ret_bool HN.out.symm, HB.out⟩
  obtain rfl := e
  rcases Decidable.em (x1 = y1) with e | hne
  rotate_left
  · have HN := Lib.hid (HD.out (fun e => hne (by injection e)))
    clear HD HQ
    go_enter Try.func24, Try.ntmps24
    go_wp2
    go_ret
    exact ⟨ret_bool HN.out.symm, HB.out⟩
  obtain rfl := e
  rcases Decidable.em (x2 = y2) with e | hne
  rotate_left
  · have HN := Lib.hid (HD.out (fun e => hne (by injection e)))
    clear HD HQ
    go_enter Try.func24, Try.ntmps24
    go_wp2
    go_ret
    exact ⟨ret_bool HN.out.symm, HB.out⟩
  obtain rfl := e
  rcases Decidable.em (x3 = y3) with e | hne
  rotate_left
  · have HN := Lib.hid (HD.out (fun e => hne (by injection e)))
    clear HD HQ
    go_enter Try.func24, Try.ntmps24
    go_wp2
    go_ret
    exact ⟨ret_bool HN.out.symm, HB.out⟩
  obtain rfl := e
  rcases Decidable.em (x4 = y4) with e | hne
  rotate_left
  · have HN := Lib.hid (HD.out (fun e => hne (by injection e)))
    clear HD HQ
    go_enter Try.func24, Try.ntmps24
    go_wp2
    go_ret
    exact ⟨ret_bool HN.out.symm, HB.out⟩
  obtain rfl := e
  rcases Decidable.em (x5 = y5) with e | hne
  rotate_left
  · have HN := Lib.hid (HD.out (fun e => hne (by injection e)))
    clear HD HQ
    go_enter Try.func24, Try.ntmps24
    go_wp2
    go_ret
    exact ⟨ret_bool HN.out.symm, HB.out⟩
  obtain rfl := e
  rcases Decidable.em (x8 = y8) with e | hne
  rotate_left
  · have HN := Lib.hid (HD.out (fun e => hne (by injection e)))
    clear HD HQ
    go_enter Try.func24, Try.ntmps24
    go_wp2
    go_ret
    exact ⟨ret_bool HN.out.symm, HB.out⟩
  obtain rfl := e
  rcases Decidable.em (x9 = y9) with e | hne
  rotate_left
  · have HN := Lib.hid (HD.out (fun e => hne (by injection e)))
    clear HD HQ
    go_enter Try.func24, Try.ntmps24
    go_wp2
    go_ret
    exact ⟨ret_bool HN.out.symm, HB.out⟩
  obtain rfl := e
  rcases Decidable.em (x7 = y7) with e | hne
  rotate_left
  · have HN := Lib.hid (HD.out (fun e => hne (by injection e)))
    have HE : Hid (decide (x7 = y7) = false) := Lib.hid (decide_eq_false hne)
    clear hne
    clear HD HQ
    go_enter Try.func24, Try.ntmps24
    go_wp2_with fail
    refine (l1Same_any _ _ _ _ _ _ _ _ _ _ _ _ _ _ _ HAR.out HCR.out hm hm').mono ?_
    rintro e w1 ⟨rfl, p, rfl⟩
    rw [HE.out]
    go_wp2
    go_ret
    exact ⟨(by first | exact ret_bool HN.out.symm | exact ret_bool (by rw [HN.out]; simpa using hne)), below_drewN HB.out _⟩
  obtain rfl := e
  by_cases hln : n = n'
  rotate_left
  · have HN := Lib.hid (HD.out (fun e => hln (by have := HQ.out.1; have := HQ.out.2.1; injection e; simp_all)))
    have hne : ((n : Int) != (n' : Int)) = true := by rw [bne_iff_ne]; omega
    clear HD HQ hln
    go_enter Try.func24, Try.ntmps24
    go_wp2_with fail
    refine (l1Same_any _ _ _ _ _ _ _ _ _ _ _ _ _ _ _ HAR.out HCR.out hm hm').mono ?_
    rintro e w1 ⟨rfl, p, rfl⟩
    rw [decide_eq_true rfl]
    go_wp2
    go_ret
    exact ⟨(by first | exact ret_bool HN.out.symm | exact ret_bool (by rw [HN.out]; simpa using hne)), below_drewN HB.out _⟩
  subst hln
  have HT : Hid ((∀ j a b, j < n → x6[j]? = some a → y6[j]? = some b → a = b) → decide ((⟨x0, x1, x2, x3, x4, x5, x6, x7, x8, x9⟩ : LsaM) = ⟨x0, x1, x2, x3, x4, x5, y6, x7, x8, x9⟩) = true) := Lib.hid (fun h => by rw [links_eq HAL.out.1 HCL.out.1 h]; exact decide_eq_true rfl)
  have HF : Hid (x6 ≠ y6 → decide ((⟨x0, x1, x2, x3, x4, x5, x6, x7, x8, x9⟩ : LsaM) = ⟨x0, x1, x2, x3, x4, x5, y6, x7, x8, x9⟩) = false) := Lib.hid (fun h => HD.out (fun e => h (by injection e)))
  clear HD HQ
  go_enter Try.func24, Try.ntmps24
  go_wp2_with fail
  refine (l1Same_any _ _ _ _ _ _ _ _ _ _ _ _ _ _ _ HAR.out HCR.out hm hm').mono ?_
  rintro e w1 ⟨rfl, p, rfl⟩
  rw [decide_eq_true rfl]
  go_wp2_with fail
  obtain ⟨V, hV⟩ : ∃ W : World, W = (w.alloc (.cells #[.int .i64 x0, .int .i64 x1, .int .i64 x2, .int .i64 x3, .int .i64 x4, .int .i64 x5, .slice A n c, .slice B m d, .int .i64 x8, .int .i64 x9] 29)).alloc (.cells #[.int .i64 x0, .int .i64 x1, .int .i64 x2, .int .i64 x3, .int .i64 x4, .int .i64 x5, .slice A' n c', .slice B' m' d', .int .i64 x8, .int .i64 x9] 29) := ⟨_, rfl⟩
  have e1 : (w.alloc (.cells #[.int .i64 x0, .int .i64 x1, .int .i64 x2, .int .i64 x3, .int .i64 x4, .int .i64 x5, .slice A n c, .slice B m d, .int .i64 x8, .int .i64 x9] 29)).heap.size = w.heap.size + 1 := by simp
  have c6 : V.cell? ⟨w.heap.size, 6, none⟩ = some (.slice A n c) := by rw [hV]; exact ((Box.made _ _ _).below ((Below.refl _ _).alloc (Nat.le_refl _) _)).look 6
  have d6 : V.cell? ⟨w.heap.size + 1, 6, none⟩ = some (.slice A' n c') := by rw [hV, ← e1]; exact (Box.made _ _ _).look 6
  clear e1
  rw [← hV] at HB HAL HAR HCL HCR ⊢
  clear hV
  go_loopw [5] (fun i wr => ∃ k : Nat, k ≤ n ∧ i = .int .i64 k ∧ Hid (∀ j a b, j < k → x6[j]? = some a → y6[j]? = some b → a = b) ∧ ∃ q, wr = V.drewN q)
    (fun i _ => n - (intOf i).toNat)
  case atStart => exact ⟨0, Nat.zero_le _, rfl, fun j _ _ hj => absurd hj (by omega), p, rfl⟩
  case round =>
    obtain ⟨k, hk, rfl, HS, q, rfl⟩ := hrel
    by_cases hlt : k < n
    · obtain ⟨b, o, x, rfl, hxa, a0, a1, a2, a3⟩ := Rep.link_at HAL.out hlt
      obtain ⟨b', o', y, rfl, hyb, b0, b1, b2, b3⟩ := Rep.link_at HCL.out hlt
      have hlt' : (k : Int) < n := by omega
      have HX := Lib.hid hxa
      have HY := Lib.hid hyb
      clear hxa hyb
      by_cases he : x = y
      · have HE := Lib.hid he
        subst he
        go_wp2
        go_quiet (fail)
        go_wp2
        go_roundw
        case rel => exact ⟨k + 1, by omega, by go_num, Lib.hid (fun j a b hj h1 h2 => by
          rcases Nat.lt_succ_iff_lt_or_eq.1 hj with h | rfl
          · exact HS.out j a b h h1 h2
          · have e1 := HX.out; have e2 := HY.out; rw [h1] at e1; rw [h2] at e2; injection e1 with e1; injection e2 with e2; rw [e1, e2]), _, rfl⟩
        case measure => simp [intOf]; omega
      · have HE : Hid (¬ x6 = y6) := Lib.hid (fun e => by subst e; have e1 := HX.out; rw [HY.out] at e1; injection e1 with e1; exact he e1.symm)
        obtain ⟨u0, u1, u2, u3⟩ := x
        obtain ⟨z0, z1, z2, z3⟩ := y
        have hd : ¬ u0 = z0 ∨ (u0 = z0 ∧ ¬ u1 = z1) ∨ (u0 = z0 ∧ u1 = z1 ∧ ¬ u2 = z2) ∨ (u0 = z0 ∧ u1 = z1 ∧ u2 = z2 ∧ ¬ u3 = z3) := by
          rcases Decidable.em (u0 = z0) with e0 | e0
          · rcases Decidable.em (u1 = z1) with e1 | e1
            · rcases Decidable.em (u2 = z2) with e2 | e2
              · rcases Decidable.em (u3 = z3) with e3 | e3
                · exact absurd (lnk_eq e0 e1 e2 e3) he
                · exact .inr (.inr (.inr ⟨e0, e1, e2, e3⟩))
              · exact .inr (.inr (.inl ⟨e0, e1, e2⟩))
            · exact .inr (.inl ⟨e0, e1⟩)
          · exact .inl e0
        clear HX HY he
        simp only [] at a0 a1 a2 a3 b0 b1 b2 b3
        rcases hd with h | ⟨rfl, h⟩ | ⟨rfl, rfl, h⟩ | ⟨rfl, rfl, rfl, h⟩
        all_goals
          go_wp2
          go_quiet (fail)
          go_wp2
          go_ret
          exact ⟨ret_bool (HF.out HE.out).symm, below_drewN (below_drewN HB.out _) _⟩
    · have HG := Lib.hid (HT.out (fun j a b hj => HS.out j a b (by omega)))
      clear HT HF HS
      go_wp2
      go_ret
      exact ⟨ret_bool HG.out.symm, below_drewN HB.out _⟩

end Go.Proofs.Ytamclkjofojhmaa

namespace Go.Proofs.Ytamclkjofojhmaa
open Go.RowKit
set_option linter.unusedVariables false

theorem lw_len (ys : List Lnk) : (packAll (ys.flatMap linkWords)).length = 12 * ys.length := by
  induction ys with
  | nil => simp [packAll]
  | cons a t ih =>
    rw [List.flatMap_cons, packAll_app, List.length_append, ih, List.length_cons, show (packAll (linkWords a)).length = 12 by simp [packAll, linkWords, packN_len]]
    omega
theorem rw_len (ys : List Int) : (packAll (ys.map fun r => (r, (4 : Int)))).length = 4 * ys.length := by
  induction ys with
  | nil => simp [packAll]
  | cons a t ih =>
    have e : packAll ((a :: t).map fun r => (r, (4 : Int))) = packN a 4 ++ packAll (t.map fun r => (r, (4 : Int))) := by simp [packAll]
    rw [e, List.length_append, ih, List.length_cons, packN_len]
    omega
theorem split_at {α : Type} {ys : List α} {k : Nat} {a : α} (h : ys[k]? = some a) : ys = ys.take k ++ a :: ys.drop (k + 1) := by
  obtain ⟨hk, rfl⟩ := List.getElem?_eq_some_iff.1 h
  rw [← List.drop_eq_getElem_cons hk, List.take_append_drop]
theorem head_len (l : LsaM) : (packAll (headW l)).length = 20 := headN_len l

theorem link_back {l : LsaM} (h : Sound l) (ht : l.typ = 1) {k : Nat} {a : Lnk} (hk : l.links[k]? = some a) : linkR (20 + (bodyN l).length) (encN l) k = a := by
  obtain ⟨hkl, _⟩ := List.getElem?_eq_some_iff.1 hk
  have hok := h.link a (List.mem_of_getElem? hk)
  simp only [linkOk, Bool.and_eq_true] at hok
  obtain ⟨⟨⟨o1, o2⟩, o3⟩, o4⟩ := hok
  have p1 := allIn_one o1
  have p2 := allIn_one o2
  have p3 := allIn_one o3
  have p4 := allIn_one o4
  have hf : l.links.flatMap linkWords = (l.links.take k).flatMap linkWords ++ (linkWords a ++ (l.links.drop (k + 1)).flatMap linkWords) := by
    conv => lhs; rw [split_at hk]
    rw [List.flatMap_append, List.flatMap_cons]
  obtain ⟨P, hP⟩ : ∃ P, P = headW l ++ [(0, 2), ((l.links.length : Int), 2)] ++ (l.links.take k).flatMap linkWords := ⟨_, rfl⟩
  obtain ⟨R, hR⟩ : ∃ R, R = (l.links.drop (k + 1)).flatMap linkWords := ⟨_, rfl⟩
  have hW : headW l ++ bodyW l = P ++ (linkWords a ++ R) := by
    rw [hP, hR]
    unfold bodyW
    rw [if_pos ht]
    unfold rWords
    rw [hf]
    simp only [List.append_assoc]
  have hlen : (packAll P).length = 24 + 12 * k := by
    rw [hP, packAll_app, packAll_app, List.length_append, List.length_append, head_len, lw_len, List.length_take, show (packAll [((0 : Int), (2 : Int)), ((l.links.length : Int), 2)]).length = 4 by simp [packAll, packN_len]]
    omega
  have e : ∀ (pre post : List (Int × Int)) (x : Int × Int) (d : Nat), linkWords a = pre ++ x :: post → wOK x → (packAll pre).length = d → rval (20 + (bodyN l).length) (encN l) ((24 + 12 * k + d : Nat) : Int) x.2 = x.1 := fun pre post x d hx hw hd =>
    raw_at l (P ++ pre) (post ++ R) x (24 + 12 * k + d) (by rw [hW, hx]; simp only [List.append_assoc, List.cons_append]) hw (by rw [packAll_app, List.length_append, hlen, hd]) (.inr (by omega))
  have q1 := e [(a.to_, 4), (a.own, 4)] [(0, 1), (a.cost, 2)] (a.kind, 1) 8 rfl (wOK_1 (by omega) (by omega)) (by simp [packAll, packN_len])
  have q2 := e [] [(a.own, 4), (a.kind, 1), (0, 1), (a.cost, 2)] (a.to_, 4) 0 rfl (wOK_4 (by omega) (by omega)) (by simp [packAll])
  have q3 := e [(a.to_, 4)] [(a.kind, 1), (0, 1), (a.cost, 2)] (a.own, 4) 4 rfl (wOK_4 (by omega) (by omega)) (by simp [packAll, packN_len])
  have q4 := e [(a.to_, 4), (a.own, 4), (a.kind, 1), (0, 1)] [] (a.cost, 2) 10 rfl (wOK_2 (by omega) (by omega)) (by simp [packAll, packN_len])
  unfold linkR
  rw [show (24 : Int) + 12 * (k : Int) + 8 = ((24 + 12 * k + 8 : Nat) : Int) by omega, show (24 : Int) + 12 * (k : Int) = ((24 + 12 * k + 0 : Nat) : Int) by omega, show ((24 + 12 * k + 0 : Nat) : Int) + 4 = ((24 + 12 * k + 4 : Nat) : Int) by omega, show ((24 + 12 * k + 0 : Nat) : Int) + 10 = ((24 + 12 * k + 10 : Nat) : Int) by omega]
  simp only at q1 q2 q3 q4
  rw [q1, q2, q3, q4]
theorem router_back {l : LsaM} (h : Sound l) (ht : l.typ = 2) {k : Nat} {r : Int} (hk : l.routers[k]? = some r) : rval (20 + (bodyN l).length) (encN l) (24 + 4 * (k : Int)) 4 = r := by
  obtain ⟨hkl, _⟩ := List.getElem?_eq_some_iff.1 hk
  have p := allIn_one (h.router r (List.mem_of_getElem? hk))
  have hf : (l.routers.map fun r => (r, (4 : Int))) = ((l.routers.take k).map fun r => (r, (4 : Int))) ++ ((r, (4 : Int)) :: (l.routers.drop (k + 1)).map fun r => (r, (4 : Int))) := by
    conv => lhs; rw [split_at hk]
    rw [List.map_append, List.map_cons]
  rw [show (24 : Int) + 4 * (k : Int) = ((24 + 4 * k : Nat) : Int) by omega]
  refine raw_at l (headW l ++ [(l.mask, 4)] ++ (l.routers.take k).map fun r => (r, (4 : Int))) ((l.routers.drop (k + 1)).map fun r => (r, (4 : Int))) (r, 4) (24 + 4 * k) ?_ (wOK_4 (by omega) (by omega)) ?_ (.inr (by omega))
  · unfold bodyW
    rw [if_neg (by omega), if_pos ht]
    unfold nWords
    rw [hf]
    simp only [List.append_assoc]
  · rw [packAll_app, packAll_app, List.length_append, List.length_append, head_len, rw_len, List.length_take, show (packAll [(l.mask, (4 : Int))]).length = 4 by simp [packAll, packN_len]]
    omega
theorem range_map {α : Type} (ys : List α) (f : Nat → α) (h : ∀ k a, ys[k]? = some a → f k = a) : (List.range ys.length).map f = ys := by
  apply List.ext_getElem?
  intro i
  rw [List.getElem?_map]
  by_cases hi : i < ys.length
  · rw [List.getElem?_range hi, List.getElem?_eq_getElem hi]
    show some (f i) = some ys[i]
    rw [h i ys[i] (List.getElem?_eq_getElem hi)]
  · rw [List.getElem?_eq_none (by rw [List.length_range]; omega), List.getElem?_eq_none (by omega)]
    rfl

/-- What is read of an advertisement's bytes is the advertisement. -/
theorem read_back {l : LsaM} (h : Sound l) : readM (20 + (bodyN l).length) (encN l) = l := by
  have hd : ∀ (pre post : List (Int × Int)) (x : Int × Int) (d : Nat), headW l = pre ++ x :: post → wOK x → (packAll pre).length = d → (d + x.2.toNat ≤ 16 ∨ 18 ≤ d) → rval (20 + (bodyN l).length) (encN l) (d : Int) x.2 = x.1 := fun pre post x d hx hw hd' hs =>
    raw_at l pre (post ++ bodyW l) x d (by rw [hx]; simp only [List.append_assoc, List.cons_append]) hw hd' hs
  have hb := bodyN_len h
  have hsq : 0 ≤ seqN l ∧ seqN l ≤ 4294967295 := by have := h.seq; unfold seqN; split <;> omega
  have a1 := hd [] [(l.options, 1), (l.typ, 1), (l.id, 4), (l.adv, 4), (seqN l, 4), (0, 2), (20 + ((bodyN l).length : Int), 2)] (l.age, 2) 0 rfl (wOK_2 (by have := h.age; omega) (by have := h.age; omega)) rfl (.inl (by simp))
  have a2 := hd [(l.age, 2)] [(l.typ, 1), (l.id, 4), (l.adv, 4), (seqN l, 4), (0, 2), (20 + ((bodyN l).length : Int), 2)] (l.options, 1) 2 rfl (wOK_1 h.options.1 h.options.2) (by simp [packAll, packN_len]) (.inl (by simp))
  have a3 := hd [(l.age, 2), (l.options, 1)] [(l.id, 4), (l.adv, 4), (seqN l, 4), (0, 2), (20 + ((bodyN l).length : Int), 2)] (l.typ, 1) 3 rfl (wOK_1 (by have := h.typ; omega) (by have := h.typ; omega)) (by simp [packAll, packN_len]) (.inl (by simp))
  have a4 := hd [(l.age, 2), (l.options, 1), (l.typ, 1)] [(l.adv, 4), (seqN l, 4), (0, 2), (20 + ((bodyN l).length : Int), 2)] (l.id, 4) 4 rfl (wOK_4 h.id.1 h.id.2) (by simp [packAll, packN_len]) (.inl (by simp))
  have a5 := hd [(l.age, 2), (l.options, 1), (l.typ, 1), (l.id, 4)] [(seqN l, 4), (0, 2), (20 + ((bodyN l).length : Int), 2)] (l.adv, 4) 8 rfl (wOK_4 h.adv.1 h.adv.2) (by simp [packAll, packN_len]) (.inl (by simp))
  have a6 := hd [(l.age, 2), (l.options, 1), (l.typ, 1), (l.id, 4), (l.adv, 4)] [(0, 2), (20 + ((bodyN l).length : Int), 2)] (seqN l, 4) 12 rfl (wOK_4 hsq.1 hsq.2) (by simp [packAll, packN_len]) (.inl (by simp))
  simp only at a1 a2 a3 a4 a5 a6
  have hs : seqR (20 + (bodyN l).length) (encN l) = l.seq := by
    unfold seqR
    rw [show (12 : Int) = ((12 : Nat) : Int) from rfl, a6]
    have := h.seq
    unfold seqN
    split <;> split <;> omega
  have hH : headR (20 + (bodyN l).length) (encN l) = ⟨l.age, l.options, l.typ, l.id, l.adv, l.seq, [], [], 0, 0⟩ := by
    unfold headR
    rw [hs, show rval (20 + (bodyN l).length) (encN l) 0 2 = l.age from a1, show rval (20 + (bodyN l).length) (encN l) 2 1 = l.options from a2, show rval (20 + (bodyN l).length) (encN l) 3 1 = l.typ from a3, show rval (20 + (bodyN l).length) (encN l) 4 4 = l.id from a4, show rval (20 + (bodyN l).length) (encN l) 8 4 = l.adv from a5]
  have hT : rval (20 + (bodyN l).length) (encN l) 3 1 = l.typ := a3
  have hform := h.form
  unfold formOf at hform
  unfold readM
  rw [hT, hH]
  have body : ∀ (pre post : List (Int × Int)) (x : Int × Int) (d : Nat), bodyW l = pre ++ x :: post → wOK x → (packAll pre).length = d → rval (20 + (bodyN l).length) (encN l) ((20 + d : Nat) : Int) x.2 = x.1 := fun pre post x d hx hw hd' =>
    raw_at l (headW l ++ pre) post x (20 + d) (by rw [hx]; simp only [List.append_assoc]) hw (by rw [packAll_app, List.length_append, head_len, hd']) (.inr (by omega))
  obtain ⟨la, lo, lt, li, lv, ls, ll, lr, lm, lc⟩ := l
  simp only at *
  rcases h.typ with ht | ht | ht <;> simp only at ht <;> subst ht
  · rw [if_pos rfl]
    rw [if_pos rfl] at hform
    simp only [Bool.and_eq_true, decide_eq_true_eq] at hform
    obtain ⟨⟨f1, f2⟩, f3⟩ := hform
    have hl := bodyN_len_1 (l := ⟨la, lo, 1, li, lv, ls, ll, lr, lm, lc⟩) rfl
    have hr : lr = [] := List.eq_nil_of_length_eq_zero f1
    simp only at hl
    have hk : (20 + (bodyN ⟨la, lo, 1, li, lv, ls, ll, lr, lm, lc⟩).length - 24) / 12 = ll.length := by omega
    have hL : linksR (20 + (bodyN ⟨la, lo, 1, li, lv, ls, ll, lr, lm, lc⟩).length) (encN ⟨la, lo, 1, li, lv, ls, ll, lr, lm, lc⟩) ll.length = ll :=
      range_map ll _ (fun k a hk => link_back (l := ⟨la, lo, 1, li, lv, ls, ll, lr, lm, lc⟩) h rfl hk)
    rw [hk, hL, hr, f2, f3]
  · rw [if_neg (by decide), if_pos rfl]
    rw [if_neg (by decide), if_pos rfl] at hform
    simp only [Bool.and_eq_true, decide_eq_true_eq] at hform
    obtain ⟨f1, f2⟩ := hform
    have hl := bodyN_len_2 (l := ⟨la, lo, 2, li, lv, ls, ll, lr, lm, lc⟩) rfl
    have hr : ll = [] := List.eq_nil_of_length_eq_zero f1
    simp only at hl
    have hk : (20 + (bodyN ⟨la, lo, 2, li, lv, ls, ll, lr, lm, lc⟩).length - 24) / 4 = lr.length := by omega
    have hL : routersR (20 + (bodyN ⟨la, lo, 2, li, lv, ls, ll, lr, lm, lc⟩).length) (encN ⟨la, lo, 2, li, lv, ls, ll, lr, lm, lc⟩) lr.length = lr :=
      range_map lr _ (fun k a hk => router_back (l := ⟨la, lo, 2, li, lv, ls, ll, lr, lm, lc⟩) h rfl hk)
    have hM := body [] (lr.map fun r => (r, (4 : Int))) (lm, 4) 0 rfl (wOK_4 h.mask.1 h.mask.2) rfl
    rw [hk, hL, show rval (20 + (bodyN ⟨la, lo, 2, li, lv, ls, ll, lr, lm, lc⟩).length) (encN ⟨la, lo, 2, li, lv, ls, ll, lr, lm, lc⟩) 20 4 = lm from hM, hr, f2]
  · rw [if_neg (by decide), if_neg (by decide), if_pos rfl]
    rw [if_neg (by decide), if_neg (by decide), if_pos rfl] at hform
    simp only [Bool.and_eq_true, decide_eq_true_eq] at hform
    obtain ⟨f1, f2⟩ := hform
    have hr : ll = [] := List.eq_nil_of_length_eq_zero f1
    have hr2 : lr = [] := List.eq_nil_of_length_eq_zero f2
    have hM := body [] [(0, 1), (lc, 3)] (lm, 4) 0 rfl (wOK_4 h.mask.1 h.mask.2) rfl
    have hC := body [(lm, 4), (0, 1)] [] (lc, 3) 5 rfl (wOK_3 h.cost.1 h.cost.2) (by simp [packAll, packN_len])
    rw [hr, hr2] at *
    rw [show rval (20 + (bodyN ⟨la, lo, 3, li, lv, ls, [], [], lm, lc⟩).length) (encN ⟨la, lo, 3, li, lv, ls, [], [], lm, lc⟩) 20 4 = lm from hM, show rval (20 + (bodyN ⟨la, lo, 3, li, lv, ls, [], [], lm, lc⟩).length) (encN ⟨la, lo, 3, li, lv, ls, [], [], lm, lc⟩) 25 3 = lc from hC]

theorem enc_drop (l : LsaM) : (encN l).drop 2 = sealN ((rawN l).drop 2) 14 := by
  have h : ((rawN l).take 2).length = 2 := by rw [List.length_take, rawN_len]; omega
  unfold encN
  rw [List.drop_append, h, List.drop_of_length_le (by omega), List.nil_append, Nat.sub_self, List.drop_zero]
/-- The bytes of an advertisement are read, and as it is. -/
theorem dec_of_enc {l : LsaM} (h : faultOf l = 0) : decCode (20 + (bodyN l).length) (encN l) = 0 ∧ decM (20 + (bodyN l).length) (encN l) = l := by
  have hs := sound_of l h
  have hb := bodyN_len hs
  have hr := read_back hs
  have hn : rval (20 + (bodyN l).length) (encN l) 18 2 = ((20 + (bodyN l).length : Nat) : Int) := by
    have := raw_at l [(l.age, 2), (l.options, 1), (l.typ, 1), (l.id, 4), (l.adv, 4), (seqN l, 4), (0, 2)] (bodyW l) (20 + ((bodyN l).length : Int), 2) 18 rfl (wOK_2 (by omega) (by omega)) (by simp [packAll, packN_len]) (.inr (by omega))
    rw [show (18 : Int) = ((18 : Nat) : Int) from rfl]
    exact this.trans (by omega)
  have hq : sealedB ((encN l).drop 2) = true := by
    rw [enc_drop]
    exact sealN_sealed _ _ (by rw [List.length_drop, rawN_len]; omega) (by rw [List.length_drop, rawN_len]; omega)
  have hc : decCode (20 + (bodyN l).length) (encN l) = 0 := by
    unfold decCode
    rw [if_neg (by omega), if_neg (fun e => e hn), if_neg (by rw [hq]; decide), hr, if_pos ⟨h, rfl⟩]
  exact ⟨hc, by unfold decM; rw [if_pos hc, hr]⟩
/-- A byte that is turned behind the age is told. -/
theorem dec_turned {l : LsaM} (h : faultOf l = 0) (p : Nat) (v : Int) (h1 : 2 ≤ p) (h2 : p < 20 + (bodyN l).length) (d0 : v - (encN l).getD p 0 ≠ 0) (d1 : v - (encN l).getD p 0 < 255) (d2 : -255 < v - (encN l).getD p 0) :
    ¬ decCode (20 + (bodyN l).length) ((encN l).set p v) = 0 := by
  have hs := sound_of l h
  have hb := bodyN_len hs
  have hl := encN_len l
  have e : ((encN l).set p v).drop 2 = ((encN l).drop 2).set (p - 2) v := by
    rw [List.drop_set, if_neg (by omega)]
  have hg : ((encN l).drop 2).getD (p - 2) 0 = (encN l).getD p 0 := by
    rw [List.getD_eq_getElem?_getD, List.getElem?_drop, show 2 + (p - 2) = p by omega, ← List.getD_eq_getElem?_getD]
  have hq : sealedB (((encN l).set p v).drop 2) = false := by
    rw [e]
    refine turned_unsealed _ _ _ (by rw [List.length_drop]; omega) ?_ (by rw [hg]; exact d0) (by rw [hg]; exact d1) (by rw [hg]; exact d2)
    rw [enc_drop]
    exact (sealN_sums _ _ (by rw [List.length_drop, rawN_len]; omega)).1
  unfold decCode
  split
  · decide
  split
  · decide
  decide

end Go.Proofs.Ytamclkjofojhmaa

namespace Go.Proofs.Ytamclkjofojhmaa
open Go.RowKit

theorem lwSame_yes (A B : Option Addr) (n m c d : Nat) (xs : List Int) (w : World) (ha : BIn w A n xs) (hb : BIn w B m xs) :
    Calls Try.prog 25 #[.slice A n c, .slice B m d] w fun e w' => e = .returned (.bool true) ∧ w' = w := by
  have e1 := bytes_text (c := c) ha
  have e2 := bytes_text (c := d) hb
  clear ha hb
  go_enter Try.func25, Try.ntmps25
  go_wp2
  go_ret
  exact ⟨ret_bool (by simp), rfl⟩

theorem lwSame_any (A B : Option Addr) (n m c d : Nat) (xs ys : List Int) (w : World) (ha : BIn w A n xs) (hb : BIn w B m ys) (hx : Bytes xs) (hy : Bytes ys) :
    Calls Try.prog 25 #[.slice A n c, .slice B m d] w fun e w' => e = .returned (.bool (decide (xs = ys))) ∧ w' = w := by
  have e1 := bytes_text (c := c) ha
  have e2 := bytes_text (c := d) hb
  clear ha hb
  go_enter Try.func25, Try.ntmps25
  go_wp2
  go_ret
  exact ⟨ret_bool (same_dec hx hy), rfl⟩

theorem lwBig_no (A : Option Addr) (n c : Nat) (w : World) (hn : n ≤ 1048576) :
    Calls Try.prog 12 #[.slice A n c] w fun e w' => e = .returned (.bool false) ∧ w' = w := by
  have h1 : ¬ (1048576 : Int) < n := by omega
  go_enter Try.func12, Try.ntmps12
  go_wp2
  go_ret
  exact ⟨rfl, rfl⟩

theorem modlt (x m : Int) (h : 0 < m) : 0 ≤ x % m ∧ x % m < m := ⟨Int.emod_nonneg _ (by omega), Int.emod_lt_of_pos _ h⟩

set_option maxHeartbeats 800000 in
/-- lwAt: a place below m, for a choice i that is small. -/
theorem lwAt_any (A : Option Addr) (n c : Nat) (cs : List Int) (i m : Nat) (w : World) (ha : BIn w A n cs) (hb : Bytes cs) (hn : n ≤ 1048576) (hi : i ≤ 1000) (hm0 : 0 < m) (hm : m ≤ 1000000) :
    Calls Try.prog 26 #[.slice A n c, .int .i64 i, .int .i64 m] w fun e w' => ∃ v : Int, e = .returned (.int .i64 v) ∧ (0 ≤ v ∧ v < m) ∧ ∃ k, w' = w.drewN k := by
  by_cases h1 : m ≤ 1
  · have h1' : (m : Int) ≤ 1 := by omega
    have HM : Hid (0 < m) := hm0
    go_enter Try.func26, Try.ntmps26
    go_wp2
    go_ret
    exact ⟨0, rfl, ⟨by omega, by have := HM.out; omega⟩, 0, rfl⟩
  · have h1' : ¬ (m : Int) ≤ 1 := by omega
    have hmp : (0 : Int) < m := by omega
    by_cases h0 : n = 0
    · subst h0
      clear ha
      go_enter Try.func26, Try.ntmps26
      go_wp2
      go_ret
      exact ⟨_, rfl, modlt _ _ hmp, 0, rfl⟩
    · have hnp : 0 < n := by omega
      obtain ⟨b, o, rfl, hcell⟩ := ha.2 hnp
      obtain ⟨j0, hj0, hl0⟩ := tmod_nat i n hnp
      obtain ⟨j1, hj1, hl1⟩ := tmod_nat (i + 1) n hnp
      have hj1 : ((i : Int) + 1).tmod (n : Int) = (j1 : Int) := hj1
      obtain ⟨q, hq, hq0⟩ := tdiv_nat i n
      have d0 := hcell j0 hl0
      have d1 := hcell j1 hl1
      have b0 := hb.at_ j0
      have b1 := hb.at_ j1
      obtain ⟨z0, hz0⟩ : ∃ z, cs.getD j0 0 = z := ⟨_, rfl⟩
      obtain ⟨z1, hz1⟩ : ∃ z, cs.getD j1 0 = z := ⟨_, rfl⟩
      rw [hz0] at d0 b0
      rw [hz1] at d1 b1
      obtain ⟨b00, b01⟩ := b0
      obtain ⟨b10, b11⟩ := b1
      clear hz0 hz1 hcell ha hb
      have i0 : (j0 : Int) < n := by omega
      have i1 : (j1 : Int) < n := by omega
      have hne : ((n : Int) == 0) = false := by simp; omega
      have hnb : (n : Int) ≤ 1048576 := by omega
      have hib : (i : Int) ≤ 1000 := by omega
      have w1 : IntKind.i64.wrap ((i : Int) + 1) = (i : Int) + 1 := IntWalk.i64_in _ (by omega)
      have w3 : IntKind.i64.wrap ((q : Int) * 3) = (q : Int) * 3 := IntWalk.i64_in _ (by omega)
      have w4 : IntKind.i64.wrap (z0 + (q : Int) * 3) = z0 + (q : Int) * 3 := IntWalk.i64_in _ (by omega)
      by_cases h2 : m ≤ 200
      · have h2' : ¬ (200 : Int) < m := by omega
        go_enter Try.func26, Try.ntmps26
        go_wp2
        go_quiet (fail)
        go_wp2
        go_ret
        exact ⟨_, rfl, modlt _ _ hmp, _, rfl⟩
      · have h2' : (200 : Int) < m := by omega
        go_enter Try.func26, Try.ntmps26
        go_wp2
        go_quiet (fail)
        go_wp2
        go_ret
        exact ⟨_, rfl, modlt _ _ hmp, _, rfl⟩

theorem lwAt_two (A : Option Addr) (n c : Nat) (cs : List Int) (m : Nat) (w : World) (ha : BIn w A n cs) (hb : Bytes cs) (hn : n ≤ 1048576) (hm0 : 0 < m) (hm : m ≤ 1000000) :
    Calls Try.prog 26 #[.slice A n c, .int .i64 2, .int .i64 m] w fun e w' => ∃ v : Int, e = .returned (.int .i64 v) ∧ (0 ≤ v ∧ v < m) ∧ ∃ k, w' = w.drewN k :=
  lwAt_any A n c cs 2 m w ha hb hn (by omega) hm0 hm
theorem lwAt_three (A : Option Addr) (n c : Nat) (cs : List Int) (w : World) (ha : BIn w A n cs) (hb : Bytes cs) (hn : n ≤ 1048576) :
    Calls Try.prog 26 #[.slice A n c, .int .i64 3, .int .i64 8] w fun e w' => ∃ v : Int, e = .returned (.int .i64 v) ∧ (0 ≤ v ∧ v < 8) ∧ ∃ k, w' = w.drewN k :=
  lwAt_any A n c cs 3 8 w ha hb hn (by omega) (by omega) (by omega)

end Go.Proofs.Ytamclkjofojhmaa

namespace Go.Proofs.Ytamclkjofojhmaa
open Go.RowKit
set_option linter.unusedVariables false

theorem sameLsas_self (x : LsaM) (q q' : Bool) (lo hi lo' hi' : Nat) (A B A' B' : Option Addr) (n c m d n' c' m' d' : Nat) (w : World) (hx : LsaAt q lo hi w A n B m x) (hy : LsaAt q' lo' hi' w A' n' B' m' x) (hn : n ≤ 1048576) (hm : m ≤ 1048576) (hn' : n' ≤ 1048576) (hm' : m' ≤ 1048576) :
    Calls Try.prog 23 #[.agg (lsaCells x A B n c m d), .agg (lsaCells x A' B' n' c' m' d')] w fun e w' => e = .returned (.bool true) ∧ Below w.heap.size w w' :=
  (sameLsas_any x x q q' lo hi lo' hi' A B A' B' n c m d n' c' m' d' w hx.in_ hy.in_ hx.le hy.le hn hm hn' hm').mono fun e w' h => ⟨by rw [h.1]; exact ret_bool (decide_eq_true rfl), h.2⟩
theorem lwAt_b (A : Option Addr) (n c : Nat) (cs : List Int) (m : Nat) (w : World) (ha : BIn w A n cs) (hb : Bytes cs) (hn : n ≤ 1048576) (hm0 : 0 < m) (hm : m ≤ 1000000) :
    Calls Try.prog 26 #[.slice A n c, .int .i64 2, .int .i64 m] w fun e w' => ∃ v : Int, e = .returned (.int .i64 v) ∧ 0 ≤ v ∧ v < m ∧ Below w.heap.size w w' :=
  (lwAt_two A n c cs m w ha hb hn hm0 hm).mono fun e w' ⟨v, h1, h2, k, h3⟩ => ⟨v, h1, h2.1, h2.2, by rw [h3]; exact below_drewN (Below.refl _ _) k⟩
theorem fieldR0 (W : World) (r : Int) (x : LsaM) (E F : Option Addr) (k d m d2 : Nat) : (Instr.field 36 (.agg (resCells r x E F k d m d2)) 0).run Try.prog W = .ok (.int .i64 r) W := by kernel_rfl
theorem fieldR1 (W : World) (r : Int) (x : LsaM) (E F : Option Addr) (k d m d2 : Nat) : (Instr.field 36 (.agg (resCells r x E F k d m d2)) 1).run Try.prog W = .ok (.agg (lsaCells x E F k d m d2)) W := by kernel_rfl
attribute [local go_sem high] fieldR0 fieldR1

theorem own_of_box0 {w : World} {g : Nat} (h : Box w g 5 #[]) : Own w g (some ⟨g, 0, none⟩) 0 0 [] :=
  ⟨by simp, .inr ⟨g, 0, #[], rfl, Nat.le_refl _, h, Nat.le_refl _, Nat.zero_le _, by simp, by simp⟩⟩
theorem lwAt_b3 (A : Option Addr) (n c : Nat) (cs : List Int) (w : World) (ha : BIn w A n cs) (hb : Bytes cs) (hn : n ≤ 1048576) :
    Calls Try.prog 26 #[.slice A n c, .int .i64 3, .int .i64 8] w fun e w' => ∃ v : Int, e = .returned (.int .i64 v) ∧ 0 ≤ v ∧ v < 8 ∧ Below w.heap.size w w' :=
  (lwAt_three A n c cs w ha hb hn).mono fun e w' ⟨v, h1, h2, k, h3⟩ => ⟨v, h1, h2.1, h2.2, by rw [h3]; exact below_drewN (Below.refl _ _) k⟩
theorem sameLsas_c (x y : LsaM) (q q' : Bool) (lo hi lo' hi' : Nat) (A B A' B' : Option Addr) (n c m d n' c' m' d' : Nat) (w : World) (hx : LsaAt q lo hi w A n B m x) (hy : LsaAt q' lo' hi' w A' n' B' m' y) (hn : n ≤ 1048576) (hm : m ≤ 1048576) (hn' : n' ≤ 1048576) (hm' : m' ≤ 1048576) :
    Calls Try.prog 23 #[.agg (lsaCells x A B n c m d), .agg (lsaCells y A' B' n' c' m' d')] w fun e w' => e = .returned (.bool (decide (x = y))) ∧ Below w.heap.size w w' :=
  sameLsas_any x y q q' lo hi lo' hi' A B A' B' n c m d n' c' m' d' w hx.in_ hy.in_ hx.le hy.le hn hm hn' hm'
theorem specSameLsas_c (x y : LsaM) (q q' : Bool) (lo hi lo' hi' : Nat) (A B A' B' : Option Addr) (n c m d n' c' m' d' : Nat) (w : World) (hx : LsaAt q lo hi w A n B m x) (hy : LsaAt q' lo' hi' w A' n' B' m' y) (hn : n ≤ 1048576) (hm : m ≤ 1048576) (hn' : n' ≤ 1048576) (hm' : m' ≤ 1048576) :
    Calls Try.prog 24 #[.agg (lsaCells x A B n c m d), .agg (lsaCells y A' B' n' c' m' d')] w fun e w' => e = .returned (.bool (decide (x = y))) ∧ Below w.heap.size w w' :=
  specSameLsas_any x y q q' lo hi lo' hi' A B A' B' n c m d n' c' m' d' w hx.in_ hy.in_ hx.le hy.le hn hm hn' hm'
theorem dec_good {n : Nat} {xs : List Int} (h : decCode n xs = 0) : faultOf (decM n xs) = 0 ∧ ebytes (decM n xs) = xs := by
  have hM : decM n xs = readM n xs := by unfold decM; rw [if_pos h]
  unfold decCode at h
  split at h
  · cases h
  split at h
  · cases h
  split at h
  · cases h
  split at h
  · rename_i hg
    rw [hM]
    exact ⟨hg.1, by unfold ebytes; rw [if_pos hg.1]; exact hg.2⟩
  · cases h
theorem fieldB0 (w : World) (x : Int) (A : Option Addr) (n c : Nat) : (Instr.field 32 (.agg #[.int .i64 x, .slice A n c]) 0).run Try.prog w = .ok (.int .i64 x) w := by kernel_rfl
theorem fieldB1 (w : World) (x : Int) (A : Option Addr) (n c : Nat) : (Instr.field 32 (.agg #[.int .i64 x, .slice A n c]) 1).run Try.prog w = .ok (.slice A n c) w := by kernel_rfl
theorem neq_int_self (a b : Int) (W : World) : (binOp .neq 42 (.agg #[.int .i64 a, .int .i64 b]) (.agg #[.int .i64 a, .int .i64 b])).run Try.prog W = .ok (.bool false) W := by simp [go_sem]
theorem turnedB (z : Int) (b : Nat) (h0 : 0 ≤ z) (h1 : z < 256) (hb : b < 8) : 0 ≤ bits .xor .u8 z (2 ^ min b 8 % 256) ∧ bits .xor .u8 z (2 ^ min b 8 % 256) < 256 ∧ bits .xor .u8 z (2 ^ min b 8 % 256) - z ≠ 0 ∧ bits .xor .u8 z (2 ^ min b 8 % 256) - z < 255 ∧ -255 < bits .xor .u8 z (2 ^ min b 8 % 256) - z := by
  have key : ∀ z : Fin 256, ∀ b : Fin 8, 0 ≤ bits .xor .u8 (z.val : Int) (2 ^ min b.val 8 % 256) ∧ bits .xor .u8 (z.val : Int) (2 ^ min b.val 8 % 256) < 256 ∧ bits .xor .u8 (z.val : Int) (2 ^ min b.val 8 % 256) - (z.val : Int) ≠ 0 ∧ bits .xor .u8 (z.val : Int) (2 ^ min b.val 8 % 256) - (z.val : Int) < 255 ∧ -255 < bits .xor .u8 (z.val : Int) (2 ^ min b.val 8 % 256) - (z.val : Int) := by decide +kernel
  obtain ⟨n, rfl⟩ := Int.eq_ofNat_of_zero_le h0
  exact key ⟨n, by omega⟩ ⟨b, hb⟩
attribute [local go_sem high] fieldB0 fieldB1 neq_int_self

set_option maxRecDepth 100000 in
set_option maxHeartbeats 6400000 in
theorem law_Lsas (A0 : Option Addr) (n0 c0 : Nat) (cs : List Int) (w : World) (ha : BIn w A0 n0 cs) (hb : Bytes cs) (hm : n0 ≤ maxLen) :
    Calls Try.prog 3 #[.slice A0 n0 c0] w fun e w' => e = .returned (.bool true) ∧ Below w.heap.size w w' := by
  unfold maxLen at hm
  by_cases hbig : 1048576 < n0
  · have h1 : (1048576 : Int) < n0 := by omega
    go_enter Try.func3, Try.ntmps3
    go_wp2
    go_ret
    exact ⟨rfl, Below.refl _ _⟩
  have hn : n0 ≤ 1048576 := by omega
  clear hm hbig
  have HB := Lib.hid (Below.refl w.heap.size w)
  have HD := ha.hold
  have HBY := Lib.hid hb
  clear ha hb
  go_enter Try.func3, Try.ntmps3
  go_wp2_with fail
  refine (lwBig_no A0 n0 c0 _ hn).mono ?_
  rintro e w1 ⟨rfl, rfl⟩
  go_wp2_with fail
  refine (drawEncode_any A0 n0 c0 cs _ HD.out HBY.out hn).mono ?_
  rintro e w2 ⟨l, A, B, n, c, m, d, rfl, hl, hn1, hm1, hb⟩
  have Z1 := Lib.hid hb.size
  replace HD := HD.below hb
  replace HB := Lib.hid (below_step HB.out hb)
  clear hb
  have HL := hl.kept; clear hl
  obtain ⟨r, hr⟩ : ∃ z, faultOf l = z := ⟨_, rfl⟩
  have HRr := Lib.hid hr; clear hr
  obtain ⟨sv, hr⟩ : ∃ z, sumV l = z := ⟨_, rfl⟩
  have HRsv := Lib.hid hr; clear hr
  go_wp2_with fail
  refine Calls.name ?_
  intro U3 hU3
  have hb : Below w2.heap.size w2 U3 := by rw [hU3]; exact ((Below.refl _ _).alloc (Nat.le_refl _) _)
  have zz : Hid (w2.heap.size + 1 = U3.heap.size) := Lib.hid (by rw [hU3]; simp)
  have HX1 : Kept w2.heap.size (w2.heap.size + 1) (BoxK w2.heap.size 29 #[.int .i64 l.age, .int .i64 l.options, .int .i64 l.typ, .int .i64 l.id, .int .i64 l.adv, .int .i64 l.seq, .slice A n c, .slice B m d, .int .i64 l.mask, .int .i64 l.cost]) U3 := by rw [hU3]; exact Kept.box (Box.made_at _ _ _ rfl)
  replace HD := HD.below hb
  replace HL := HL.below hb
  replace HB := Lib.hid (below_step HB.out hb)
  clear hb
  have Z2 := zz; clear zz
  have Y1 := Lib.hid (And.intro Z1.out Z2.out); clear Z1 Z2
  clear hU3
  refine (encode_any l true _ _ A B n c m d _ HL.lsa (by omega) (by omega)).mono ?_
  rw [HRr.out]
  rintro e w4 ⟨E1, n1, c1, rfl, ho, hb⟩
  have Z3 := Lib.hid hb.size
  have Y2 := Lib.hid (And.intro Y1.out Z3.out); clear Y1 Z3
  replace HD := HD.below hb
  replace HL := HL.below hb
  replace HX1 := HX1.below hb
  replace HB := Lib.hid (below_step HB.out hb)
  clear hb
  have hl1 := ho.len
  have hc1 := ho.cap
  have hl2 := ebytes_len l
  have HE := ho.kept rfl; clear ho
  have l4_0 := HX1.bx.lt
  go_wp2_with fail
  clear l4_0
  refine Calls.name ?_
  intro U5 hU5
  have hb : Below w4.heap.size w4 U5 := by rw [hU5]; exact ((Below.refl _ _).alloc (Nat.le_refl _) _)
  have zz : Hid (w4.heap.size + 1 = U5.heap.size) := Lib.hid (by rw [hU5]; simp)
  have HX2 : Kept w4.heap.size (w4.heap.size + 1) (BoxK w4.heap.size 32 #[.int .i64 r, .slice E1 n1 c1]) U5 := by rw [hU5]; exact Kept.box (Box.made_at _ _ _ rfl)
  replace HD := HD.below hb
  replace HL := HL.below hb
  replace HX1 := HX1.below hb
  replace HE := HE.below hb
  replace HB := Lib.hid (below_step HB.out hb)
  clear hb
  have Z4 := zz; clear zz
  have Y3 := Lib.hid (And.intro Y2.out Z4.out); clear Y2 Z4
  clear hU5
  refine (drawDecode_any A0 n0 c0 cs _ HD.out HBY.out hn).mono ?_
  rintro e w6 ⟨A3, n3, c3, xs, rfl, hx, hy, hc3, hn3, hb⟩
  have Z5 := Lib.hid hb.size
  have Y4 := Lib.hid (And.intro Y3.out Z5.out); clear Y3 Z5
  replace HD := HD.below hb
  replace HL := HL.below hb
  replace HX1 := HX1.below hb
  replace HE := HE.below hb
  replace HX2 := HX2.below hb
  replace HB := Lib.hid (below_step HB.out hb)
  clear hb
  have HX := hx.hold; clear hx
  have HXB := Lib.hid hy; clear hy
  obtain ⟨dc, hr⟩ : ∃ z, decCode n3 xs = z := ⟨_, rfl⟩
  have HRdc := Lib.hid hr; clear hr
  obtain ⟨dx, hr⟩ : ∃ z, decM n3 xs = z := ⟨_, rfl⟩
  have HRdx := Lib.hid hr; clear hr
  have l5_0 := HX1.bx.lt
  have l5_1 := HX2.bx.lt
  go_wp2_with fail
  clear l5_0 l5_1
  refine (decodeOut_any A3 n3 c3 xs _ HX.out HXB.out hc3 (by omega)).mono ?_
  rw [HRdc.out, HRdx.out]
  rintro e w7 ⟨E0, F0, j0, b0, s0, t0, rfl, ht, hj0, hs0, hb⟩
  have Z6 := Lib.hid hb.size
  have Y5 := Lib.hid (And.intro Y4.out Z6.out); clear Y4 Z6
  replace HD := HD.below hb
  replace HL := HL.below hb
  replace HX1 := HX1.below hb
  replace HE := HE.below hb
  replace HX2 := HX2.below hb
  replace HX := HX.below hb
  replace HB := Lib.hid (below_step HB.out hb)
  clear hb
  have HO0 := ht.kept; clear ht
  have l6_0 := HX1.bx.lt
  have l6_1 := HX2.bx.lt
  go_wp2_with fail
  clear l6_0 l6_1
  refine Calls.name ?_
  intro U8 hU8
  have hb : Below w7.heap.size w7 U8 := by rw [hU8]; exact ((Below.refl _ _).alloc (Nat.le_refl _) _)
  have zz : Hid (w7.heap.size + 1 = U8.heap.size) := Lib.hid (by rw [hU8]; simp)
  have HX3 : Kept w7.heap.size (w7.heap.size + 1) (BoxK w7.heap.size 36 #[.int .i64 dc, .int .i64 dx.age, .int .i64 dx.options, .int .i64 dx.typ, .int .i64 dx.id, .int .i64 dx.adv, .int .i64 dx.seq, .slice E0 j0 b0, .slice F0 s0 t0, .int .i64 dx.mask, .int .i64 dx.cost]) U8 := by rw [hU8]; exact Kept.box (Box.made_at _ _ _ rfl)
  replace HD := HD.below hb
  replace HL := HL.below hb
  replace HX1 := HX1.below hb
  replace HE := HE.below hb
  replace HX2 := HX2.below hb
  replace HX := HX.below hb
  replace HO0 := HO0.below hb
  replace HB := Lib.hid (below_step HB.out hb)
  clear hb
  have Z7 := zz; clear zz
  have Y6 := Lib.hid (And.intro Y5.out Z7.out); clear Y5 Z7
  clear hU8
  refine (drawSameL_any A0 n0 c0 cs _ HD.out HBY.out hn).mono ?_
  rintro e w9 ⟨k, A5, B5, n5, c5, m5, d5, j, A6, B6, n6, c6, m6, d6, rfl, hk, hj, hn5, hm5, hn6, hm6, hb⟩
  have Z8 := Lib.hid hb.size
  have Y7 := Lib.hid (And.intro Y6.out Z8.out); clear Y6 Z8
  replace HD := HD.below hb
  replace HL := HL.below hb
  replace HX1 := HX1.below hb
  replace HE := HE.below hb
  replace HX2 := HX2.below hb
  replace HX := HX.below hb
  replace HO0 := HO0.below hb
  replace HX3 := HX3.below hb
  replace HB := Lib.hid (below_step HB.out hb)
  clear hb
  have HK := hk.kept; clear hk
  have HJ := hj.kept; clear hj
  obtain ⟨sb, hr⟩ : ∃ z, decide (k = j) = z := ⟨_, rfl⟩
  have HRsb := Lib.hid hr; clear hr
  have l7_0 := HX1.bx.lt
  have l7_1 := HX2.bx.lt
  have l7_2 := HX3.bx.lt
  go_wp2_with fail
  clear l7_0 l7_1 l7_2
  have hrr : (r != r) = false := by simp
  have hdd : (dc != dc) = false := by simp
  have hss : (sb != sb) = false := by simp
  refine Code.wp_name ?_
  intro U10 hU10
  have hb : Below w9.heap.size w9 U10 := by rw [hU10]; exact (((Below.refl _ _).alloc (Nat.le_refl _) _).alloc (by simp <;> omega) _)
  have zz : Hid (w9.heap.size + 2 = U10.heap.size) := Lib.hid (by rw [hU10]; simp)
  have HX4 : Kept w9.heap.size (w9.heap.size + 1) (BoxK w9.heap.size 29 #[.int .i64 k.age, .int .i64 k.options, .int .i64 k.typ, .int .i64 k.id, .int .i64 k.adv, .int .i64 k.seq, .slice A5 n5 c5, .slice B5 m5 d5, .int .i64 k.mask, .int .i64 k.cost]) U10 := by rw [hU10]; exact Kept.box ((Box.made_at _ _ _ rfl).over _)
  have HX5 : Kept (w9.heap.size + 1) (w9.heap.size + 1 + 1) (BoxK (w9.heap.size + 1) 29 #[.int .i64 j.age, .int .i64 j.options, .int .i64 j.typ, .int .i64 j.id, .int .i64 j.adv, .int .i64 j.seq, .slice A6 n6 c6, .slice B6 m6 d6, .int .i64 j.mask, .int .i64 j.cost]) U10 := by rw [hU10]; exact Kept.box (Box.made_at _ _ _ (by simp <;> omega))
  replace HD := HD.below hb
  replace HL := HL.below hb
  replace HX1 := HX1.below hb
  replace HE := HE.below hb
  replace HX2 := HX2.below hb
  replace HX := HX.below hb
  replace HO0 := HO0.below hb
  replace HX3 := HX3.below hb
  replace HK := HK.below hb
  replace HJ := HJ.below hb
  replace HB := Lib.hid (below_step HB.out hb)
  clear hb
  have Z9 := zz; clear zz
  have Y8 := Lib.hid (And.intro Y7.out Z9.out); clear Y7 Z9
  clear hU10
  have SB : Hid (∀ W, Hid (Below U10.heap.size U10 W) → (fun W => W.cell? ⟨w2.heap.size, 0, none⟩ = some (.int .i64 l.age) ∧ W.cell? ⟨w2.heap.size, 1, none⟩ = some (.int .i64 l.options) ∧ W.cell? ⟨w2.heap.size, 2, none⟩ = some (.int .i64 l.typ) ∧ W.cell? ⟨w2.heap.size, 3, none⟩ = some (.int .i64 l.id) ∧ W.cell? ⟨w2.heap.size, 4, none⟩ = some (.int .i64 l.adv) ∧ W.cell? ⟨w2.heap.size, 5, none⟩ = some (.int .i64 l.seq) ∧ W.cell? ⟨w2.heap.size, 6, none⟩ = some (.slice A n c) ∧ W.cell? ⟨w2.heap.size, 7, none⟩ = some (.slice B m d) ∧ W.cell? ⟨w2.heap.size, 8, none⟩ = some (.int .i64 l.mask) ∧ W.cell? ⟨w2.heap.size, 9, none⟩ = some (.int .i64 l.cost) ∧ W.cell? ⟨w4.heap.size, 0, none⟩ = some (.int .i64 r) ∧ W.cell? ⟨w4.heap.size, 1, none⟩ = some (.slice E1 n1 c1) ∧ W.cell? ⟨w7.heap.size, 0, none⟩ = some (.int .i64 dc) ∧ W.cell? ⟨w7.heap.size, 1, none⟩ = some (.int .i64 dx.age) ∧ W.cell? ⟨w7.heap.size, 2, none⟩ = some (.int .i64 dx.options) ∧ W.cell? ⟨w7.heap.size, 3, none⟩ = some (.int .i64 dx.typ) ∧ W.cell? ⟨w7.heap.size, 4, none⟩ = some (.int .i64 dx.id) ∧ W.cell? ⟨w7.heap.size, 5, none⟩ = some (.int .i64 dx.adv) ∧ W.cell? ⟨w7.heap.size, 6, none⟩ = some (.int .i64 dx.seq) ∧ W.cell? ⟨w7.heap.size, 7, none⟩ = some (.slice E0 j0 b0) ∧ W.cell? ⟨w7.heap.size, 8, none⟩ = some (.slice F0 s0 t0) ∧ W.cell? ⟨w7.heap.size, 9, none⟩ = some (.int .i64 dx.mask) ∧ W.cell? ⟨w7.heap.size, 10, none⟩ = some (.int .i64 dx.cost) ∧ W.cell? ⟨w9.heap.size, 0, none⟩ = some (.int .i64 k.age) ∧ W.cell? ⟨w9.heap.size, 1, none⟩ = some (.int .i64 k.options) ∧ W.cell? ⟨w9.heap.size, 2, none⟩ = some (.int .i64 k.typ) ∧ W.cell? ⟨w9.heap.size, 3, none⟩ = some (.int .i64 k.id) ∧ W.cell? ⟨w9.heap.size, 4, none⟩ = some (.int .i64 k.adv) ∧ W.cell? ⟨w9.heap.size, 5, none⟩ = some (.int .i64 k.seq) ∧ W.cell? ⟨w9.heap.size, 6, none⟩ = some (.slice A5 n5 c5) ∧ W.cell? ⟨w9.heap.size, 7, none⟩ = some (.slice B5 m5 d5) ∧ W.cell? ⟨w9.heap.size, 8, none⟩ = some (.int .i64 k.mask) ∧ W.cell? ⟨w9.heap.size, 9, none⟩ = some (.int .i64 k.cost) ∧ W.cell? ⟨w9.heap.size + 1, 0, none⟩ = some (.int .i64 j.age) ∧ W.cell? ⟨w9.heap.size + 1, 1, none⟩ = some (.int .i64 j.options) ∧ W.cell? ⟨w9.heap.size + 1, 2, none⟩ = some (.int .i64 j.typ) ∧ W.cell? ⟨w9.heap.size + 1, 3, none⟩ = some (.int .i64 j.id) ∧ W.cell? ⟨w9.heap.size + 1, 4, none⟩ = some (.int .i64 j.adv) ∧ W.cell? ⟨w9.heap.size + 1, 5, none⟩ = some (.int .i64 j.seq) ∧ W.cell? ⟨w9.heap.size + 1, 6, none⟩ = some (.slice A6 n6 c6) ∧ W.cell? ⟨w9.heap.size + 1, 7, none⟩ = some (.slice B6 m6 d6) ∧ W.cell? ⟨w9.heap.size + 1, 8, none⟩ = some (.int .i64 j.mask) ∧ W.cell? ⟨w9.heap.size + 1, 9, none⟩ = some (.int .i64 j.cost)) W) := fun W h => ⟨(HX1.below h.out).look 0, (HX1.below h.out).look 1, (HX1.below h.out).look 2, (HX1.below h.out).look 3, (HX1.below h.out).look 4, (HX1.below h.out).look 5, (HX1.below h.out).look 6, (HX1.below h.out).look 7, (HX1.below h.out).look 8, (HX1.below h.out).look 9, (HX2.below h.out).look 0, (HX2.below h.out).look 1, (HX3.below h.out).look 0, (HX3.below h.out).look 1, (HX3.below h.out).look 2, (HX3.below h.out).look 3, (HX3.below h.out).look 4, (HX3.below h.out).look 5, (HX3.below h.out).look 6, (HX3.below h.out).look 7, (HX3.below h.out).look 8, (HX3.below h.out).look 9, (HX3.below h.out).look 10, (HX4.below h.out).look 0, (HX4.below h.out).look 1, (HX4.below h.out).look 2, (HX4.below h.out).look 3, (HX4.below h.out).look 4, (HX4.below h.out).look 5, (HX4.below h.out).look 6, (HX4.below h.out).look 7, (HX4.below h.out).look 8, (HX4.below h.out).look 9, (HX5.below h.out).look 0, (HX5.below h.out).look 1, (HX5.below h.out).look 2, (HX5.below h.out).look 3, (HX5.below h.out).look 4, (HX5.below h.out).look 5, (HX5.below h.out).look 6, (HX5.below h.out).look 7, (HX5.below h.out).look 8, (HX5.below h.out).look 9⟩
  have V0 : Hid (Below U10.heap.size U10 U10.drew) := (Below.refl _ _).drew
  go_region_held3 (fun W => W.cell? ⟨w2.heap.size, 0, none⟩ = some (.int .i64 l.age) ∧ W.cell? ⟨w2.heap.size, 1, none⟩ = some (.int .i64 l.options) ∧ W.cell? ⟨w2.heap.size, 2, none⟩ = some (.int .i64 l.typ) ∧ W.cell? ⟨w2.heap.size, 3, none⟩ = some (.int .i64 l.id) ∧ W.cell? ⟨w2.heap.size, 4, none⟩ = some (.int .i64 l.adv) ∧ W.cell? ⟨w2.heap.size, 5, none⟩ = some (.int .i64 l.seq) ∧ W.cell? ⟨w2.heap.size, 6, none⟩ = some (.slice A n c) ∧ W.cell? ⟨w2.heap.size, 7, none⟩ = some (.slice B m d) ∧ W.cell? ⟨w2.heap.size, 8, none⟩ = some (.int .i64 l.mask) ∧ W.cell? ⟨w2.heap.size, 9, none⟩ = some (.int .i64 l.cost) ∧ W.cell? ⟨w4.heap.size, 0, none⟩ = some (.int .i64 r) ∧ W.cell? ⟨w4.heap.size, 1, none⟩ = some (.slice E1 n1 c1) ∧ W.cell? ⟨w7.heap.size, 0, none⟩ = some (.int .i64 dc) ∧ W.cell? ⟨w7.heap.size, 1, none⟩ = some (.int .i64 dx.age) ∧ W.cell? ⟨w7.heap.size, 2, none⟩ = some (.int .i64 dx.options) ∧ W.cell? ⟨w7.heap.size, 3, none⟩ = some (.int .i64 dx.typ) ∧ W.cell? ⟨w7.heap.size, 4, none⟩ = some (.int .i64 dx.id) ∧ W.cell? ⟨w7.heap.size, 5, none⟩ = some (.int .i64 dx.adv) ∧ W.cell? ⟨w7.heap.size, 6, none⟩ = some (.int .i64 dx.seq) ∧ W.cell? ⟨w7.heap.size, 7, none⟩ = some (.slice E0 j0 b0) ∧ W.cell? ⟨w7.heap.size, 8, none⟩ = some (.slice F0 s0 t0) ∧ W.cell? ⟨w7.heap.size, 9, none⟩ = some (.int .i64 dx.mask) ∧ W.cell? ⟨w7.heap.size, 10, none⟩ = some (.int .i64 dx.cost) ∧ W.cell? ⟨w9.heap.size, 0, none⟩ = some (.int .i64 k.age) ∧ W.cell? ⟨w9.heap.size, 1, none⟩ = some (.int .i64 k.options) ∧ W.cell? ⟨w9.heap.size, 2, none⟩ = some (.int .i64 k.typ) ∧ W.cell? ⟨w9.heap.size, 3, none⟩ = some (.int .i64 k.id) ∧ W.cell? ⟨w9.heap.size, 4, none⟩ = some (.int .i64 k.adv) ∧ W.cell? ⟨w9.heap.size, 5, none⟩ = some (.int .i64 k.seq) ∧ W.cell? ⟨w9.heap.size, 6, none⟩ = some (.slice A5 n5 c5) ∧ W.cell? ⟨w9.heap.size, 7, none⟩ = some (.slice B5 m5 d5) ∧ W.cell? ⟨w9.heap.size, 8, none⟩ = some (.int .i64 k.mask) ∧ W.cell? ⟨w9.heap.size, 9, none⟩ = some (.int .i64 k.cost) ∧ W.cell? ⟨w9.heap.size + 1, 0, none⟩ = some (.int .i64 j.age) ∧ W.cell? ⟨w9.heap.size + 1, 1, none⟩ = some (.int .i64 j.options) ∧ W.cell? ⟨w9.heap.size + 1, 2, none⟩ = some (.int .i64 j.typ) ∧ W.cell? ⟨w9.heap.size + 1, 3, none⟩ = some (.int .i64 j.id) ∧ W.cell? ⟨w9.heap.size + 1, 4, none⟩ = some (.int .i64 j.adv) ∧ W.cell? ⟨w9.heap.size + 1, 5, none⟩ = some (.int .i64 j.seq) ∧ W.cell? ⟨w9.heap.size + 1, 6, none⟩ = some (.slice A6 n6 c6) ∧ W.cell? ⟨w9.heap.size + 1, 7, none⟩ = some (.slice B6 m6 d6) ∧ W.cell? ⟨w9.heap.size + 1, 8, none⟩ = some (.int .i64 j.mask) ∧ W.cell? ⟨w9.heap.size + 1, 9, none⟩ = some (.int .i64 j.cost)) (exact SB.out _ (by assumption))
    (first | (go_at_call 18; ((with_reducible refine (specEncode_any l true _ _ A B n c m d _ (HL.below V0.out).lsa (by omega) (by omega)).mono ?_); rw [HRr.out]; rintro e u1_0 ⟨E2, n2, c2, rfl, ho, hb⟩; have V1 := Lib.hid (below_step V0.out hb); clear hb; clear ho)) | (go_at_call 19; ((with_reducible refine (specDecode_any A3 n3 c3 xs _ (HX.below V1.out).out HXB.out hc3 (by omega)).mono ?_); rw [HRdc.out, HRdx.out]; rintro e u1_1 ⟨E2, F2, j2, b2, s2, t2, rfl, ht, hj2, hs2, hb⟩; have V2 := Lib.hid (below_step V1.out hb); clear hb; clear ht)) | (go_at_call 20; ((with_reducible refine (lsaFault_any l true _ _ A B n c m d _ (HL.below V2.out).lsa (by omega) (by omega)).mono ?_); rw [HRr.out]; rintro e u1_2 ⟨rfl, hb⟩; have V3 := Lib.hid (below_step V2.out hb); clear hb)) | (go_at_call 21; ((with_reducible refine (sum_any l true _ _ A B n c m d _ (HL.below V3.out).lsa (by omega) (by omega)).mono ?_); rw [HRr.out, HRsv.out]; rintro e u1_3 ⟨rfl, hb⟩; have V4 := Lib.hid (below_step V3.out hb); clear hb)) | (go_at_call 22; ((with_reducible refine (specSum_any l true _ _ A B n c m d _ (HL.below V4.out).lsa (by omega) (by omega)).mono ?_); rw [HRr.out, HRsv.out]; rintro e u1_4 ⟨rfl, hb⟩; have V5 := Lib.hid (below_step V4.out hb); clear hb)) | (go_at_call 23; ((with_reducible refine (sameLsas_c k j true true _ _ _ _ A5 B5 A6 B6 n5 c5 m5 d5 n6 c6 m6 d6 _ (HK.below V5.out).lsa (HJ.below V5.out).lsa (by omega) (by omega) (by omega) (by omega)).mono ?_); rw [HRsb.out]; rintro e u1_5 ⟨rfl, hb⟩; have V6 := Lib.hid (below_step V5.out hb); clear hb)) | (go_at_call 24; ((with_reducible refine (specSameLsas_c k j true true _ _ _ _ A5 B5 A6 B6 n5 c5 m5 d5 n6 c6 m6 d6 _ (HK.below V6.out).lsa (HJ.below V6.out).lsa (by omega) (by omega) (by omega) (by omega)).mono ?_); rw [HRsb.out]; rintro e u1_6 ⟨rfl, hb⟩; have V7 := Lib.hid (below_step V6.out hb); clear hb)))
  have hb := V7.out
  clear SB V0 V1 V2 V3 V4 V5 V6 V7
  have Z10 := Lib.hid hb.size
  have Y9 := Lib.hid (And.intro Y8.out Z10.out); clear Y8 Z10
  replace HD := HD.below hb
  replace HL := HL.below hb
  replace HX1 := HX1.below hb
  replace HE := HE.below hb
  replace HX2 := HX2.below hb
  replace HX := HX.below hb
  replace HO0 := HO0.below hb
  replace HX3 := HX3.below hb
  replace HK := HK.below hb
  replace HJ := HJ.below hb
  replace HX4 := HX4.below hb
  replace HX5 := HX5.below hb
  replace HB := Lib.hid (below_step HB.out hb)
  clear hb
  clear hrr hdd hss HK HJ
  have l8_0 := HX1.bx.lt
  have l8_1 := HX2.bx.lt
  have l8_2 := HX3.bx.lt
  have l8_3 := HX4.bx.lt
  have l8_4 := HX5.bx.lt
  go_wp2_with fail
  clear l8_0 l8_1 l8_2 l8_3 l8_4
  by_cases hd : dc = 0
  · have hdg := dec_good (HRdc.out.trans hd)
    rw [HRdx.out] at hdg
    have HFD := Lib.hid hdg.1; have HEB := Lib.hid hdg.2; clear hdg
    have hd1 : (dc == 0) = true := by rw [hd]; rfl
    clear hd
    have SB : Hid (∀ W, Hid (Below u1_6.heap.size u1_6 W) → (fun W => W.cell? ⟨w7.heap.size, 0, none⟩ = some (.int .i64 dc) ∧ W.cell? ⟨w7.heap.size, 1, none⟩ = some (.int .i64 dx.age) ∧ W.cell? ⟨w7.heap.size, 2, none⟩ = some (.int .i64 dx.options) ∧ W.cell? ⟨w7.heap.size, 3, none⟩ = some (.int .i64 dx.typ) ∧ W.cell? ⟨w7.heap.size, 4, none⟩ = some (.int .i64 dx.id) ∧ W.cell? ⟨w7.heap.size, 5, none⟩ = some (.int .i64 dx.adv) ∧ W.cell? ⟨w7.heap.size, 6, none⟩ = some (.int .i64 dx.seq) ∧ W.cell? ⟨w7.heap.size, 7, none⟩ = some (.slice E0 j0 b0) ∧ W.cell? ⟨w7.heap.size, 8, none⟩ = some (.slice F0 s0 t0) ∧ W.cell? ⟨w7.heap.size, 9, none⟩ = some (.int .i64 dx.mask) ∧ W.cell? ⟨w7.heap.size, 10, none⟩ = some (.int .i64 dx.cost)) W) := fun W h => ⟨(HX3.below h.out).look 0, (HX3.below h.out).look 1, (HX3.below h.out).look 2, (HX3.below h.out).look 3, (HX3.below h.out).look 4, (HX3.below h.out).look 5, (HX3.below h.out).look 6, (HX3.below h.out).look 7, (HX3.below h.out).look 8, (HX3.below h.out).look 9, (HX3.below h.out).look 10⟩
    have V0 : Hid (Below u1_6.heap.size u1_6 u1_6.drew) := (Below.refl _ _).drew
    go_region_held3 (fun W => W.cell? ⟨w7.heap.size, 0, none⟩ = some (.int .i64 dc) ∧ W.cell? ⟨w7.heap.size, 1, none⟩ = some (.int .i64 dx.age) ∧ W.cell? ⟨w7.heap.size, 2, none⟩ = some (.int .i64 dx.options) ∧ W.cell? ⟨w7.heap.size, 3, none⟩ = some (.int .i64 dx.typ) ∧ W.cell? ⟨w7.heap.size, 4, none⟩ = some (.int .i64 dx.id) ∧ W.cell? ⟨w7.heap.size, 5, none⟩ = some (.int .i64 dx.adv) ∧ W.cell? ⟨w7.heap.size, 6, none⟩ = some (.int .i64 dx.seq) ∧ W.cell? ⟨w7.heap.size, 7, none⟩ = some (.slice E0 j0 b0) ∧ W.cell? ⟨w7.heap.size, 8, none⟩ = some (.slice F0 s0 t0) ∧ W.cell? ⟨w7.heap.size, 9, none⟩ = some (.int .i64 dx.mask) ∧ W.cell? ⟨w7.heap.size, 10, none⟩ = some (.int .i64 dx.cost)) (exact SB.out _ (by assumption))
      (first | (go_at_call 14; ((with_reducible refine (encode_any dx true _ _ E0 F0 j0 b0 s0 t0 _ (HO0.below V0.out).two.at_ hj0 hs0).mono ?_); rw [HFD.out, HEB.out]; rintro e u2_0 ⟨E7, n7, c7, rfl, ho, hb⟩; have V1 := Lib.hid (below_step V0.out hb); clear hb; have HE7 := ho.kept rfl; clear ho)) | (go_at_call 25; ((with_reducible refine (lwSame_yes E7 A3 n7 n3 c7 c3 xs _ HE7.own.bin (HX.below V1.out).out).mono ?_); rintro e u2_1 ⟨rfl, rfl⟩)) | (go_at_call 19; ((with_reducible refine (specDecode_any A3 n3 c3 xs _ (HX.below V1.out).out HXB.out hc3 (by omega)).mono ?_); rw [HRdc.out, HRdx.out]; rintro e u2_2 ⟨E8, F8, j8, b8, s8, t8, rfl, ht, hj8, hs8, hb⟩; have V3 := Lib.hid (below_step V1.out hb); clear hb; have HS8 := ht.kept; clear ht)) | (go_at_call 23; ((with_reducible refine (sameLsas_self dx true true _ _ _ _ E0 F0 E8 F8 j0 b0 s0 t0 j8 b8 s8 t8 _ (HO0.below V3.out).two.at_ HS8.two.at_ hj0 hs0 hj8 hs8).mono ?_); rintro e u2_3 ⟨rfl, hb⟩; have V4 := Lib.hid (below_step V3.out hb); clear hb)))
    have hb := V4.out
    clear SB V0 V1 V3 V4
    have Z11 := Lib.hid hb.size
    have Y10 := Lib.hid (And.intro Y9.out Z11.out); clear Y9 Z11
    replace HD := HD.below hb
    replace HL := HL.below hb
    replace HX1 := HX1.below hb
    replace HE := HE.below hb
    replace HX2 := HX2.below hb
    replace HX := HX.below hb
    replace HO0 := HO0.below hb
    replace HX3 := HX3.below hb
    replace HX4 := HX4.below hb
    replace HX5 := HX5.below hb
    replace HB := Lib.hid (below_step HB.out hb)
    clear hb
    clear HE7 HS8
    by_cases hr0 : r = 0
    · have hr1 : (r != 0) = false := by rw [hr0]; rfl
      have hF := HRr.out.trans hr0
      have HF := Lib.hid hF
      have hEB : ebytes l = encN l := by unfold ebytes; rw [if_pos hF]
      rw [hEB] at HE hl1
      have hEL := encN_len l
      have hbl := bodyN_len (sound_of l hF)
      have hdec := dec_of_enc hF
      rw [← hEL, hl1] at hdec
      have HD1 := Lib.hid hdec.1; have HD2 := Lib.hid hdec.2; clear hdec hr0 hF hEB
      have HNL : Hid (20 + (bodyN l).length = n1) := Lib.hid (by omega)
      have hn20 : 24 ≤ n1 := by omega
      have hn21 : n1 ≤ 120 := by omega
      have HLE := Lib.hid hl1; clear hEL hbl hl1 hl2
      have c9_0 := HX2.look 0
      have c9_1 := HX2.look 1
      have l9_0 := HX1.bx.lt
      have l9_1 := HX2.bx.lt
      have l9_2 := HX3.bx.lt
      have l9_3 := HX4.bx.lt
      have l9_4 := HX5.bx.lt
      go_wp2_with fail
      clear c9_0 c9_1 l9_0 l9_1 l9_2 l9_3 l9_4
      refine (decodeOut_any E1 n1 c1 (encN l) _ HE.own.bin (encN_bytes l) hc1 (by omega)).mono ?_
      rw [HD1.out, HD2.out]
      rintro e w11 ⟨E9, F9, j9, b9, s9, t9, rfl, ht, hj9, hs9, hb⟩
      have Z12 := Lib.hid hb.size
      have Y11 := Lib.hid (And.intro Y10.out Z12.out); clear Y10 Z12
      replace HD := HD.below hb
      replace HL := HL.below hb
      replace HX1 := HX1.below hb
      replace HE := HE.below hb
      replace HX2 := HX2.below hb
      replace HX := HX.below hb
      replace HO0 := HO0.below hb
      replace HX3 := HX3.below hb
      replace HX4 := HX4.below hb
      replace HX5 := HX5.below hb
      replace HB := Lib.hid (below_step HB.out hb)
      clear hb
      have HO9 := ht.kept; clear ht
      have c10_0 := HX1.look 0
      have c10_1 := HX1.look 1
      have c10_2 := HX1.look 2
      have c10_3 := HX1.look 3
      have c10_4 := HX1.look 4
      have c10_5 := HX1.look 5
      have c10_6 := HX1.look 6
      have c10_7 := HX1.look 7
      have c10_8 := HX1.look 8
      have c10_9 := HX1.look 9
      have l10_0 := HX1.bx.lt
      have l10_1 := HX2.bx.lt
      have l10_2 := HX3.bx.lt
      have l10_3 := HX4.bx.lt
      have l10_4 := HX5.bx.lt
      go_wp2_with fail
      clear c10_0 c10_1 c10_2 c10_3 c10_4 c10_5 c10_6 c10_7 c10_8 c10_9 l10_0 l10_1 l10_2 l10_3 l10_4
      refine Calls.name ?_
      intro U12 hU12
      have hb : Below w11.heap.size w11 U12 := by rw [hU12]; exact ((Below.refl _ _).alloc (Nat.le_refl _) _)
      have zz : Hid (w11.heap.size + 1 = U12.heap.size) := Lib.hid (by rw [hU12]; simp)
      have HX6 : Kept w11.heap.size (w11.heap.size + 1) (BoxK w11.heap.size 36 #[.int .i64 0, .int .i64 l.age, .int .i64 l.options, .int .i64 l.typ, .int .i64 l.id, .int .i64 l.adv, .int .i64 l.seq, .slice E9 j9 b9, .slice F9 s9 t9, .int .i64 l.mask, .int .i64 l.cost]) U12 := by rw [hU12]; exact Kept.box (Box.made_at _ _ _ rfl)
      replace HD := HD.below hb
      replace HL := HL.below hb
      replace HX1 := HX1.below hb
      replace HE := HE.below hb
      replace HX2 := HX2.below hb
      replace HX := HX.below hb
      replace HO0 := HO0.below hb
      replace HX3 := HX3.below hb
      replace HX4 := HX4.below hb
      replace HX5 := HX5.below hb
      replace HO9 := HO9.below hb
      replace HB := Lib.hid (below_step HB.out hb)
      clear hb
      have Z13 := zz; clear zz
      have Y12 := Lib.hid (And.intro Y11.out Z13.out); clear Y11 Z13
      clear hU12
      refine (sameLsas_self l true true _ _ _ _ E9 F9 A B j9 b9 s9 t9 n c m d _ HO9.two.at_ HL.lsa hj9 hs9 (by omega) (by omega)).mono ?_
      rintro e w13 ⟨rfl, hb⟩
      have Z14 := Lib.hid hb.size
      have Y13 := Lib.hid (And.intro Y12.out Z14.out); clear Y12 Z14
      replace HD := HD.below hb
      replace HL := HL.below hb
      replace HX1 := HX1.below hb
      replace HE := HE.below hb
      replace HX2 := HX2.below hb
      replace HX := HX.below hb
      replace HO0 := HO0.below hb
      replace HX3 := HX3.below hb
      replace HX4 := HX4.below hb
      replace HX5 := HX5.below hb
      replace HO9 := HO9.below hb
      replace HX6 := HX6.below hb
      replace HB := Lib.hid (below_step HB.out hb)
      clear hb
      have hlt : ¬ (n1 : Int) < 20 := by omega
      have c11_0 := HX2.look 1
      have l11_0 := HX1.bx.lt
      have l11_1 := HX2.bx.lt
      have l11_2 := HX3.bx.lt
      have l11_3 := HX4.bx.lt
      have l11_4 := HX5.bx.lt
      have l11_5 := HX6.bx.lt
      go_wp2_with (first | (at_builtin; refine wpList_name ?_; intro U14 hU14; have hb : Below w13.heap.size w13 U14 := (by rw [hU14]; exact ((Below.refl _ _).alloc (Nat.le_refl _) _)); have zz : Hid (w13.heap.size + 1 = U14.heap.size) := Lib.hid (by rw [hU14]; simp); have HX7 : Kept w13.heap.size (w13.heap.size + 1) (BoxK w13.heap.size 5 #[]) U14 := (by rw [hU14]; exact Kept.box (Box.made_at _ _ _ rfl)); replace HD := HD.below hb; replace HL := HL.below hb; replace HX1 := HX1.below hb; replace HE := HE.below hb; replace HX2 := HX2.below hb; replace HX := HX.below hb; replace HO0 := HO0.below hb; replace HX3 := HX3.below hb; replace HX4 := HX4.below hb; replace HX5 := HX5.below hb; replace HO9 := HO9.below hb; replace HX6 := HX6.below hb; replace HB := Lib.hid (below_step HB.out hb); clear hb; have Z15 := zz; clear zz; have Y14 := Lib.hid (And.intro Y13.out Z15.out); clear Y13 Z15; clear hU14; refine wpList_app rfl (.tmp 106) (.tmp 108) rfl (B := w13.heap.size) rfl (own_of_box0 HX7.bx) rfl (by omega) HE.own.bin (by omega) (by have := Y14.out; omega) ?_; intro A9 c9 w15 ho hg; have hq : Only w13.heap.size (w13.heap.size + 1) U14 w15 := Only.of_grown hg (fun r hr => by simp only [Option.map_some, Option.some.injEq] at hr; omega); have Z16 := Lib.hid hq.size; have Y15 := Lib.hid (And.intro Y14.out Z16.out); clear Y14 Z16; clear HX7; replace HD := HD.only hq (by have := Y15.out; omega); replace HL := HL.only hq (by have := Y15.out; omega); replace HX1 := HX1.only hq (by have := Y15.out; omega); replace HE := HE.only hq (by have := Y15.out; omega); replace HX2 := HX2.only hq (by have := Y15.out; omega); replace HX := HX.only hq (by have := Y15.out; omega); replace HO0 := HO0.only hq (by have := Y15.out; omega); replace HX3 := HX3.only hq (by have := Y15.out; omega); replace HX4 := HX4.only hq (by have := Y15.out; omega); replace HX5 := HX5.only hq (by have := Y15.out; omega); replace HO9 := HO9.only hq (by have := Y15.out; omega); replace HX6 := HX6.only hq (by have := Y15.out; omega); replace HB := Lib.hid (Below.only HB.out hq (by have := Y15.out; omega) HB.out.size); clear hq hg; rw [Nat.zero_add, List.nil_append] at ho; have HBD := ho.kept rfl; clear ho; have l12_0 := HX1.bx.lt; have l12_1 := HX2.bx.lt; have l12_2 := HX3.bx.lt; have l12_3 := HX4.bx.lt; have l12_4 := HX5.bx.lt; have l12_5 := HX6.bx.lt))
      clear c11_0 l11_0 l11_1 l11_2 l11_3 l11_4 l11_5 l12_0 l12_1 l12_2 l12_3 l12_4 l12_5
      have hbw := HBD.own
      obtain ⟨bb, rfl, hbb1, hbb2⟩ := hbw.form (by omega)
      clear hbw
      obtain ⟨k2, rfl⟩ : ∃ k2, n1 = k2 + 2 := ⟨n1 - 2, by omega⟩
      clear HL HX1 HE HX2 HX HO0 HX3 HX4 HX5 HO9 HX6
      have V0 : Hid (Below w15.heap.size w15 w15.drew) := Lib.hid (Below.refl _ _).drew
      have hwb : w1.heap.size ≤ bb := (by have := Y15.out; omega)
      have hcapB := HBD.own.cap
      have hw2 : IntKind.i64.wrap (k2 : Int) = (k2 : Int) := IntWalk.i64_in _ (by omega)
      go_region_law (first
              | ((show (if Region.wanted (Oper.mk (some 115) _ _ _ _ _) _ = true then _ else _)); go_simp; have PC := lwAt_b A0 n0 c0 cs k2 (w15.drew) (HD.below V0.out).out HBY.out hn (by omega) (by omega); with_reducible refine PC.mono ?_; clear PC; rintro e uu0 ⟨vj, rfl, vj0, vj1, hb⟩; have HD1' := HD.below V0.out; replace HD := HD1'.below hb; clear HD1'; replace HBD := (HBD.below V0.out).below hb; replace HB := Lib.hid (below_step (below_step HB.out V0.out) hb); clear hb; obtain ⟨jj, rfl⟩ := Int.eq_ofNat_of_zero_le vj0; have hjj : 2 + jj < k2 + 2 := (by omega); have ce := HBD.own.cell hjj; have ff := HBD.own.frozen (2 + jj); have hjj' : (2 : Int) + jj < (k2 : Int) + 2 := (by omega); have hjj0 : (0 : Int) ≤ 2 + (jj : Int) := (by omega); have hw3 : IntKind.i64.wrap (2 + (jj : Int)) = 2 + (jj : Int) := IntWalk.i64_in _ (by omega); have htn : (2 + (jj : Int)).toNat = 2 + jj := (by omega))
              | ((show (if Region.wanted (Oper.mk (some 120) _ _ _ _ _) _ = true then _ else _)); go_simp; have PC := lwAt_b3 A0 n0 c0 cs uu0 HD.out HBY.out hn; with_reducible refine PC.mono ?_; clear PC; rintro e uu1 ⟨vb, rfl, vb0, vb1, hb⟩; replace HD := HD.below hb; replace HBD := HBD.below hb; replace HB := Lib.hid (below_step HB.out hb); clear hb; obtain ⟨jb, rfl⟩ := Int.eq_ofNat_of_zero_le vb0; have ce2 := HBD.own.cell hjj; have ff2 := HBD.own.frozen (2 + jj)))
      all_goals
        go_wp2_with fail
        have hz := (encN_bytes l).at_ (2 + jj)
        have hflip := turnedB _ jb hz.1 hz.2 (by omega)
        rw [List.getD_eq_getElem?_getD] at hflip
        obtain ⟨v, hv⟩ : ∃ v, bits .xor .u8 ((encN l)[2 + jj]?.getD 0) (2 ^ min jb 8 % 256) = v := ⟨_, rfl⟩
        rw [hv] at hflip ⊢
        rw [← List.getD_eq_getElem?_getD] at hflip
        have hst := HBD.own.stored (2 + jj) v
        have hwz := HB.out.size
        have HBX := Lib.hid (HB.out.grown hst.2 hwz (fun r hr => by injection hr with hr; omega))
        have hnz := dec_turned HF.out (2 + jj) v (by omega) (by have := HNL.out; omega) hflip.2.2.1 hflip.2.2.2.1 hflip.2.2.2.2
        rw [HNL.out] at hnz
        obtain ⟨dz, hdz⟩ : ∃ z, decCode (k2 + 2) ((encN l).set (2 + jj) v) = z := ⟨_, rfl⟩
        rw [hdz] at hnz
        have hz1 : (dz != 0) = true := by rw [bne_iff_ne]; exact hnz
        refine (decodeOut_any (some ⟨bb, 0, none⟩) (k2 + 2) c9 ((encN l).set (2 + jj) v) _ hst.1.bin ((encN_bytes l).set _ _ hflip.1 hflip.2.1) hcapB (by omega)).mono ?_
        rw [hdz]
        rintro e wz ⟨E, F, kk, d', m', d2, rfl, ht, _, _, hb⟩
        have HBZ := Lib.hid (below_step HBX.out hb)
        clear ht hb hst hnz hflip hz hv hdz ce ff ce2 ff2
        go_wp2
        go_ret
        exact ⟨rfl, HBZ.out⟩
    · have hr1 : (r != 0) = true := by rw [bne_iff_ne]; exact hr0
      clear hr0
      have c9_0 := HX2.look 0
      have l9_0 := HX1.bx.lt
      have l9_1 := HX2.bx.lt
      have l9_2 := HX3.bx.lt
      have l9_3 := HX4.bx.lt
      have l9_4 := HX5.bx.lt
      go_wp2
      clear c9_0 l9_0 l9_1 l9_2 l9_3 l9_4
      go_ret
      exact ⟨rfl, HB.out⟩
  · have hd1 : (dc == 0) = false := by rw [beq_eq_false_iff_ne]; exact hd
    clear hd
    have SB : Hid (∀ W, Hid (Below u1_6.heap.size u1_6 W) → (fun W => W.cell? ⟨w7.heap.size, 0, none⟩ = some (.int .i64 dc) ∧ W.cell? ⟨w7.heap.size, 1, none⟩ = some (.int .i64 dx.age) ∧ W.cell? ⟨w7.heap.size, 2, none⟩ = some (.int .i64 dx.options) ∧ W.cell? ⟨w7.heap.size, 3, none⟩ = some (.int .i64 dx.typ) ∧ W.cell? ⟨w7.heap.size, 4, none⟩ = some (.int .i64 dx.id) ∧ W.cell? ⟨w7.heap.size, 5, none⟩ = some (.int .i64 dx.adv) ∧ W.cell? ⟨w7.heap.size, 6, none⟩ = some (.int .i64 dx.seq) ∧ W.cell? ⟨w7.heap.size, 7, none⟩ = some (.slice E0 j0 b0) ∧ W.cell? ⟨w7.heap.size, 8, none⟩ = some (.slice F0 s0 t0) ∧ W.cell? ⟨w7.heap.size, 9, none⟩ = some (.int .i64 dx.mask) ∧ W.cell? ⟨w7.heap.size, 10, none⟩ = some (.int .i64 dx.cost)) W) := fun W h => ⟨(HX3.below h.out).look 0, (HX3.below h.out).look 1, (HX3.below h.out).look 2, (HX3.below h.out).look 3, (HX3.below h.out).look 4, (HX3.below h.out).look 5, (HX3.below h.out).look 6, (HX3.below h.out).look 7, (HX3.below h.out).look 8, (HX3.below h.out).look 9, (HX3.below h.out).look 10⟩
    have V0 : Hid (Below u1_6.heap.size u1_6 u1_6.drew) := (Below.refl _ _).drew
    refine wp_region_held_drew (S := (fun W => W.cell? ⟨w7.heap.size, 0, none⟩ = some (.int .i64 dc) ∧ W.cell? ⟨w7.heap.size, 1, none⟩ = some (.int .i64 dx.age) ∧ W.cell? ⟨w7.heap.size, 2, none⟩ = some (.int .i64 dx.options) ∧ W.cell? ⟨w7.heap.size, 3, none⟩ = some (.int .i64 dx.typ) ∧ W.cell? ⟨w7.heap.size, 4, none⟩ = some (.int .i64 dx.id) ∧ W.cell? ⟨w7.heap.size, 5, none⟩ = some (.int .i64 dx.adv) ∧ W.cell? ⟨w7.heap.size, 6, none⟩ = some (.int .i64 dx.seq) ∧ W.cell? ⟨w7.heap.size, 7, none⟩ = some (.slice E0 j0 b0) ∧ W.cell? ⟨w7.heap.size, 8, none⟩ = some (.slice F0 s0 t0) ∧ W.cell? ⟨w7.heap.size, 9, none⟩ = some (.int .i64 dx.mask) ∧ W.cell? ⟨w7.heap.size, 10, none⟩ = some (.int .i64 dx.cost))) (by kernel_rfl) ?_ (fun hHeld => ?_)
    · (try dsimp only); exact SB.out _ (by assumption)
    refine wpAnyH_take (i := 0) (v := ?v2_0) rfl (by kernel_rfl) (by kernel_rfl) (by kernel_rfl) (fun _ _ _ h => h) (Or.inl ⟨by rfl, ?hy2_0⟩) (by assumption) ?rest2_0
    case hy2_0 => (intro W hSw; (try dsimp only at hSw); (go_simp <;> with_reducible rfl))
    (try simp only [List.getElem_toArray, List.getElem_cons_zero, Act.put, List.setIfInBounds_toArray, List.set_cons_zero, List.set_cons_succ])
    refine wpAnyH_take (i := 1) (v := ?v2_1) rfl (by kernel_rfl) (by kernel_rfl) (by kernel_rfl) (fun _ _ _ h => h) (Or.inl ⟨by rfl, ?hy2_1⟩) (by assumption) ?rest2_1
    case hy2_1 => (intro W hSw; (try dsimp only at hSw); (go_simp <;> with_reducible rfl))
    (try simp only [List.getElem_toArray, List.getElem_cons_succ, List.getElem_cons_zero, Act.put, List.setIfInBounds_toArray, List.set_cons_zero, List.set_cons_succ])
    refine wpAnyH_take (i := 2) (v := ?v2_2) rfl (by kernel_rfl) (by kernel_rfl) (by kernel_rfl) (fun _ _ _ h => h) (Or.inl ⟨by rfl, ?hy2_2⟩) (by assumption) ?rest2_2
    case hy2_2 => (intro W hSw; (try dsimp only at hSw); (go_simp <;> with_reducible rfl))
    (try simp only [List.getElem_toArray, List.getElem_cons_succ, List.getElem_cons_zero, Act.put, List.setIfInBounds_toArray, List.set_cons_zero, List.set_cons_succ])
    refine wpAnyH_take (i := 3) (v := ?v2_3) rfl (by kernel_rfl) (by kernel_rfl) (by kernel_rfl) (fun _ _ _ h => h) (Or.inl ⟨by rfl, ?hy2_3⟩) (by assumption) ?rest2_3
    case hy2_3 => (intro W hSw; (try dsimp only at hSw); (go_simp <;> with_reducible rfl))
    (try simp only [List.getElem_toArray, List.getElem_cons_succ, List.getElem_cons_zero, Act.put, List.setIfInBounds_toArray, List.set_cons_zero, List.set_cons_succ])
    refine wpAnyH_take (i := 4) (v := undef) rfl (by kernel_rfl) (by kernel_rfl) (by kernel_rfl) (fun _ _ _ h => h) (Or.inr ⟨by rfl, rfl⟩) (by assumption) ?_
    (try simp only [List.getElem_toArray, List.getElem_cons_succ, List.getElem_cons_zero, Act.put, List.setIfInBounds_toArray, List.set_cons_zero, List.set_cons_succ])
    refine wpAnyH_take (i := 5) (v := undef) rfl (by kernel_rfl) (by kernel_rfl) (by kernel_rfl) (fun _ _ _ h => h) (Or.inr ⟨by rfl, rfl⟩) (by assumption) ?_
    (try simp only [List.getElem_toArray, List.getElem_cons_succ, List.getElem_cons_zero, Act.put, List.setIfInBounds_toArray, List.set_cons_zero, List.set_cons_succ])
    refine wpAnyH_take (i := 6) (v := undef) rfl (by kernel_rfl) (by kernel_rfl) (by kernel_rfl) (fun _ _ _ h => h) (Or.inr ⟨by rfl, rfl⟩) (by assumption) ?_
    (try simp only [List.getElem_toArray, List.getElem_cons_succ, List.getElem_cons_zero, Act.put, List.setIfInBounds_toArray, List.set_cons_zero, List.set_cons_succ])
    refine wpAnyH_take (i := 7) (v := undef) rfl (by kernel_rfl) (by kernel_rfl) (by kernel_rfl) (fun _ _ _ h => h) (Or.inr ⟨by rfl, rfl⟩) (by assumption) ?_
    (try simp only [List.getElem_toArray, List.getElem_cons_succ, List.getElem_cons_zero, Act.put, List.setIfInBounds_toArray, List.set_cons_zero, List.set_cons_succ])
    refine wpAnyH_take (i := 8) (v := undef) rfl (by kernel_rfl) (by kernel_rfl) (by kernel_rfl) (fun _ _ _ h => h) (Or.inr ⟨by rfl, rfl⟩) (by assumption) ?_
    (try simp only [List.getElem_toArray, List.getElem_cons_succ, List.getElem_cons_zero, Act.put, List.setIfInBounds_toArray, List.set_cons_zero, List.set_cons_succ])
    refine wpAnyH_take (i := 9) (v := undef) rfl (by kernel_rfl) (by kernel_rfl) (by kernel_rfl) (fun _ _ _ h => h) (Or.inr ⟨by rfl, rfl⟩) (by assumption) ?_
    (try simp only [List.getElem_toArray, List.getElem_cons_succ, List.getElem_cons_zero, Act.put, List.setIfInBounds_toArray, List.set_cons_zero, List.set_cons_succ])
    refine wpAnyH_take (i := 10) (v := undef) rfl (by kernel_rfl) (by kernel_rfl) (by kernel_rfl) (fun _ _ _ h => h) (Or.inr ⟨by rfl, rfl⟩) (by assumption) ?_
    (try simp only [List.getElem_toArray, List.getElem_cons_succ, List.getElem_cons_zero, Act.put, List.setIfInBounds_toArray, List.set_cons_zero, List.set_cons_succ])
    refine wpAnyH_take (i := 11) (v := undef) rfl (by kernel_rfl) (by kernel_rfl) (by kernel_rfl) (fun _ _ _ h => h) (Or.inr ⟨by rfl, rfl⟩) (by assumption) ?_
    (try simp only [List.getElem_toArray, List.getElem_cons_succ, List.getElem_cons_zero, Act.put, List.setIfInBounds_toArray, List.set_cons_zero, List.set_cons_succ])
    refine wpAnyH_take (i := 12) (v := undef) rfl (by kernel_rfl) (by kernel_rfl) (by kernel_rfl) (fun _ _ _ h => h) (Or.inr ⟨by rfl, rfl⟩) (by assumption) ?_
    (try simp only [List.getElem_toArray, List.getElem_cons_succ, List.getElem_cons_zero, Act.put, List.setIfInBounds_toArray, List.set_cons_zero, List.set_cons_succ])
    refine wpAnyH_take (i := 13) (v := undef) rfl (by kernel_rfl) (by kernel_rfl) (by kernel_rfl) (fun _ _ _ h => h) (Or.inr ⟨by rfl, rfl⟩) (by assumption) ?_
    (try simp only [List.getElem_toArray, List.getElem_cons_succ, List.getElem_cons_zero, Act.put, List.setIfInBounds_toArray, List.set_cons_zero, List.set_cons_succ])
    refine wpAnyH_take (i := 14) (v := undef) rfl (by kernel_rfl) (by kernel_rfl) (by kernel_rfl) (fun _ _ _ h => h) (Or.inr ⟨by rfl, rfl⟩) (by assumption) ?_
    (try simp only [List.getElem_toArray, List.getElem_cons_succ, List.getElem_cons_zero, Act.put, List.setIfInBounds_toArray, List.set_cons_zero, List.set_cons_succ])
    refine wpAnyH_take (i := 15) (v := undef) rfl (by kernel_rfl) (by kernel_rfl) (by kernel_rfl) (fun _ _ _ h => h) (Or.inr ⟨by rfl, rfl⟩) (by assumption) ?_
    (try simp only [List.getElem_toArray, List.getElem_cons_succ, List.getElem_cons_zero, Act.put, List.setIfInBounds_toArray, List.set_cons_zero, List.set_cons_succ])
    refine wpAnyH_take (i := 16) (v := undef) rfl (by kernel_rfl) (by kernel_rfl) (by kernel_rfl) (fun _ _ _ h => h) (Or.inr ⟨by rfl, rfl⟩) (by assumption) ?_
    (try simp only [List.getElem_toArray, List.getElem_cons_succ, List.getElem_cons_zero, Act.put, List.setIfInBounds_toArray, List.set_cons_zero, List.set_cons_succ])
    refine wpAnyH_take (i := 17) (v := undef) rfl (by kernel_rfl) (by kernel_rfl) (by kernel_rfl) (fun _ _ _ h => h) (Or.inr ⟨by rfl, rfl⟩) (by assumption) ?_
    (try simp only [List.getElem_toArray, List.getElem_cons_succ, List.getElem_cons_zero, Act.put, List.setIfInBounds_toArray, List.set_cons_zero, List.set_cons_succ])
    refine wpAnyH_take (i := 18) (v := undef) rfl (by kernel_rfl) (by kernel_rfl) (by kernel_rfl) (fun _ _ _ h => h) (Or.inr ⟨by rfl, rfl⟩) (by assumption) ?_
    (try simp only [List.getElem_toArray, List.getElem_cons_succ, List.getElem_cons_zero, Act.put, List.setIfInBounds_toArray, List.set_cons_zero, List.set_cons_succ])
    refine wpAnyH_take (i := 19) (v := undef) rfl (by kernel_rfl) (by kernel_rfl) (by kernel_rfl) (fun _ _ _ h => h) (Or.inr ⟨by rfl, rfl⟩) (by assumption) ?_
    (try simp only [List.getElem_toArray, List.getElem_cons_succ, List.getElem_cons_zero, Act.put, List.setIfInBounds_toArray, List.set_cons_zero, List.set_cons_succ])
    refine wpAnyH_take (i := 20) (v := ?v2_20) rfl (by kernel_rfl) (by kernel_rfl) (by kernel_rfl) (fun _ _ _ h => h) (Or.inl ⟨by rfl, ?hy2_20⟩) (by assumption) ?rest2_20
    case hy2_20 => (intro W hSw; (try dsimp only at hSw); (go_simp <;> with_reducible rfl))
    (try simp only [List.getElem_toArray, List.getElem_cons_succ, List.getElem_cons_zero, Act.put, List.setIfInBounds_toArray, List.set_cons_zero, List.set_cons_succ])
    refine wpAnyH_done (by kernel_rfl) ?_ _
    clear SB V0 hHeld
    by_cases hr0 : r = 0
    · have hr1 : (r != 0) = false := by rw [hr0]; rfl
      have hF := HRr.out.trans hr0
      have HF := Lib.hid hF
      have hEB : ebytes l = encN l := by unfold ebytes; rw [if_pos hF]
      rw [hEB] at HE hl1
      have hEL := encN_len l
      have hbl := bodyN_len (sound_of l hF)
      have hdec := dec_of_enc hF
      rw [← hEL, hl1] at hdec
      have HD1 := Lib.hid hdec.1; have HD2 := Lib.hid hdec.2; clear hdec hr0 hF hEB
      have HNL : Hid (20 + (bodyN l).length = n1) := Lib.hid (by omega)
      have hn20 : 24 ≤ n1 := by omega
      have hn21 : n1 ≤ 120 := by omega
      have HLE := Lib.hid hl1; clear hEL hbl hl1 hl2
      have c9_0 := HX2.look 0
      have c9_1 := HX2.look 1
      have l9_0 := HX1.bx.lt
      have l9_1 := HX2.bx.lt
      have l9_2 := HX3.bx.lt
      have l9_3 := HX4.bx.lt
      have l9_4 := HX5.bx.lt
      go_wp2_with fail
      clear c9_0 c9_1 l9_0 l9_1 l9_2 l9_3 l9_4
      refine Calls.name ?_
      intro U11 hU11
      have hb : Below u1_6.heap.size u1_6 U11 := by rw [hU11]; exact (Below.refl _ _).drew
      have zz : Hid (u1_6.heap.size = U11.heap.size) := Lib.hid (by rw [hU11]; simp)
      replace HD := HD.below hb
      replace HL := HL.below hb
      replace HX1 := HX1.below hb
      replace HE := HE.below hb
      replace HX2 := HX2.below hb
      replace HX := HX.below hb
      replace HO0 := HO0.below hb
      replace HX3 := HX3.below hb
      replace HX4 := HX4.below hb
      replace HX5 := HX5.below hb
      replace HB := Lib.hid (below_step HB.out hb)
      clear hb
      have Z11 := zz; clear zz
      have Y10 := Lib.hid (And.intro Y9.out Z11.out); clear Y9 Z11
      clear hU11
      refine (decodeOut_any E1 n1 c1 (encN l) _ HE.own.bin (encN_bytes l) hc1 (by omega)).mono ?_
      rw [HD1.out, HD2.out]
      rintro e w12 ⟨E9, F9, j9, b9, s9, t9, rfl, ht, hj9, hs9, hb⟩
      have Z12 := Lib.hid hb.size
      have Y11 := Lib.hid (And.intro Y10.out Z12.out); clear Y10 Z12
      replace HD := HD.below hb
      replace HL := HL.below hb
      replace HX1 := HX1.below hb
      replace HE := HE.below hb
      replace HX2 := HX2.below hb
      replace HX := HX.below hb
      replace HO0 := HO0.below hb
      replace HX3 := HX3.below hb
      replace HX4 := HX4.below hb
      replace HX5 := HX5.below hb
      replace HB := Lib.hid (below_step HB.out hb)
      clear hb
      have HO9 := ht.kept; clear ht
      have c10_0 := HX1.look 0
      have c10_1 := HX1.look 1
      have c10_2 := HX1.look 2
      have c10_3 := HX1.look 3
      have c10_4 := HX1.look 4
      have c10_5 := HX1.look 5
      have c10_6 := HX1.look 6
      have c10_7 := HX1.look 7
      have c10_8 := HX1.look 8
      have c10_9 := HX1.look 9
      have l10_0 := HX1.bx.lt
      have l10_1 := HX2.bx.lt
      have l10_2 := HX3.bx.lt
      have l10_3 := HX4.bx.lt
      have l10_4 := HX5.bx.lt
      go_wp2_with fail
      clear c10_0 c10_1 c10_2 c10_3 c10_4 c10_5 c10_6 c10_7 c10_8 c10_9 l10_0 l10_1 l10_2 l10_3 l10_4
      refine Calls.name ?_
      intro U13 hU13
      have hb : Below w12.heap.size w12 U13 := by rw [hU13]; exact ((Below.refl _ _).alloc (Nat.le_refl _) _)
      have zz : Hid (w12.heap.size + 1 = U13.heap.size) := Lib.hid (by rw [hU13]; simp)
      have HX6 : Kept w12.heap.size (w12.heap.size + 1) (BoxK w12.heap.size 36 #[.int .i64 0, .int .i64 l.age, .int .i64 l.options, .int .i64 l.typ, .int .i64 l.id, .int .i64 l.adv, .int .i64 l.seq, .slice E9 j9 b9, .slice F9 s9 t9, .int .i64 l.mask, .int .i64 l.cost]) U13 := by rw [hU13]; exact Kept.box (Box.made_at _ _ _ rfl)
      replace HD := HD.below hb
      replace HL := HL.below hb
      replace HX1 := HX1.below hb
      replace HE := HE.below hb
      replace HX2 := HX2.below hb
      replace HX := HX.below hb
      replace HO0 := HO0.below hb
      replace HX3 := HX3.below hb
      replace HX4 := HX4.below hb
      replace HX5 := HX5.below hb
      replace HO9 := HO9.below hb
      replace HB := Lib.hid (below_step HB.out hb)
      clear hb
      have Z13 := zz; clear zz
      have Y12 := Lib.hid (And.intro Y11.out Z13.out); clear Y11 Z13
      clear hU13
      refine (sameLsas_self l true true _ _ _ _ E9 F9 A B j9 b9 s9 t9 n c m d _ HO9.two.at_ HL.lsa hj9 hs9 (by omega) (by omega)).mono ?_
      rintro e w14 ⟨rfl, hb⟩
      have Z14 := Lib.hid hb.size
      have Y13 := Lib.hid (And.intro Y12.out Z14.out); clear Y12 Z14
      replace HD := HD.below hb
      replace HL := HL.below hb
      replace HX1 := HX1.below hb
      replace HE := HE.below hb
      replace HX2 := HX2.below hb
      replace HX := HX.below hb
      replace HO0 := HO0.below hb
      replace HX3 := HX3.below hb
      replace HX4 := HX4.below hb
      replace HX5 := HX5.below hb
      replace HO9 := HO9.below hb
      replace HX6 := HX6.below hb
      replace HB := Lib.hid (below_step HB.out hb)
      clear hb
      have hlt : ¬ (n1 : Int) < 20 := by omega
      have c11_0 := HX2.look 1
      have l11_0 := HX1.bx.lt
      have l11_1 := HX2.bx.lt
      have l11_2 := HX3.bx.lt
      have l11_3 := HX4.bx.lt
      have l11_4 := HX5.bx.lt
      have l11_5 := HX6.bx.lt
      go_wp2_with (first | (at_builtin; refine wpList_name ?_; intro U15 hU15; have hb : Below w14.heap.size w14 U15 := (by rw [hU15]; exact ((Below.refl _ _).alloc (Nat.le_refl _) _)); have zz : Hid (w14.heap.size + 1 = U15.heap.size) := Lib.hid (by rw [hU15]; simp); have HX7 : Kept w14.heap.size (w14.heap.size + 1) (BoxK w14.heap.size 5 #[]) U15 := (by rw [hU15]; exact Kept.box (Box.made_at _ _ _ rfl)); replace HD := HD.below hb; replace HL := HL.below hb; replace HX1 := HX1.below hb; replace HE := HE.below hb; replace HX2 := HX2.below hb; replace HX := HX.below hb; replace HO0 := HO0.below hb; replace HX3 := HX3.below hb; replace HX4 := HX4.below hb; replace HX5 := HX5.below hb; replace HO9 := HO9.below hb; replace HX6 := HX6.below hb; replace HB := Lib.hid (below_step HB.out hb); clear hb; have Z15 := zz; clear zz; have Y14 := Lib.hid (And.intro Y13.out Z15.out); clear Y13 Z15; clear hU15; refine wpList_app rfl (.tmp 106) (.tmp 108) rfl (B := w14.heap.size) rfl (own_of_box0 HX7.bx) rfl (by omega) HE.own.bin (by omega) (by have := Y14.out; omega) ?_; intro A9 c9 w16 ho hg; have hq : Only w14.heap.size (w14.heap.size + 1) U15 w16 := Only.of_grown hg (fun r hr => by simp only [Option.map_some, Option.some.injEq] at hr; omega); have Z16 := Lib.hid hq.size; have Y15 := Lib.hid (And.intro Y14.out Z16.out); clear Y14 Z16; clear HX7; replace HD := HD.only hq (by have := Y15.out; omega); replace HL := HL.only hq (by have := Y15.out; omega); replace HX1 := HX1.only hq (by have := Y15.out; omega); replace HE := HE.only hq (by have := Y15.out; omega); replace HX2 := HX2.only hq (by have := Y15.out; omega); replace HX := HX.only hq (by have := Y15.out; omega); replace HO0 := HO0.only hq (by have := Y15.out; omega); replace HX3 := HX3.only hq (by have := Y15.out; omega); replace HX4 := HX4.only hq (by have := Y15.out; omega); replace HX5 := HX5.only hq (by have := Y15.out; omega); replace HO9 := HO9.only hq (by have := Y15.out; omega); replace HX6 := HX6.only hq (by have := Y15.out; omega); replace HB := Lib.hid (Below.only HB.out hq (by have := Y15.out; omega) HB.out.size); clear hq hg; rw [Nat.zero_add, List.nil_append] at ho; have HBD := ho.kept rfl; clear ho; have l12_0 := HX1.bx.lt; have l12_1 := HX2.bx.lt; have l12_2 := HX3.bx.lt; have l12_3 := HX4.bx.lt; have l12_4 := HX5.bx.lt; have l12_5 := HX6.bx.lt))
      clear c11_0 l11_0 l11_1 l11_2 l11_3 l11_4 l11_5 l12_0 l12_1 l12_2 l12_3 l12_4 l12_5
      have hbw := HBD.own
      obtain ⟨bb, rfl, hbb1, hbb2⟩ := hbw.form (by omega)
      clear hbw
      obtain ⟨k2, rfl⟩ : ∃ k2, n1 = k2 + 2 := ⟨n1 - 2, by omega⟩
      clear HL HX1 HE HX2 HX HO0 HX3 HX4 HX5 HO9 HX6
      have V0 : Hid (Below w16.heap.size w16 w16.drew) := Lib.hid (Below.refl _ _).drew
      have hwb : w1.heap.size ≤ bb := (by have := Y15.out; omega)
      have hcapB := HBD.own.cap
      have hw2 : IntKind.i64.wrap (k2 : Int) = (k2 : Int) := IntWalk.i64_in _ (by omega)
      go_region_law (first
              | ((show (if Region.wanted (Oper.mk (some 115) _ _ _ _ _) _ = true then _ else _)); go_simp; have PC := lwAt_b A0 n0 c0 cs k2 (w16.drew) (HD.below V0.out).out HBY.out hn (by omega) (by omega); with_reducible refine PC.mono ?_; clear PC; rintro e uu0 ⟨vj, rfl, vj0, vj1, hb⟩; have HD1' := HD.below V0.out; replace HD := HD1'.below hb; clear HD1'; replace HBD := (HBD.below V0.out).below hb; replace HB := Lib.hid (below_step (below_step HB.out V0.out) hb); clear hb; obtain ⟨jj, rfl⟩ := Int.eq_ofNat_of_zero_le vj0; have hjj : 2 + jj < k2 + 2 := (by omega); have ce := HBD.own.cell hjj; have ff := HBD.own.frozen (2 + jj); have hjj' : (2 : Int) + jj < (k2 : Int) + 2 := (by omega); have hjj0 : (0 : Int) ≤ 2 + (jj : Int) := (by omega); have hw3 : IntKind.i64.wrap (2 + (jj : Int)) = 2 + (jj : Int) := IntWalk.i64_in _ (by omega); have htn : (2 + (jj : Int)).toNat = 2 + jj := (by omega))
              | ((show (if Region.wanted (Oper.mk (some 120) _ _ _ _ _) _ = true then _ else _)); go_simp; have PC := lwAt_b3 A0 n0 c0 cs uu0 HD.out HBY.out hn; with_reducible refine PC.mono ?_; clear PC; rintro e uu1 ⟨vb, rfl, vb0, vb1, hb⟩; replace HD := HD.below hb; replace HBD := HBD.below hb; replace HB := Lib.hid (below_step HB.out hb); clear hb; obtain ⟨jb, rfl⟩ := Int.eq_ofNat_of_zero_le vb0; have ce2 := HBD.own.cell hjj; have ff2 := HBD.own.frozen (2 + jj)))
      all_goals
        go_wp2_with fail
        have hz := (encN_bytes l).at_ (2 + jj)
        have hflip := turnedB _ jb hz.1 hz.2 (by omega)
        rw [List.getD_eq_getElem?_getD] at hflip
        obtain ⟨v, hv⟩ : ∃ v, bits .xor .u8 ((encN l)[2 + jj]?.getD 0) (2 ^ min jb 8 % 256) = v := ⟨_, rfl⟩
        rw [hv] at hflip ⊢
        rw [← List.getD_eq_getElem?_getD] at hflip
        have hst := HBD.own.stored (2 + jj) v
        have hwz := HB.out.size
        have HBX := Lib.hid (HB.out.grown hst.2 hwz (fun r hr => by injection hr with hr; omega))
        have hnz := dec_turned HF.out (2 + jj) v (by omega) (by have := HNL.out; omega) hflip.2.2.1 hflip.2.2.2.1 hflip.2.2.2.2
        rw [HNL.out] at hnz
        obtain ⟨dz, hdz⟩ : ∃ z, decCode (k2 + 2) ((encN l).set (2 + jj) v) = z := ⟨_, rfl⟩
        rw [hdz] at hnz
        have hz1 : (dz != 0) = true := by rw [bne_iff_ne]; exact hnz
        refine (decodeOut_any (some ⟨bb, 0, none⟩) (k2 + 2) c9 ((encN l).set (2 + jj) v) _ hst.1.bin ((encN_bytes l).set _ _ hflip.1 hflip.2.1) hcapB (by omega)).mono ?_
        rw [hdz]
        rintro e wz ⟨E, F, kk, d', m', d2, rfl, ht, _, _, hb⟩
        have HBZ := Lib.hid (below_step HBX.out hb)
        clear ht hb hst hnz hflip hz hv hdz ce ff ce2 ff2
        go_wp2
        go_ret
        exact ⟨rfl, HBZ.out⟩
    · have hr1 : (r != 0) = true := by rw [bne_iff_ne]; exact hr0
      clear hr0
      have c9_0 := HX2.look 0
      have l9_0 := HX1.bx.lt
      have l9_1 := HX2.bx.lt
      have l9_2 := HX3.bx.lt
      have l9_3 := HX4.bx.lt
      have l9_4 := HX5.bx.lt
      go_wp2
      clear c9_0 l9_0 l9_1 l9_2 l9_3 l9_4
      go_ret
      first
        | exact ⟨rfl, (below_drewN HB.out _)⟩


end Go.Proofs.Ytamclkjofojhmaa

namespace Go.Proofs.Ytamclkjofojhmaa.fnLsas
open Go.ChangeShapes Go.WideShapes Go.ChangeAt Go.RowKit
open Go.ChangeMaps (open_string shut_string)
set_option linter.unusedVariables false

theorem own : ownKnob Try.prog.godebug = none := by kernel_rfl
theorem laidOut : laidOutB Try.prog = true := by kernel_rfl

/-- A slice of integers that came in: nil, or a row of cap cells. -/
def IsRow (k : IntKind) (w : World) (a : Option Addr) (len cap : Nat) (zs : List Int) : Prop :=
  (a = none ∧ len = 0 ∧ cap = 0 ∧ zs = []) ∨
  ∃ x, a = some x ∧ len ≤ cap ∧ cap ≤ maxLen ∧ zs.length = cap ∧ (∀ i, i < zs.length → w.cell? (x.add i) = some (.int k (zs.getD i 0))) ∧ ∀ n ∈ zs, (Lit.int k n).wf = true

theorem walk (a0 : Option Addr) (len0 cap0 : Nat) (z0 : List Int) (w : World) (w0 : IsRow .u8 w a0 len0 cap0 z0) :
    Calls Try.prog 3 #[.slice a0 len0 cap0] w fun e w' => e = .returned (.bool true) ∧ Below w.heap.size w w' := by
  obtain ⟨xs0, hx0, hy0, hm0⟩ := bin_of_row w0
  exact law_Lsas a0 len0 cap0 xs0 w hx0 hy0 hm0

set_option maxRecDepth 100000 in
theorem lifted (os : Os) (started : os.Started) (H : Type) (enc : TypeId × Value → H) :
    ReturnsInHanded {} Try.checked os 3 .any (Rows.fnLsasSpec.pre6 enc Try.prog Try.f3 Rows.fnLsasRow.domain false) (Rows.fnLsasSpec.post enc Try.prog Try.f3 false true false false) := by
  refine returnsInHanded_of_change (C := Try.checked) own started (by kernel_rfl) Try.func3
    (ChangeSpec.witness6 (enc := enc) (C := Try.checked) false ⟨#[], #[.slice none 0 0], []⟩ 8 (by kernel_rfl) (by kernel_rfl) (by kernel_rfl) (by kernel_rfl)) ?_
  intro W base args ds gs before hval0 hW hcnd _
  have hval : ∀ (j : Nat) t v, Try.f3.params[j]? = some t → args[j]? = some v → Value.okWide Try.prog W .any base t v := hval0
  have hW' := hW
  obtain ⟨p, q, hA0, hV, rfl, hfz, hnd⟩ := hW
  have hA : DataW.TrodAll enc Try.prog W 0 (fun _ => true) true Try.f3.params.toList args.toList ds p := hA0
  rw [Try.params3] at hA hval
  obtain ⟨v0, vs0, d0, ds0, p0, q0, hargs, rfl, rfl, h0, r0⟩ := trodAll_cons hA
  obtain ⟨rfl, rfl, rfl⟩ := trodAll_nil r0
  obtain rfl : args = #[v0] := by cases args; simp_all
  obtain ⟨rfl, rfl⟩ := trodVars_none hV
  obtain ⟨a0, len0, cap0, rfl⟩ := okWide_slice Try.underlying22 (hval 0 22 v0 rfl rfl)
  have k0 := h0
  have lt0 : ∀ x ∈ p0, x.block < W.heap.size := by obtain ⟨m, hm⟩ := k0; exact DataW.trod_lt m _ _ _ hm
  obtain ⟨z0, w0⟩ : ∃ zs, IsRow .u8 W a0 len0 cap0 zs := by
    obtain ⟨fuel, hf⟩ := h0
    rcases open_ints Try.underlying22 Try.underlying5 (by kernel_rfl) hf with ⟨hcs, _⟩ | ⟨x, l, c, zs, hcs, _, hl, hm, hz, _, hcell, hwz⟩
    · simp [Value.cells] at hcs
      obtain ⟨rfl, rfl, rfl⟩ := hcs
      exact ⟨[], .inl ⟨rfl, rfl, rfl, rfl⟩⟩
    · simp [Value.cells] at hcs
      obtain ⟨rfl, rfl, rfl⟩ := hcs
      exact ⟨zs, .inr ⟨_, rfl, hl, hm, by simpa using hz, hcell, hwz⟩⟩
  clear hA0 hval0
  refine (walk a0 len0 cap0 z0 W w0).mono fun e W' ⟨he, bel⟩ => ?_
  subst he
  exact ⟨_, rfl, _, _, _, [], _, [], hW', trodAll_mk1 (shut_bool Try.underlying4 _), (trodAll_cons_mk (Below.trod laidOut (by kernel_rfl) (of_decide_eq_true (by kernel_rfl)) k0 bel lt0) trodAll_mk0), rfl, bel.frame _, fun h => by cases h⟩

theorem over : Rows.fnLsasRow.holds Try.pinned (OpenSpec.ofChange Rows.fnLsasSpec) :=
  OpenClaim.holds_of_wide 3 Try.f3 rfl rfl rfl rfl rfl rfl rfl ⟨rfl, rfl, rfl, rfl, rfl⟩ rfl rfl rfl rfl rfl (by kernel_rfl) Try.func3 (by kernel_rfl)
    (of_decide_eq_true (by kernel_rfl)) (by unfold Func.isWrapper; first | (rw [if_pos (by decide +kernel)]; kernel_rfl) | (rw [if_neg (by decide +kernel)]; exact ⟨rfl, rfl⟩))
    (fun os started H enc _ => lifted os started H enc)

theorem proved : Rows.FnLsasSaid := over
#print axioms proved
end Go.Proofs.Ytamclkjofojhmaa.fnLsas

