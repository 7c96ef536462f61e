/-
  The program's DecodeLsa answers as the model's, writes into no argument, and its answer owns its memory. No condition.
-/
import Derived.Test.YtamclkjofojhmaaSpecDec20
import Derived.Test.YtamclkjofojhmaaSpecDecF
import Derived.Test.YtamclkjofojhmaaSpecDecT
import Derived.Test.YtamclkjofojhmaaSpecDecU
import Derived.Test.YtamclkjofojhmaaSpecDecG
import Derived.Test.YtamclkjofojhmaaSpecDecH
import Derived.Test.YtamclkjofojhmaaHelp
import Derived.Test.YtamclkjofojhmaaWalk
import Derived.Test.YtamclkjofojhmaaRows
import Derived.WalkKit
import Derived.ProofKit
import Derived.OpenShut
import Derived.ShutString
import Derived.ChangeOld
import Derived.Below
namespace Go.Proofs.Ytamclkjofojhmaa
open Go.RowKit
set_option linter.unusedVariables false

theorem l2Decode_good (b off n c : Nat) (xs : List Int) (w : World) (ha : BIn w (some ⟨b, off, none⟩) n xs) (hb : Bytes xs) (hnc : n ≤ c) (hn0 : 20 ≤ n) (hn : n ≤ 400) (hg : goodB n xs) : Calls Try.prog 77 #[.slice (some ⟨b, off, none⟩) n c] w (DecYes w (readM n xs)) := by
  have hr := rd_of ha.1 hg.1 hg.2
  by_cases h : 2147483647 < rval n xs 12 4
  · exact l2Decode_good_1 b off n c xs w ha hb hnc hn0 hn h hr hg.1 hg.2
  · exact l2Decode_good_0 b off n c xs w ha hb hnc hn0 hn h hr hg.1 hg.2
theorem l2Decode_bad (b off n c : Nat) (xs : List Int) (w : World) (ha : BIn w (some ⟨b, off, none⟩) n xs) (hb : Bytes xs) (hnc : n ≤ c) (hn0 : 20 ≤ n) (hn : n ≤ 400) (hg : ¬ goodB n xs) : Calls Try.prog 77 #[.slice (some ⟨b, off, none⟩) n c] w (DecNo w) := by
  by_cases hr : rdB n xs
  · by_cases hf : faultOf (readM n xs) = 0
    · have he : ¬ encN (readM n xs) = xs := fun he => hg ⟨hf, he⟩
      by_cases h : 2147483647 < rval n xs 12 4
      · exact l2Decode_text_1 b off n c xs w ha hb hnc hn0 hn h hr hf he
      · exact l2Decode_text_0 b off n c xs w ha hb hnc hn0 hn h hr hf he
    · by_cases h : 2147483647 < rval n xs 12 4
      · exact l2Decode_fault_1 b off n c xs w ha hb hnc hn0 hn h hr hf
      · exact l2Decode_fault_0 b off n c xs w ha hb hnc hn0 hn h hr hf
  · by_cases h2 : c = 20
    · by_cases h : 2147483647 < rval n xs 12 4
      · exact l2Decode_no20_1 b off n c xs w ha hb hnc hn0 hn h hr h2
      · exact l2Decode_no20_0 b off n c xs w ha hb hnc hn0 hn h hr h2
    · by_cases h : 2147483647 < rval n xs 12 4
      · exact l2Decode_no_1 b off n c xs w ha hb hnc hn0 hn h hr h2
      · exact l2Decode_no_0 b off n c xs w ha hb hnc hn0 hn h hr h2

set_option maxRecDepth 100000 in
set_option maxHeartbeats 6400000 in
theorem specDecode_few (A : Option Addr) (n c : Nat) (xs : List Int) (w : World) (hn : n ≤ 1048576) (h : n < 20) :
    Calls Try.prog 19 #[.slice A n c] w (LsaOut w 2 zeroM) := by
  have g1 : (n : Int) < 20 := by omega
  have HB := Lib.hid (Below.refl w.heap.size w)
  go_enter Try.func19, Try.ntmps19
  go_wp2
  obtain ⟨U1, hU1⟩ : ∃ W : World, W = (w.alloc (.cells #[.int .i64 2, .int .i64 0, .int .i64 0, .int .i64 0, .int .i64 0, .int .i64 0, .int .i64 0, .slice none 0 0, .slice none 0 0, .int .i64 0, .int .i64 0] 36)) := ⟨_, rfl⟩
  have hb : Below w.heap.size w U1 := by rw [hU1]; exact ((Below.refl _ _).alloc (Nat.le_refl _) _)
  have zz : Hid (w.heap.size + 1 = U1.heap.size) := Lib.hid (by rw [hU1]; simp)
  have HX1 : Kept w.heap.size (w.heap.size + 1) (BoxK w.heap.size 36 #[.int .i64 2, .int .i64 0, .int .i64 0, .int .i64 0, .int .i64 0, .int .i64 0, .int .i64 0, .slice none 0 0, .slice none 0 0, .int .i64 0, .int .i64 0]) U1 := by rw [hU1]; exact Kept.box (Box.made_at _ _ _ rfl)
  replace HB := Lib.hid (below_step HB.out hb)
  clear hb
  have Z1 := zz; clear zz
  have q_0 := HX1.look 0
  have q_1 := HX1.look 1
  have q_2 := HX1.look 2
  have q_3 := HX1.look 3
  have q_4 := HX1.look 4
  have q_5 := HX1.look 5
  have q_6 := HX1.look 6
  have q_7 := HX1.look 7
  have q_8 := HX1.look 8
  have q_9 := HX1.look 9
  have q_10 := HX1.look 10
  have fin : ∀ e, e = Ending.returned (.agg (resCells 2 zeroM none none 0 0 0 0)) → (LsaOut w 2 zeroM e U1) := by rintro _ rfl; exact ⟨none, none, 0, 0, 0, 0, rfl, LsaTwo.zero _ _ (by have := Z1.out; omega), by omega, by omega, HB.out⟩
  subst hU1
  exact bodyPost_ret (v := .agg (resCells 2 zeroM none none 0 0 0 0)) (by simp [results, Try.results19, go_sem, zeroM, q_0, q_1, q_2, q_3, q_4, q_5, q_6, q_7, q_8, q_9, q_10]) rfl (fin _ rfl)

set_option maxRecDepth 100000 in
set_option maxHeartbeats 6400000 in
theorem specDecode_much (A : Option Addr) (n c : Nat) (xs : List Int) (w : World) (hn : n ≤ 1048576) (h : 400 < n) :
    Calls Try.prog 19 #[.slice A n c] w (LsaOut w 2 zeroM) := by
  have g1 : ¬ (n : Int) < 20 := by omega
  have g2 : (400 : Int) < n := by omega
  have HB := Lib.hid (Below.refl w.heap.size w)
  go_enter Try.func19, Try.ntmps19
  go_wp2
  obtain ⟨U1, hU1⟩ : ∃ W : World, W = (w.alloc (.cells #[.int .i64 2, .int .i64 0, .int .i64 0, .int .i64 0, .int .i64 0, .int .i64 0, .int .i64 0, .slice none 0 0, .slice none 0 0, .int .i64 0, .int .i64 0] 36)) := ⟨_, rfl⟩
  have hb : Below w.heap.size w U1 := by rw [hU1]; exact ((Below.refl _ _).alloc (Nat.le_refl _) _)
  have zz : Hid (w.heap.size + 1 = U1.heap.size) := Lib.hid (by rw [hU1]; simp)
  have HX1 : Kept w.heap.size (w.heap.size + 1) (BoxK w.heap.size 36 #[.int .i64 2, .int .i64 0, .int .i64 0, .int .i64 0, .int .i64 0, .int .i64 0, .int .i64 0, .slice none 0 0, .slice none 0 0, .int .i64 0, .int .i64 0]) U1 := by rw [hU1]; exact Kept.box (Box.made_at _ _ _ rfl)
  replace HB := Lib.hid (below_step HB.out hb)
  clear hb
  have Z1 := zz; clear zz
  have q_0 := HX1.look 0
  have q_1 := HX1.look 1
  have q_2 := HX1.look 2
  have q_3 := HX1.look 3
  have q_4 := HX1.look 4
  have q_5 := HX1.look 5
  have q_6 := HX1.look 6
  have q_7 := HX1.look 7
  have q_8 := HX1.look 8
  have q_9 := HX1.look 9
  have q_10 := HX1.look 10
  have fin : ∀ e, e = Ending.returned (.agg (resCells 2 zeroM none none 0 0 0 0)) → (LsaOut w 2 zeroM e U1) := by rintro _ rfl; exact ⟨none, none, 0, 0, 0, 0, rfl, LsaTwo.zero _ _ (by have := Z1.out; omega), by omega, by omega, HB.out⟩
  subst hU1
  exact bodyPost_ret (v := .agg (resCells 2 zeroM none none 0 0 0 0)) (by simp [results, Try.results19, go_sem, zeroM, q_0, q_1, q_2, q_3, q_4, q_5, q_6, q_7, q_8, q_9, q_10]) rfl (fin _ rfl)

set_option maxRecDepth 100000 in
set_option maxHeartbeats 6400000 in
theorem specDecode_form (b off n c : Nat) (xs : List Int) (w : World) (ha : BIn w (some ⟨b, off, none⟩) n xs) (hb : Bytes xs) (hnc : n ≤ c) (hn0 : 20 ≤ n) (hn : n ≤ 400) (h : ¬ rval n xs 18 2 = n) :
    Calls Try.prog 19 #[.slice (some ⟨b, off, none⟩) n c] w (LsaOut w 1 zeroM) := by
  have HD := ha.kept
  have HBY := Lib.hid hb
  have HLEN := Lib.hid ha.1
  have g1 : ¬ (n : Int) < 20 := by omega
  have g2 : ¬ (400 : Int) < n := by omega
  obtain ⟨z, hz⟩ : ∃ z, rval n xs 18 2 = z := ⟨_, rfl⟩
  rw [hz] at h
  have hne : (z != (n : Int)) = true := by rw [bne_iff_ne]; exact h
  have HZ := Lib.hid hz
  clear hz h
  have i1 : (2 : Int) ≤ (n : Int) := by omega
  have i2 : (n : Int) ≤ (c : Int) := by omega
  have i3 : ¬ c = 2 := by omega
  clear ha hb
  have HB := Lib.hid (Below.refl w.heap.size w)
  go_enter Try.func19, Try.ntmps19
  go_wp2_with fail
  refine Calls.name ?_
  intro U1 hU1
  have hb : Below w.heap.size w U1 := by rw [hU1]; exact ((Below.refl _ _).alloc (Nat.le_refl _) _)
  have zz : Hid (w.heap.size + 1 = U1.heap.size) := Lib.hid (by rw [hU1]; simp)
  have HX1 : Kept w.heap.size (w.heap.size + 1) (BoxK w.heap.size 36 #[.int .i64 0, .int .i64 0, .int .i64 0, .int .i64 0, .int .i64 0, .int .i64 0, .int .i64 0, .slice none 0 0, .slice none 0 0, .int .i64 0, .int .i64 0]) U1 := by rw [hU1]; exact Kept.box (Box.made_at _ _ _ rfl)
  replace HD := HD.below hb
  replace HB := Lib.hid (below_step HB.out hb)
  clear hb
  have Z1 := zz; clear zz
  clear hU1
  refine (l1ReadI (some ⟨b, off, none⟩) n c xs 18 2 _ HD.out HBY.out (by omega) (by omega) (by omega) (by omega)).mono ?_
  rw [HZ.out]
  rintro e w2 ⟨rfl, rfl⟩
  have c2_0 := HX1.look 0
  have c2_1 := HX1.look 1
  have c2_2 := HX1.look 2
  have c2_3 := HX1.look 3
  have c2_4 := HX1.look 4
  have c2_5 := HX1.look 5
  have c2_6 := HX1.look 6
  have c2_7 := HX1.look 7
  have c2_8 := HX1.look 8
  have c2_9 := HX1.look 9
  have c2_10 := HX1.look 10
  have f2_0 := HX1.free 0
  have f2_1 := HX1.free 1
  have f2_2 := HX1.free 2
  have f2_3 := HX1.free 3
  have f2_4 := HX1.free 4
  have f2_5 := HX1.free 5
  have f2_6 := HX1.free 6
  have f2_7 := HX1.free 7
  have f2_8 := HX1.free 8
  have f2_9 := HX1.free 9
  have f2_10 := HX1.free 10
  have l2_0 := HX1.bx.lt
  go_wp2
  clear c2_0 c2_1 c2_2 c2_3 c2_4 c2_5 c2_6 c2_7 c2_8 c2_9 c2_10 f2_0 f2_1 f2_2 f2_3 f2_4 f2_5 f2_6 f2_7 f2_8 f2_9 f2_10 l2_0
  obtain ⟨U3, hU3⟩ : ∃ W : World, W = (((((((((((w2.setCell ⟨w.heap.size, 0, none⟩ (.int .i64 1)).setCell ⟨w.heap.size, 1, none⟩ (.int .i64 0)).setCell ⟨w.heap.size, 2, none⟩ (.int .i64 0)).setCell ⟨w.heap.size, 3, none⟩ (.int .i64 0)).setCell ⟨w.heap.size, 4, none⟩ (.int .i64 0)).setCell ⟨w.heap.size, 5, none⟩ (.int .i64 0)).setCell ⟨w.heap.size, 6, none⟩ (.int .i64 0)).setCell ⟨w.heap.size, 7, none⟩ (.slice none 0 0)).setCell ⟨w.heap.size, 8, none⟩ (.slice none 0 0)).setCell ⟨w.heap.size, 9, none⟩ (.int .i64 0)).setCell ⟨w.heap.size, 10, none⟩ (.int .i64 0)) := ⟨_, rfl⟩
  have ho : Only w.heap.size (w.heap.size + 1) w2 U3 := by rw [hU3]; exact ((((((((((((Only.refl _ _ _).set (p := ⟨w.heap.size, 0, none⟩) (Nat.le_refl _) (Nat.lt_succ_self _) _).set (p := ⟨w.heap.size, 1, none⟩) (Nat.le_refl _) (Nat.lt_succ_self _) _).set (p := ⟨w.heap.size, 2, none⟩) (Nat.le_refl _) (Nat.lt_succ_self _) _).set (p := ⟨w.heap.size, 3, none⟩) (Nat.le_refl _) (Nat.lt_succ_self _) _).set (p := ⟨w.heap.size, 4, none⟩) (Nat.le_refl _) (Nat.lt_succ_self _) _).set (p := ⟨w.heap.size, 5, none⟩) (Nat.le_refl _) (Nat.lt_succ_self _) _).set (p := ⟨w.heap.size, 6, none⟩) (Nat.le_refl _) (Nat.lt_succ_self _) _).set (p := ⟨w.heap.size, 7, none⟩) (Nat.le_refl _) (Nat.lt_succ_self _) _).set (p := ⟨w.heap.size, 8, none⟩) (Nat.le_refl _) (Nat.lt_succ_self _) _).set (p := ⟨w.heap.size, 9, none⟩) (Nat.le_refl _) (Nat.lt_succ_self _) _).set (p := ⟨w.heap.size, 10, none⟩) (Nat.le_refl _) (Nat.lt_succ_self _) _)
  replace HX1 : Kept w.heap.size (w.heap.size + 1) (BoxK w.heap.size 36 #[.int .i64 1, .int .i64 0, .int .i64 0, .int .i64 0, .int .i64 0, .int .i64 0, .int .i64 0, .slice none 0 0, .slice none 0 0, .int .i64 0, .int .i64 0]) U3 := by rw [hU3]; exact Kept.box (((((((((((HX1.bx.puts 0 (.int .i64 1) (cs' := #[.int .i64 1, .int .i64 0, .int .i64 0, .int .i64 0, .int .i64 0, .int .i64 0, .int .i64 0, .slice none 0 0, .slice none 0 0, .int .i64 0, .int .i64 0]) rfl).puts 1 (.int .i64 0) (cs' := #[.int .i64 1, .int .i64 0, .int .i64 0, .int .i64 0, .int .i64 0, .int .i64 0, .int .i64 0, .slice none 0 0, .slice none 0 0, .int .i64 0, .int .i64 0]) rfl).puts 2 (.int .i64 0) (cs' := #[.int .i64 1, .int .i64 0, .int .i64 0, .int .i64 0, .int .i64 0, .int .i64 0, .int .i64 0, .slice none 0 0, .slice none 0 0, .int .i64 0, .int .i64 0]) rfl).puts 3 (.int .i64 0) (cs' := #[.int .i64 1, .int .i64 0, .int .i64 0, .int .i64 0, .int .i64 0, .int .i64 0, .int .i64 0, .slice none 0 0, .slice none 0 0, .int .i64 0, .int .i64 0]) rfl).puts 4 (.int .i64 0) (cs' := #[.int .i64 1, .int .i64 0, .int .i64 0, .int .i64 0, .int .i64 0, .int .i64 0, .int .i64 0, .slice none 0 0, .slice none 0 0, .int .i64 0, .int .i64 0]) rfl).puts 5 (.int .i64 0) (cs' := #[.int .i64 1, .int .i64 0, .int .i64 0, .int .i64 0, .int .i64 0, .int .i64 0, .int .i64 0, .slice none 0 0, .slice none 0 0, .int .i64 0, .int .i64 0]) rfl).puts 6 (.int .i64 0) (cs' := #[.int .i64 1, .int .i64 0, .int .i64 0, .int .i64 0, .int .i64 0, .int .i64 0, .int .i64 0, .slice none 0 0, .slice none 0 0, .int .i64 0, .int .i64 0]) rfl).puts 7 (.slice none 0 0) (cs' := #[.int .i64 1, .int .i64 0, .int .i64 0, .int .i64 0, .int .i64 0, .int .i64 0, .int .i64 0, .slice none 0 0, .slice none 0 0, .int .i64 0, .int .i64 0]) rfl).puts 8 (.slice none 0 0) (cs' := #[.int .i64 1, .int .i64 0, .int .i64 0, .int .i64 0, .int .i64 0, .int .i64 0, .int .i64 0, .slice none 0 0, .slice none 0 0, .int .i64 0, .int .i64 0]) rfl).puts 9 (.int .i64 0) (cs' := #[.int .i64 1, .int .i64 0, .int .i64 0, .int .i64 0, .int .i64 0, .int .i64 0, .int .i64 0, .slice none 0 0, .slice none 0 0, .int .i64 0, .int .i64 0]) rfl).puts 10 (.int .i64 0) (cs' := #[.int .i64 1, .int .i64 0, .int .i64 0, .int .i64 0, .int .i64 0, .int .i64 0, .int .i64 0, .slice none 0 0, .slice none 0 0, .int .i64 0, .int .i64 0]) rfl)
  replace HD := HD.only ho (by have := Z1.out; omega)
  replace HB := Lib.hid (Below.only HB.out ho (by have := Z1.out; omega) HB.out.size)
  have Z2 : Hid (U3.heap.size = w2.heap.size) := Lib.hid (by rw [hU3]; simp [World.setCell]); clear ho
  have q_0 := HX1.look 0
  have q_1 := HX1.look 1
  have q_2 := HX1.look 2
  have q_3 := HX1.look 3
  have q_4 := HX1.look 4
  have q_5 := HX1.look 5
  have q_6 := HX1.look 6
  have q_7 := HX1.look 7
  have q_8 := HX1.look 8
  have q_9 := HX1.look 9
  have q_10 := HX1.look 10
  have fin : ∀ e, e = Ending.returned (.agg (resCells 1 zeroM none none 0 0 0 0)) → (LsaOut w 1 zeroM e U3) := by rintro _ rfl; exact ⟨none, none, 0, 0, 0, 0, rfl, LsaTwo.zero _ _ (by have := Z1.out; have := Z2.out; omega), by omega, by omega, HB.out⟩
  subst hU3
  exact bodyPost_ret (v := .agg (resCells 1 zeroM none none 0 0 0 0)) (by simp [results, Try.results19, go_sem, zeroM, q_0, q_1, q_2, q_3, q_4, q_5, q_6, q_7, q_8, q_9, q_10]) rfl (fin _ rfl)

set_option maxRecDepth 100000 in
set_option maxHeartbeats 6400000 in
theorem specDecode_sum (b off n c : Nat) (xs : List Int) (w : World) (ha : BIn w (some ⟨b, off, none⟩) n xs) (hb : Bytes xs) (hnc : n ≤ c) (hn0 : 20 ≤ n) (hn : n ≤ 400) (h : rval n xs 18 2 = n) (hs : sealedB (xs.drop 2) = false) :
    Calls Try.prog 19 #[.slice (some ⟨b, off, none⟩) n c] w (LsaOut w 6 zeroM) := by
  have HD := ha.kept
  have HBY := Lib.hid hb
  have HLEN := Lib.hid ha.1
  have g1 : ¬ (n : Int) < 20 := by omega
  have g2 : ¬ (400 : Int) < n := by omega
  have HZ := Lib.hid h
  have hq : ((n : Int) != (n : Int)) = false := by simp
  have HS : Hid ((((sums (xs.drop 2)).1 % 255 == 0) && ((sums (xs.drop 2)).2 % 255 == 0)) = false) := Lib.hid (by have h := hs; unfold sealedB at h; rw [decide_eq_true (by rw [List.length_drop, HLEN.out]; omega), decide_eq_true (by rw [List.length_drop, HLEN.out]; omega)] at h; simpa using h)
  clear h hs
  have i1 : (2 : Int) ≤ (n : Int) := by omega
  have i2 : (n : Int) ≤ (c : Int) := by omega
  have i3 : ¬ c = 2 := by omega
  clear ha hb
  have HB := Lib.hid (Below.refl w.heap.size w)
  go_enter Try.func19, Try.ntmps19
  go_wp2_with fail
  refine Calls.name ?_
  intro U1 hU1
  have hb : Below w.heap.size w U1 := by rw [hU1]; exact ((Below.refl _ _).alloc (Nat.le_refl _) _)
  have zz : Hid (w.heap.size + 1 = U1.heap.size) := Lib.hid (by rw [hU1]; simp)
  have HX1 : Kept w.heap.size (w.heap.size + 1) (BoxK w.heap.size 36 #[.int .i64 0, .int .i64 0, .int .i64 0, .int .i64 0, .int .i64 0, .int .i64 0, .int .i64 0, .slice none 0 0, .slice none 0 0, .int .i64 0, .int .i64 0]) U1 := by rw [hU1]; exact Kept.box (Box.made_at _ _ _ rfl)
  replace HD := HD.below hb
  replace HB := Lib.hid (below_step HB.out hb)
  clear hb
  have Z1 := zz; clear zz
  clear hU1
  refine (l1ReadI (some ⟨b, off, none⟩) n c xs 18 2 _ HD.out HBY.out (by omega) (by omega) (by omega) (by omega)).mono ?_
  rw [HZ.out]
  rintro e w2 ⟨rfl, rfl⟩
  have l2_0 := HX1.bx.lt
  go_wp2_with fail
  clear l2_0
  have hP : BIn w2 (some ⟨b, off + 2, none⟩) (n - 2) (xs.drop 2) := by
    have h := HD.out.part (a := 2) (s := n - 2) (by omega)
    rw [List.take_of_length_le (by rw [List.length_drop, HLEN.out]; exact Nat.le_refl _)] at h
    exact h
  refine (l1Sealed_any _ (n - 2) (c - 2) (xs.drop 2) _ hP (fun z h => HBY.out z (List.mem_of_mem_drop h)) (by omega)).mono ?_
  rw [HS.out]
  rintro e w3 ⟨rfl, rfl⟩
  clear hP
  have c3_0 := HX1.look 0
  have c3_1 := HX1.look 1
  have c3_2 := HX1.look 2
  have c3_3 := HX1.look 3
  have c3_4 := HX1.look 4
  have c3_5 := HX1.look 5
  have c3_6 := HX1.look 6
  have c3_7 := HX1.look 7
  have c3_8 := HX1.look 8
  have c3_9 := HX1.look 9
  have c3_10 := HX1.look 10
  have f3_0 := HX1.free 0
  have f3_1 := HX1.free 1
  have f3_2 := HX1.free 2
  have f3_3 := HX1.free 3
  have f3_4 := HX1.free 4
  have f3_5 := HX1.free 5
  have f3_6 := HX1.free 6
  have f3_7 := HX1.free 7
  have f3_8 := HX1.free 8
  have f3_9 := HX1.free 9
  have f3_10 := HX1.free 10
  have l3_0 := HX1.bx.lt
  go_wp2
  clear c3_0 c3_1 c3_2 c3_3 c3_4 c3_5 c3_6 c3_7 c3_8 c3_9 c3_10 f3_0 f3_1 f3_2 f3_3 f3_4 f3_5 f3_6 f3_7 f3_8 f3_9 f3_10 l3_0
  obtain ⟨U4, hU4⟩ : ∃ W : World, W = (((((((((((w3.setCell ⟨w.heap.size, 0, none⟩ (.int .i64 6)).setCell ⟨w.heap.size, 1, none⟩ (.int .i64 0)).setCell ⟨w.heap.size, 2, none⟩ (.int .i64 0)).setCell ⟨w.heap.size, 3, none⟩ (.int .i64 0)).setCell ⟨w.heap.size, 4, none⟩ (.int .i64 0)).setCell ⟨w.heap.size, 5, none⟩ (.int .i64 0)).setCell ⟨w.heap.size, 6, none⟩ (.int .i64 0)).setCell ⟨w.heap.size, 7, none⟩ (.slice none 0 0)).setCell ⟨w.heap.size, 8, none⟩ (.slice none 0 0)).setCell ⟨w.heap.size, 9, none⟩ (.int .i64 0)).setCell ⟨w.heap.size, 10, none⟩ (.int .i64 0)) := ⟨_, rfl⟩
  have ho : Only w.heap.size (w.heap.size + 1) w3 U4 := by rw [hU4]; exact ((((((((((((Only.refl _ _ _).set (p := ⟨w.heap.size, 0, none⟩) (Nat.le_refl _) (Nat.lt_succ_self _) _).set (p := ⟨w.heap.size, 1, none⟩) (Nat.le_refl _) (Nat.lt_succ_self _) _).set (p := ⟨w.heap.size, 2, none⟩) (Nat.le_refl _) (Nat.lt_succ_self _) _).set (p := ⟨w.heap.size, 3, none⟩) (Nat.le_refl _) (Nat.lt_succ_self _) _).set (p := ⟨w.heap.size, 4, none⟩) (Nat.le_refl _) (Nat.lt_succ_self _) _).set (p := ⟨w.heap.size, 5, none⟩) (Nat.le_refl _) (Nat.lt_succ_self _) _).set (p := ⟨w.heap.size, 6, none⟩) (Nat.le_refl _) (Nat.lt_succ_self _) _).set (p := ⟨w.heap.size, 7, none⟩) (Nat.le_refl _) (Nat.lt_succ_self _) _).set (p := ⟨w.heap.size, 8, none⟩) (Nat.le_refl _) (Nat.lt_succ_self _) _).set (p := ⟨w.heap.size, 9, none⟩) (Nat.le_refl _) (Nat.lt_succ_self _) _).set (p := ⟨w.heap.size, 10, none⟩) (Nat.le_refl _) (Nat.lt_succ_self _) _)
  replace HX1 : Kept w.heap.size (w.heap.size + 1) (BoxK w.heap.size 36 #[.int .i64 6, .int .i64 0, .int .i64 0, .int .i64 0, .int .i64 0, .int .i64 0, .int .i64 0, .slice none 0 0, .slice none 0 0, .int .i64 0, .int .i64 0]) U4 := by rw [hU4]; exact Kept.box (((((((((((HX1.bx.puts 0 (.int .i64 6) (cs' := #[.int .i64 6, .int .i64 0, .int .i64 0, .int .i64 0, .int .i64 0, .int .i64 0, .int .i64 0, .slice none 0 0, .slice none 0 0, .int .i64 0, .int .i64 0]) rfl).puts 1 (.int .i64 0) (cs' := #[.int .i64 6, .int .i64 0, .int .i64 0, .int .i64 0, .int .i64 0, .int .i64 0, .int .i64 0, .slice none 0 0, .slice none 0 0, .int .i64 0, .int .i64 0]) rfl).puts 2 (.int .i64 0) (cs' := #[.int .i64 6, .int .i64 0, .int .i64 0, .int .i64 0, .int .i64 0, .int .i64 0, .int .i64 0, .slice none 0 0, .slice none 0 0, .int .i64 0, .int .i64 0]) rfl).puts 3 (.int .i64 0) (cs' := #[.int .i64 6, .int .i64 0, .int .i64 0, .int .i64 0, .int .i64 0, .int .i64 0, .int .i64 0, .slice none 0 0, .slice none 0 0, .int .i64 0, .int .i64 0]) rfl).puts 4 (.int .i64 0) (cs' := #[.int .i64 6, .int .i64 0, .int .i64 0, .int .i64 0, .int .i64 0, .int .i64 0, .int .i64 0, .slice none 0 0, .slice none 0 0, .int .i64 0, .int .i64 0]) rfl).puts 5 (.int .i64 0) (cs' := #[.int .i64 6, .int .i64 0, .int .i64 0, .int .i64 0, .int .i64 0, .int .i64 0, .int .i64 0, .slice none 0 0, .slice none 0 0, .int .i64 0, .int .i64 0]) rfl).puts 6 (.int .i64 0) (cs' := #[.int .i64 6, .int .i64 0, .int .i64 0, .int .i64 0, .int .i64 0, .int .i64 0, .int .i64 0, .slice none 0 0, .slice none 0 0, .int .i64 0, .int .i64 0]) rfl).puts 7 (.slice none 0 0) (cs' := #[.int .i64 6, .int .i64 0, .int .i64 0, .int .i64 0, .int .i64 0, .int .i64 0, .int .i64 0, .slice none 0 0, .slice none 0 0, .int .i64 0, .int .i64 0]) rfl).puts 8 (.slice none 0 0) (cs' := #[.int .i64 6, .int .i64 0, .int .i64 0, .int .i64 0, .int .i64 0, .int .i64 0, .int .i64 0, .slice none 0 0, .slice none 0 0, .int .i64 0, .int .i64 0]) rfl).puts 9 (.int .i64 0) (cs' := #[.int .i64 6, .int .i64 0, .int .i64 0, .int .i64 0, .int .i64 0, .int .i64 0, .int .i64 0, .slice none 0 0, .slice none 0 0, .int .i64 0, .int .i64 0]) rfl).puts 10 (.int .i64 0) (cs' := #[.int .i64 6, .int .i64 0, .int .i64 0, .int .i64 0, .int .i64 0, .int .i64 0, .int .i64 0, .slice none 0 0, .slice none 0 0, .int .i64 0, .int .i64 0]) rfl)
  replace HD := HD.only ho (by have := Z1.out; omega)
  replace HB := Lib.hid (Below.only HB.out ho (by have := Z1.out; omega) HB.out.size)
  have Z2 : Hid (U4.heap.size = w3.heap.size) := Lib.hid (by rw [hU4]; simp [World.setCell]); clear ho
  have q_0 := HX1.look 0
  have q_1 := HX1.look 1
  have q_2 := HX1.look 2
  have q_3 := HX1.look 3
  have q_4 := HX1.look 4
  have q_5 := HX1.look 5
  have q_6 := HX1.look 6
  have q_7 := HX1.look 7
  have q_8 := HX1.look 8
  have q_9 := HX1.look 9
  have q_10 := HX1.look 10
  have fin : ∀ e, e = Ending.returned (.agg (resCells 6 zeroM none none 0 0 0 0)) → (LsaOut w 6 zeroM e U4) := by rintro _ rfl; exact ⟨none, none, 0, 0, 0, 0, rfl, LsaTwo.zero _ _ (by have := Z1.out; have := Z2.out; omega), by omega, by omega, HB.out⟩
  subst hU4
  exact bodyPost_ret (v := .agg (resCells 6 zeroM none none 0 0 0 0)) (by simp [results, Try.results19, go_sem, zeroM, q_0, q_1, q_2, q_3, q_4, q_5, q_6, q_7, q_8, q_9, q_10]) rfl (fin _ rfl)

set_option maxRecDepth 100000 in
set_option maxHeartbeats 6400000 in
theorem specDecode_text (b off n c : Nat) (xs : List Int) (w : World) (ha : BIn w (some ⟨b, off, none⟩) n xs) (hb : Bytes xs) (hnc : n ≤ c) (hn0 : 20 ≤ n) (hn : n ≤ 400) (h : rval n xs 18 2 = n) (hs : sealedB (xs.drop 2) = true) (hg : ¬ goodB n xs) :
    Calls Try.prog 19 #[.slice (some ⟨b, off, none⟩) n c] w (LsaOut w 5 zeroM) := by
  have HD := ha.kept
  have HBY := Lib.hid hb
  have HLEN := Lib.hid ha.1
  have g1 : ¬ (n : Int) < 20 := by omega
  have g2 : ¬ (400 : Int) < n := by omega
  have HZ := Lib.hid h
  have hq : ((n : Int) != (n : Int)) = false := by simp
  have HS : Hid ((((sums (xs.drop 2)).1 % 255 == 0) && ((sums (xs.drop 2)).2 % 255 == 0)) = true) := Lib.hid (by have h := hs; unfold sealedB at h; rw [decide_eq_true (by rw [List.length_drop, HLEN.out]; omega), decide_eq_true (by rw [List.length_drop, HLEN.out]; omega)] at h; simpa using h)
  have HG := Lib.hid hg
  clear hg
  clear h hs
  have i1 : (2 : Int) ≤ (n : Int) := by omega
  have i2 : (n : Int) ≤ (c : Int) := by omega
  have i3 : ¬ c = 2 := by omega
  clear ha hb
  have HB := Lib.hid (Below.refl w.heap.size w)
  go_enter Try.func19, Try.ntmps19
  go_wp2_with fail
  refine Calls.name ?_
  intro U1 hU1
  have hb : Below w.heap.size w U1 := by rw [hU1]; exact ((Below.refl _ _).alloc (Nat.le_refl _) _)
  have zz : Hid (w.heap.size + 1 = U1.heap.size) := Lib.hid (by rw [hU1]; simp)
  have HX1 : Kept w.heap.size (w.heap.size + 1) (BoxK w.heap.size 36 #[.int .i64 0, .int .i64 0, .int .i64 0, .int .i64 0, .int .i64 0, .int .i64 0, .int .i64 0, .slice none 0 0, .slice none 0 0, .int .i64 0, .int .i64 0]) U1 := by rw [hU1]; exact Kept.box (Box.made_at _ _ _ rfl)
  replace HD := HD.below hb
  replace HB := Lib.hid (below_step HB.out hb)
  clear hb
  have Z1 := zz; clear zz
  clear hU1
  refine (l1ReadI (some ⟨b, off, none⟩) n c xs 18 2 _ HD.out HBY.out (by omega) (by omega) (by omega) (by omega)).mono ?_
  rw [HZ.out]
  rintro e w2 ⟨rfl, rfl⟩
  have l2_0 := HX1.bx.lt
  go_wp2_with fail
  clear l2_0
  have hP : BIn w2 (some ⟨b, off + 2, none⟩) (n - 2) (xs.drop 2) := by
    have h := HD.out.part (a := 2) (s := n - 2) (by omega)
    rw [List.take_of_length_le (by rw [List.length_drop, HLEN.out]; exact Nat.le_refl _)] at h
    exact h
  refine (l1Sealed_any _ (n - 2) (c - 2) (xs.drop 2) _ hP (fun z h => HBY.out z (List.mem_of_mem_drop h)) (by omega)).mono ?_
  rw [HS.out]
  rintro e w3 ⟨rfl, rfl⟩
  clear hP
  have l3_0 := HX1.bx.lt
  go_wp2_with fail
  clear l3_0
  refine (l2Decode_bad b off n c xs _ HD.out HBY.out (by omega) (by omega) (by omega) HG.out).mono ?_
  rintro e w4 ⟨l, E, F, k, d, m, d2, rfl, hb⟩
  have Z2 := Lib.hid hb.size
  replace HD := HD.below hb
  replace HX1 := HX1.below hb
  replace HB := Lib.hid (below_step HB.out hb)
  clear hb
  have c4_0 := HX1.look 0
  have c4_1 := HX1.look 1
  have c4_2 := HX1.look 2
  have c4_3 := HX1.look 3
  have c4_4 := HX1.look 4
  have c4_5 := HX1.look 5
  have c4_6 := HX1.look 6
  have c4_7 := HX1.look 7
  have c4_8 := HX1.look 8
  have c4_9 := HX1.look 9
  have c4_10 := HX1.look 10
  have f4_0 := HX1.free 0
  have f4_1 := HX1.free 1
  have f4_2 := HX1.free 2
  have f4_3 := HX1.free 3
  have f4_4 := HX1.free 4
  have f4_5 := HX1.free 5
  have f4_6 := HX1.free 6
  have f4_7 := HX1.free 7
  have f4_8 := HX1.free 8
  have f4_9 := HX1.free 9
  have f4_10 := HX1.free 10
  have l4_0 := HX1.bx.lt
  go_wp2
  clear c4_0 c4_1 c4_2 c4_3 c4_4 c4_5 c4_6 c4_7 c4_8 c4_9 c4_10 f4_0 f4_1 f4_2 f4_3 f4_4 f4_5 f4_6 f4_7 f4_8 f4_9 f4_10 l4_0
  obtain ⟨U5, hU5⟩ : ∃ W : World, W = (((((((((((w4.setCell ⟨w.heap.size, 0, none⟩ (.int .i64 5)).setCell ⟨w.heap.size, 1, none⟩ (.int .i64 0)).setCell ⟨w.heap.size, 2, none⟩ (.int .i64 0)).setCell ⟨w.heap.size, 3, none⟩ (.int .i64 0)).setCell ⟨w.heap.size, 4, none⟩ (.int .i64 0)).setCell ⟨w.heap.size, 5, none⟩ (.int .i64 0)).setCell ⟨w.heap.size, 6, none⟩ (.int .i64 0)).setCell ⟨w.heap.size, 7, none⟩ (.slice none 0 0)).setCell ⟨w.heap.size, 8, none⟩ (.slice none 0 0)).setCell ⟨w.heap.size, 9, none⟩ (.int .i64 0)).setCell ⟨w.heap.size, 10, none⟩ (.int .i64 0)) := ⟨_, rfl⟩
  have ho : Only w.heap.size (w.heap.size + 1) w4 U5 := by rw [hU5]; exact ((((((((((((Only.refl _ _ _).set (p := ⟨w.heap.size, 0, none⟩) (Nat.le_refl _) (Nat.lt_succ_self _) _).set (p := ⟨w.heap.size, 1, none⟩) (Nat.le_refl _) (Nat.lt_succ_self _) _).set (p := ⟨w.heap.size, 2, none⟩) (Nat.le_refl _) (Nat.lt_succ_self _) _).set (p := ⟨w.heap.size, 3, none⟩) (Nat.le_refl _) (Nat.lt_succ_self _) _).set (p := ⟨w.heap.size, 4, none⟩) (Nat.le_refl _) (Nat.lt_succ_self _) _).set (p := ⟨w.heap.size, 5, none⟩) (Nat.le_refl _) (Nat.lt_succ_self _) _).set (p := ⟨w.heap.size, 6, none⟩) (Nat.le_refl _) (Nat.lt_succ_self _) _).set (p := ⟨w.heap.size, 7, none⟩) (Nat.le_refl _) (Nat.lt_succ_self _) _).set (p := ⟨w.heap.size, 8, none⟩) (Nat.le_refl _) (Nat.lt_succ_self _) _).set (p := ⟨w.heap.size, 9, none⟩) (Nat.le_refl _) (Nat.lt_succ_self _) _).set (p := ⟨w.heap.size, 10, none⟩) (Nat.le_refl _) (Nat.lt_succ_self _) _)
  replace HX1 : Kept w.heap.size (w.heap.size + 1) (BoxK w.heap.size 36 #[.int .i64 5, .int .i64 0, .int .i64 0, .int .i64 0, .int .i64 0, .int .i64 0, .int .i64 0, .slice none 0 0, .slice none 0 0, .int .i64 0, .int .i64 0]) U5 := by rw [hU5]; exact Kept.box (((((((((((HX1.bx.puts 0 (.int .i64 5) (cs' := #[.int .i64 5, .int .i64 0, .int .i64 0, .int .i64 0, .int .i64 0, .int .i64 0, .int .i64 0, .slice none 0 0, .slice none 0 0, .int .i64 0, .int .i64 0]) rfl).puts 1 (.int .i64 0) (cs' := #[.int .i64 5, .int .i64 0, .int .i64 0, .int .i64 0, .int .i64 0, .int .i64 0, .int .i64 0, .slice none 0 0, .slice none 0 0, .int .i64 0, .int .i64 0]) rfl).puts 2 (.int .i64 0) (cs' := #[.int .i64 5, .int .i64 0, .int .i64 0, .int .i64 0, .int .i64 0, .int .i64 0, .int .i64 0, .slice none 0 0, .slice none 0 0, .int .i64 0, .int .i64 0]) rfl).puts 3 (.int .i64 0) (cs' := #[.int .i64 5, .int .i64 0, .int .i64 0, .int .i64 0, .int .i64 0, .int .i64 0, .int .i64 0, .slice none 0 0, .slice none 0 0, .int .i64 0, .int .i64 0]) rfl).puts 4 (.int .i64 0) (cs' := #[.int .i64 5, .int .i64 0, .int .i64 0, .int .i64 0, .int .i64 0, .int .i64 0, .int .i64 0, .slice none 0 0, .slice none 0 0, .int .i64 0, .int .i64 0]) rfl).puts 5 (.int .i64 0) (cs' := #[.int .i64 5, .int .i64 0, .int .i64 0, .int .i64 0, .int .i64 0, .int .i64 0, .int .i64 0, .slice none 0 0, .slice none 0 0, .int .i64 0, .int .i64 0]) rfl).puts 6 (.int .i64 0) (cs' := #[.int .i64 5, .int .i64 0, .int .i64 0, .int .i64 0, .int .i64 0, .int .i64 0, .int .i64 0, .slice none 0 0, .slice none 0 0, .int .i64 0, .int .i64 0]) rfl).puts 7 (.slice none 0 0) (cs' := #[.int .i64 5, .int .i64 0, .int .i64 0, .int .i64 0, .int .i64 0, .int .i64 0, .int .i64 0, .slice none 0 0, .slice none 0 0, .int .i64 0, .int .i64 0]) rfl).puts 8 (.slice none 0 0) (cs' := #[.int .i64 5, .int .i64 0, .int .i64 0, .int .i64 0, .int .i64 0, .int .i64 0, .int .i64 0, .slice none 0 0, .slice none 0 0, .int .i64 0, .int .i64 0]) rfl).puts 9 (.int .i64 0) (cs' := #[.int .i64 5, .int .i64 0, .int .i64 0, .int .i64 0, .int .i64 0, .int .i64 0, .int .i64 0, .slice none 0 0, .slice none 0 0, .int .i64 0, .int .i64 0]) rfl).puts 10 (.int .i64 0) (cs' := #[.int .i64 5, .int .i64 0, .int .i64 0, .int .i64 0, .int .i64 0, .int .i64 0, .int .i64 0, .slice none 0 0, .slice none 0 0, .int .i64 0, .int .i64 0]) rfl)
  replace HD := HD.only ho (by have := Z1.out; have := Z2.out; omega)
  replace HB := Lib.hid (Below.only HB.out ho (by have := Z1.out; have := Z2.out; omega) HB.out.size)
  have Z3 : Hid (U5.heap.size = w4.heap.size) := Lib.hid (by rw [hU5]; simp [World.setCell]); clear ho
  obtain ⟨U6, hU6⟩ : ∃ W : World, W = (U5.alloc (.cells #[.int .i64 l.age, .int .i64 l.options, .int .i64 l.typ, .int .i64 l.id, .int .i64 l.adv, .int .i64 l.seq, .slice E k d, .slice F m d2, .int .i64 l.mask, .int .i64 l.cost] 29)) := ⟨_, rfl⟩
  have hb : Below U5.heap.size U5 U6 := by rw [hU6]; exact ((Below.refl _ _).alloc (Nat.le_refl _) _)
  have zz : Hid (U5.heap.size + 1 = U6.heap.size) := Lib.hid (by rw [hU6]; simp)
  have HX2 : Kept w4.heap.size (w4.heap.size + 1) (BoxK w4.heap.size 29 #[.int .i64 l.age, .int .i64 l.options, .int .i64 l.typ, .int .i64 l.id, .int .i64 l.adv, .int .i64 l.seq, .slice E k d, .slice F m d2, .int .i64 l.mask, .int .i64 l.cost]) U6 := by rw [hU6]; exact Kept.box (Box.made_at _ _ _ (by rw [hU5]; simp [World.setCell]))
  replace HD := HD.below hb
  replace HX1 := HX1.below hb
  replace HB := Lib.hid (below_step HB.out hb)
  clear hb
  have Z4 := zz; clear zz
  have q_0 := HX1.look 0
  have q_1 := HX1.look 1
  have q_2 := HX1.look 2
  have q_3 := HX1.look 3
  have q_4 := HX1.look 4
  have q_5 := HX1.look 5
  have q_6 := HX1.look 6
  have q_7 := HX1.look 7
  have q_8 := HX1.look 8
  have q_9 := HX1.look 9
  have q_10 := HX1.look 10
  have fin : ∀ e, e = Ending.returned (.agg (resCells 5 zeroM none none 0 0 0 0)) → (LsaOut w 5 zeroM e U6) := by rintro _ rfl; exact ⟨none, none, 0, 0, 0, 0, rfl, LsaTwo.zero _ _ (by have := Z1.out; have := Z2.out; have := Z3.out; have := Z4.out; omega), by omega, by omega, HB.out⟩
  subst hU6 hU5
  exact bodyPost_ret (v := .agg (resCells 5 zeroM none none 0 0 0 0)) (by simp [results, Try.results19, go_sem, zeroM, q_0, q_1, q_2, q_3, q_4, q_5, q_6, q_7, q_8, q_9, q_10]) rfl (fin _ rfl)

set_option maxRecDepth 100000 in
set_option maxHeartbeats 6400000 in
theorem specDecode_good (b off n c : Nat) (xs : List Int) (w : World) (ha : BIn w (some ⟨b, off, none⟩) n xs) (hb : Bytes xs) (hnc : n ≤ c) (hn0 : 20 ≤ n) (hn : n ≤ 400) (h : rval n xs 18 2 = n) (hs : sealedB (xs.drop 2) = true) (hg : goodB n xs) :
    Calls Try.prog 19 #[.slice (some ⟨b, off, none⟩) n c] w (LsaOut w 0 (readM n xs)) := by
  obtain ⟨l, hl⟩ : ∃ z, readM n xs = z := ⟨_, rfl⟩
  have HRM := Lib.hid hl
  rw [hl]
  clear hl
  have HD := ha.kept
  have HBY := Lib.hid hb
  have HLEN := Lib.hid ha.1
  have g1 : ¬ (n : Int) < 20 := by omega
  have g2 : ¬ (400 : Int) < n := by omega
  have HZ := Lib.hid h
  have hq : ((n : Int) != (n : Int)) = false := by simp
  have HS : Hid ((((sums (xs.drop 2)).1 % 255 == 0) && ((sums (xs.drop 2)).2 % 255 == 0)) = true) := Lib.hid (by have h := hs; unfold sealedB at h; rw [decide_eq_true (by rw [List.length_drop, HLEN.out]; omega), decide_eq_true (by rw [List.length_drop, HLEN.out]; omega)] at h; simpa using h)
  have HG := Lib.hid hg
  clear hg
  clear h hs
  have i1 : (2 : Int) ≤ (n : Int) := by omega
  have i2 : (n : Int) ≤ (c : Int) := by omega
  have i3 : ¬ c = 2 := by omega
  clear ha hb
  have HB := Lib.hid (Below.refl w.heap.size w)
  go_enter Try.func19, Try.ntmps19
  go_wp2_with fail
  refine Calls.name ?_
  intro U1 hU1
  have hb : Below w.heap.size w U1 := by rw [hU1]; exact ((Below.refl _ _).alloc (Nat.le_refl _) _)
  have zz : Hid (w.heap.size + 1 = U1.heap.size) := Lib.hid (by rw [hU1]; simp)
  have HX1 : Kept w.heap.size (w.heap.size + 1) (BoxK w.heap.size 36 #[.int .i64 0, .int .i64 0, .int .i64 0, .int .i64 0, .int .i64 0, .int .i64 0, .int .i64 0, .slice none 0 0, .slice none 0 0, .int .i64 0, .int .i64 0]) U1 := by rw [hU1]; exact Kept.box (Box.made_at _ _ _ rfl)
  replace HD := HD.below hb
  replace HB := Lib.hid (below_step HB.out hb)
  clear hb
  have Z1 := zz; clear zz
  clear hU1
  refine (l1ReadI (some ⟨b, off, none⟩) n c xs 18 2 _ HD.out HBY.out (by omega) (by omega) (by omega) (by omega)).mono ?_
  rw [HZ.out]
  rintro e w2 ⟨rfl, rfl⟩
  have l2_0 := HX1.bx.lt
  go_wp2_with fail
  clear l2_0
  have hP : BIn w2 (some ⟨b, off + 2, none⟩) (n - 2) (xs.drop 2) := by
    have h := HD.out.part (a := 2) (s := n - 2) (by omega)
    rw [List.take_of_length_le (by rw [List.length_drop, HLEN.out]; exact Nat.le_refl _)] at h
    exact h
  refine (l1Sealed_any _ (n - 2) (c - 2) (xs.drop 2) _ hP (fun z h => HBY.out z (List.mem_of_mem_drop h)) (by omega)).mono ?_
  rw [HS.out]
  rintro e w3 ⟨rfl, rfl⟩
  clear hP
  have l3_0 := HX1.bx.lt
  go_wp2_with fail
  clear l3_0
  refine (l2Decode_good b off n c xs _ HD.out HBY.out (by omega) (by omega) (by omega) HG.out).mono ?_
  rw [HRM.out]
  rintro e w4 ⟨E, F, k, d, m, d2, rfl, ht, hk, hm, hb⟩
  have Z2 := Lib.hid hb.size
  replace HD := HD.below hb
  replace HX1 := HX1.below hb
  replace HB := Lib.hid (below_step HB.out hb)
  clear hb
  have HT := ht.kept; clear ht
  have c4_0 := HX1.look 0
  have c4_1 := HX1.look 1
  have c4_2 := HX1.look 2
  have c4_3 := HX1.look 3
  have c4_4 := HX1.look 4
  have c4_5 := HX1.look 5
  have c4_6 := HX1.look 6
  have c4_7 := HX1.look 7
  have c4_8 := HX1.look 8
  have c4_9 := HX1.look 9
  have c4_10 := HX1.look 10
  have f4_0 := HX1.free 0
  have f4_1 := HX1.free 1
  have f4_2 := HX1.free 2
  have f4_3 := HX1.free 3
  have f4_4 := HX1.free 4
  have f4_5 := HX1.free 5
  have f4_6 := HX1.free 6
  have f4_7 := HX1.free 7
  have f4_8 := HX1.free 8
  have f4_9 := HX1.free 9
  have f4_10 := HX1.free 10
  have l4_0 := HX1.bx.lt
  go_wp2
  clear c4_0 c4_1 c4_2 c4_3 c4_4 c4_5 c4_6 c4_7 c4_8 c4_9 c4_10 f4_0 f4_1 f4_2 f4_3 f4_4 f4_5 f4_6 f4_7 f4_8 f4_9 f4_10 l4_0
  obtain ⟨U5, hU5⟩ : ∃ W : World, W = (((((((((((w4.setCell ⟨w.heap.size, 0, none⟩ (.int .i64 0)).setCell ⟨w.heap.size, 1, none⟩ (.int .i64 l.age)).setCell ⟨w.heap.size, 2, none⟩ (.int .i64 l.options)).setCell ⟨w.heap.size, 3, none⟩ (.int .i64 l.typ)).setCell ⟨w.heap.size, 4, none⟩ (.int .i64 l.id)).setCell ⟨w.heap.size, 5, none⟩ (.int .i64 l.adv)).setCell ⟨w.heap.size, 6, none⟩ (.int .i64 l.seq)).setCell ⟨w.heap.size, 7, none⟩ (.slice E k d)).setCell ⟨w.heap.size, 8, none⟩ (.slice F m d2)).setCell ⟨w.heap.size, 9, none⟩ (.int .i64 l.mask)).setCell ⟨w.heap.size, 10, none⟩ (.int .i64 l.cost)) := ⟨_, rfl⟩
  have ho : Only w.heap.size (w.heap.size + 1) w4 U5 := by rw [hU5]; exact ((((((((((((Only.refl _ _ _).set (p := ⟨w.heap.size, 0, none⟩) (Nat.le_refl _) (Nat.lt_succ_self _) _).set (p := ⟨w.heap.size, 1, none⟩) (Nat.le_refl _) (Nat.lt_succ_self _) _).set (p := ⟨w.heap.size, 2, none⟩) (Nat.le_refl _) (Nat.lt_succ_self _) _).set (p := ⟨w.heap.size, 3, none⟩) (Nat.le_refl _) (Nat.lt_succ_self _) _).set (p := ⟨w.heap.size, 4, none⟩) (Nat.le_refl _) (Nat.lt_succ_self _) _).set (p := ⟨w.heap.size, 5, none⟩) (Nat.le_refl _) (Nat.lt_succ_self _) _).set (p := ⟨w.heap.size, 6, none⟩) (Nat.le_refl _) (Nat.lt_succ_self _) _).set (p := ⟨w.heap.size, 7, none⟩) (Nat.le_refl _) (Nat.lt_succ_self _) _).set (p := ⟨w.heap.size, 8, none⟩) (Nat.le_refl _) (Nat.lt_succ_self _) _).set (p := ⟨w.heap.size, 9, none⟩) (Nat.le_refl _) (Nat.lt_succ_self _) _).set (p := ⟨w.heap.size, 10, none⟩) (Nat.le_refl _) (Nat.lt_succ_self _) _)
  replace HX1 : Kept w.heap.size (w.heap.size + 1) (BoxK w.heap.size 36 #[.int .i64 0, .int .i64 l.age, .int .i64 l.options, .int .i64 l.typ, .int .i64 l.id, .int .i64 l.adv, .int .i64 l.seq, .slice E k d, .slice F m d2, .int .i64 l.mask, .int .i64 l.cost]) U5 := by rw [hU5]; exact Kept.box (((((((((((HX1.bx.puts 0 (.int .i64 0) (cs' := #[.int .i64 0, .int .i64 0, .int .i64 0, .int .i64 0, .int .i64 0, .int .i64 0, .int .i64 0, .slice none 0 0, .slice none 0 0, .int .i64 0, .int .i64 0]) rfl).puts 1 (.int .i64 l.age) (cs' := #[.int .i64 0, .int .i64 l.age, .int .i64 0, .int .i64 0, .int .i64 0, .int .i64 0, .int .i64 0, .slice none 0 0, .slice none 0 0, .int .i64 0, .int .i64 0]) rfl).puts 2 (.int .i64 l.options) (cs' := #[.int .i64 0, .int .i64 l.age, .int .i64 l.options, .int .i64 0, .int .i64 0, .int .i64 0, .int .i64 0, .slice none 0 0, .slice none 0 0, .int .i64 0, .int .i64 0]) rfl).puts 3 (.int .i64 l.typ) (cs' := #[.int .i64 0, .int .i64 l.age, .int .i64 l.options, .int .i64 l.typ, .int .i64 0, .int .i64 0, .int .i64 0, .slice none 0 0, .slice none 0 0, .int .i64 0, .int .i64 0]) rfl).puts 4 (.int .i64 l.id) (cs' := #[.int .i64 0, .int .i64 l.age, .int .i64 l.options, .int .i64 l.typ, .int .i64 l.id, .int .i64 0, .int .i64 0, .slice none 0 0, .slice none 0 0, .int .i64 0, .int .i64 0]) rfl).puts 5 (.int .i64 l.adv) (cs' := #[.int .i64 0, .int .i64 l.age, .int .i64 l.options, .int .i64 l.typ, .int .i64 l.id, .int .i64 l.adv, .int .i64 0, .slice none 0 0, .slice none 0 0, .int .i64 0, .int .i64 0]) rfl).puts 6 (.int .i64 l.seq) (cs' := #[.int .i64 0, .int .i64 l.age, .int .i64 l.options, .int .i64 l.typ, .int .i64 l.id, .int .i64 l.adv, .int .i64 l.seq, .slice none 0 0, .slice none 0 0, .int .i64 0, .int .i64 0]) rfl).puts 7 (.slice E k d) (cs' := #[.int .i64 0, .int .i64 l.age, .int .i64 l.options, .int .i64 l.typ, .int .i64 l.id, .int .i64 l.adv, .int .i64 l.seq, .slice E k d, .slice none 0 0, .int .i64 0, .int .i64 0]) rfl).puts 8 (.slice F m d2) (cs' := #[.int .i64 0, .int .i64 l.age, .int .i64 l.options, .int .i64 l.typ, .int .i64 l.id, .int .i64 l.adv, .int .i64 l.seq, .slice E k d, .slice F m d2, .int .i64 0, .int .i64 0]) rfl).puts 9 (.int .i64 l.mask) (cs' := #[.int .i64 0, .int .i64 l.age, .int .i64 l.options, .int .i64 l.typ, .int .i64 l.id, .int .i64 l.adv, .int .i64 l.seq, .slice E k d, .slice F m d2, .int .i64 l.mask, .int .i64 0]) rfl).puts 10 (.int .i64 l.cost) (cs' := #[.int .i64 0, .int .i64 l.age, .int .i64 l.options, .int .i64 l.typ, .int .i64 l.id, .int .i64 l.adv, .int .i64 l.seq, .slice E k d, .slice F m d2, .int .i64 l.mask, .int .i64 l.cost]) rfl)
  replace HD := HD.only ho (by have := Z1.out; have := Z2.out; omega)
  replace HT := HT.only ho (by have := Z1.out; have := Z2.out; omega)
  replace HB := Lib.hid (Below.only HB.out ho (by have := Z1.out; have := Z2.out; omega) HB.out.size)
  have Z3 : Hid (U5.heap.size = w4.heap.size) := Lib.hid (by rw [hU5]; simp [World.setCell]); clear ho
  obtain ⟨U6, hU6⟩ : ∃ W : World, W = (U5.alloc (.cells #[.int .i64 l.age, .int .i64 l.options, .int .i64 l.typ, .int .i64 l.id, .int .i64 l.adv, .int .i64 l.seq, .slice E k d, .slice F m d2, .int .i64 l.mask, .int .i64 l.cost] 29)) := ⟨_, rfl⟩
  have hb : Below U5.heap.size U5 U6 := by rw [hU6]; exact ((Below.refl _ _).alloc (Nat.le_refl _) _)
  have zz : Hid (U5.heap.size + 1 = U6.heap.size) := Lib.hid (by rw [hU6]; simp)
  have HX2 : Kept w4.heap.size (w4.heap.size + 1) (BoxK w4.heap.size 29 #[.int .i64 l.age, .int .i64 l.options, .int .i64 l.typ, .int .i64 l.id, .int .i64 l.adv, .int .i64 l.seq, .slice E k d, .slice F m d2, .int .i64 l.mask, .int .i64 l.cost]) U6 := by rw [hU6]; exact Kept.box (Box.made_at _ _ _ (by rw [hU5]; simp [World.setCell]))
  replace HD := HD.below hb
  replace HX1 := HX1.below hb
  replace HT := HT.below hb
  replace HB := Lib.hid (below_step HB.out hb)
  clear hb
  have Z4 := zz; clear zz
  have q_0 := HX1.look 0
  have q_1 := HX1.look 1
  have q_2 := HX1.look 2
  have q_3 := HX1.look 3
  have q_4 := HX1.look 4
  have q_5 := HX1.look 5
  have q_6 := HX1.look 6
  have q_7 := HX1.look 7
  have q_8 := HX1.look 8
  have q_9 := HX1.look 9
  have q_10 := HX1.look 10
  have fin : ∀ e, e = Ending.returned (.agg (resCells 0 l E F k d m d2)) → (LsaOut w 0 l e U6) := by rintro _ rfl; exact ⟨E, F, k, d, m, d2, rfl, LsaTwo.mono (lo' := w.heap.size) (hi' := U6.heap.size) HT.two (by have := Z1.out; have := Z2.out; have := Z3.out; have := Z4.out; omega) (by have := Z1.out; have := Z2.out; have := Z3.out; have := Z4.out; omega) (Nat.le_refl _), by omega, by omega, HB.out⟩
  subst hU6 hU5
  exact bodyPost_ret (v := .agg (resCells 0 l E F k d m d2)) (by simp [results, Try.results19, go_sem, q_0, q_1, q_2, q_3, q_4, q_5, q_6, q_7, q_8, q_9, q_10]) rfl (fin _ rfl)

/-- What the model's DecodeLsa answers. -/
theorem specDecode_any (A : Option Addr) (n c : Nat) (xs : List Int) (w : World) (ha : BIn w A n xs) (hb : Bytes xs) (hnc : n ≤ c) (hn : n ≤ 1048576) :
    Calls Try.prog 19 #[.slice A n c] w (LsaOut w (decCode n xs) (decM n xs)) := by
  have no : ∀ r, r ≠ 0 → decCode n xs = r → Calls Try.prog 19 #[.slice A n c] w (LsaOut w r zeroM) → Calls Try.prog 19 #[.slice A n c] w (LsaOut w (decCode n xs) (decM n xs)) := fun r h0 hr h => by
    have hM : decM n xs = zeroM := by unfold decM; rw [hr, if_neg h0]
    rw [hM, hr]; exact h
  by_cases h1 : 20 ≤ n ∧ n ≤ 400
  rotate_left
  · refine no 2 (by decide) (by unfold decCode; rw [if_pos h1]) ?_
    by_cases h : n < 20
    · exact specDecode_few A n c xs w hn h
    · exact specDecode_much A n c xs w hn (by omega)
  obtain ⟨b, off, rfl, _⟩ := ha.2 (by omega)
  by_cases h2 : rval n xs 18 2 = n
  rotate_left
  · exact no 1 (by decide) (by unfold decCode; rw [if_neg (by omega), if_pos h2]) (specDecode_form b off n c xs w ha hb hnc h1.1 h1.2 h2)
  by_cases h3 : sealedB (xs.drop 2) = false
  · exact no 6 (by decide) (by unfold decCode; rw [if_neg (by omega), if_neg (fun h => h h2), if_pos h3]) (specDecode_sum b off n c xs w ha hb hnc h1.1 h1.2 h2 h3)
  have h3' : sealedB (xs.drop 2) = true := by simpa using h3
  by_cases h4 : goodB n xs
  rotate_left
  · exact no 5 (by decide) (by unfold decCode; rw [if_neg (by omega), if_neg (fun h => h h2), if_neg h3, if_neg (show ¬ (faultOf (readM n xs) = 0 ∧ encN (readM n xs) = xs) from h4)]) (specDecode_text b off n c xs w ha hb hnc h1.1 h1.2 h2 h3' h4)
  have hc : decCode n xs = 0 := by unfold decCode; rw [if_neg (by omega), if_neg (fun h => h h2), if_neg h3, if_pos (show faultOf (readM n xs) = 0 ∧ encN (readM n xs) = xs from h4)]
  have hM : decM n xs = readM n xs := by unfold decM; rw [if_pos hc]
  rw [hc, hM]
  exact specDecode_good b off n c xs w ha hb hnc h1.1 h1.2 h2 h3' h4
/-- What the program's DecodeLsa answers, told alike. -/
theorem decodeOut_any (A : Option Addr) (n c : Nat) (xs : List Int) (w : World) (ha : BIn w A n xs) (hb : Bytes xs) (hnc : n ≤ c) (hn : n ≤ 1048576) :
    Calls Try.prog 16 #[.slice A n c] w (LsaOut w (decCode n xs) (decM n xs)) :=
  (decode_any A n c xs w ha hb hnc hn).mono fun e w' ⟨E, F, k, d, m, g, h1, h2, h3, h4, h5⟩ => ⟨E, F, k, d, m, g, h1, h2, by omega, by omega, h5⟩


end Go.Proofs.Ytamclkjofojhmaa

namespace Go.Proofs.Ytamclkjofojhmaa
open Go.RowKit
set_option linter.unusedVariables false

theorem toByteS_at (A : Option Addr) (n c : Nat) (xs : List Int) (w : World) (ha : BIn w A n xs) (hn : n ≤ 1048576) :
    Calls Try.prog 40 #[.slice A n c] w fun e w' => e = .returned (.slice (some ⟨w.heap.size, 0, none⟩) n n) ∧
      Own w' w.heap.size (some ⟨w.heap.size, 0, none⟩) n n xs ∧ w.heap.size < w'.heap.size ∧ Below w.heap.size w w' :=
  (toByteS_any A n c xs w ha hn).mono fun e w' ⟨h1, h2, h3⟩ => ⟨h1, h2, h2.lts _ rfl, h3⟩
theorem markByteS_only (g n c : Nat) (xs : List Int) (w : World) (ha : Own w g (some ⟨g, 0, none⟩) n c xs) (hn : n ≤ 1048576) :
    Calls Try.prog 43 #[.slice (some ⟨g, 0, none⟩) n c, .int .i64 1] w fun e w' => ∃ kk : Int, 0 ≤ kk ∧ e = .returned (.int .i64 kk) ∧ Only g (g + 1) w w' :=
  (markByteS_any _ g n c xs 1 w ha hn (by omega) (by omega)).mono fun e w' ⟨h1, _, h3⟩ => ⟨1 + n, by omega, h1, Only.of_grown h3 (fun r hr => by simp only [Option.map_some, Option.some.injEq] at hr; omega)⟩
set_option maxRecDepth 100000 in
set_option maxHeartbeats 3200000 in
theorem law_DecodeLsa (A0 : Option Addr) (n0 c0 : Nat) (xs0 : List Int) (w : World) (ha0 : BIn w A0 n0 xs0) (hb0 : Bytes xs0) (hn0 : n0 ≤ maxLen) :
    Calls Try.prog 6 #[.slice A0 n0 c0] w fun e w' => e = .returned (.bool true) ∧ Below w.heap.size w w' := by
  by_cases hbig : (1048576 : Int) < n0
  · have HB := Lib.hid (Below.refl w.heap.size w)
    have HA0 := ha0.kept
    have HBY0 := Lib.hid hb0
    clear ha0 hb0
    go_enter Try.func6, Try.ntmps6
    go_wp2
    go_ret
    exact ⟨rfl, HB.out⟩
  have HB := Lib.hid (Below.refl w.heap.size w)
  have HA0 := ha0.kept
  have HBY0 := Lib.hid hb0
  clear ha0 hb0
  have hN0 : n0 ≤ 1048576 := by omega
  obtain ⟨r, hr⟩ : ∃ z, decCode n0 xs0 = z := ⟨_, rfl⟩
  have HRr := Lib.hid hr
  clear hr
  obtain ⟨x, hr⟩ : ∃ z, decM n0 xs0 = z := ⟨_, rfl⟩
  have HRx := Lib.hid hr
  clear hr
  go_enter Try.func6, Try.ntmps6
  go_wp2_with fail
  refine (toByteS_at A0 n0 c0 xs0 _ HA0.out hN0).mono ?_
  rintro e w1 ⟨rfl, hs, hl, hb⟩
  have Z1 := Lib.hid hb.size
  replace HA0 := HA0.below hb
  replace HB := Lib.hid (below_step HB.out hb)
  clear hb
  have HS := hs.kept rfl; clear hs
  have Z2 := Lib.hid hl; clear hl
  go_wp2_with fail
  refine (specDecode_any (some ⟨w.heap.size, 0, none⟩) n0 n0 xs0 _ HS.own.bin HBY0.out (Nat.le_refl _) hN0).mono ?_
  rw [HRr.out, HRx.out]
  rintro e w2 ⟨E0, F0, j0, b0, s0, t0, rfl, ht, hj0, hs0, hb⟩
  have Z3 := Lib.hid hb.size
  replace HA0 := HA0.below hb
  replace HS := HS.below hb
  replace HB := Lib.hid (below_step HB.out hb)
  clear hb
  have HO0 := ht.kept; clear ht
  have HQ : Hid (x.links.length = j0 ∧ x.routers.length = s0) := Lib.hid ⟨HO0.two.at_.in_.links.1, HO0.two.at_.in_.routers.1⟩
  clear HS
  go_wp2_with fail
  refine Calls.name ?_
  intro U3 hU3
  have hb : Below w2.heap.size w2 U3 := by rw [hU3]; exact ((Below.refl _ _).alloc (Nat.le_refl _) _)
  have zz : Hid (w2.heap.size + 1 = U3.heap.size) := Lib.hid (by rw [hU3]; simp)
  have HX1 : Kept w2.heap.size (w2.heap.size + 1) (BoxK w2.heap.size 36 #[.int .i64 r, .int .i64 x.age, .int .i64 x.options, .int .i64 x.typ, .int .i64 x.id, .int .i64 x.adv, .int .i64 x.seq, .slice E0 j0 b0, .slice F0 s0 t0, .int .i64 x.mask, .int .i64 x.cost]) U3 := by rw [hU3]; exact Kept.box (Box.made_at _ _ _ rfl)
  replace HA0 := HA0.below hb
  replace HO0 := HO0.below hb
  replace HB := Lib.hid (below_step HB.out hb)
  clear hb
  have Z4 := zz; clear zz
  clear hU3
  refine (toByteS_at A0 n0 c0 xs0 _ HA0.out hN0).mono ?_
  rintro e w4 ⟨rfl, hs, hl, hb⟩
  have Z5 := Lib.hid hb.size
  replace HA0 := HA0.below hb
  replace HO0 := HO0.below hb
  replace HX1 := HX1.below hb
  replace HB := Lib.hid (below_step HB.out hb)
  clear hb
  have HG := hs.kept rfl; clear hs
  have Z6 := Lib.hid hl; clear hl
  have l4_0 := HX1.bx.lt
  go_wp2_with fail
  clear l4_0
  refine (decodeOut_any (some ⟨U3.heap.size, 0, none⟩) n0 n0 xs0 _ HG.own.bin HBY0.out (Nat.le_refl _) hN0).mono ?_
  rw [HRr.out, HRx.out]
  rintro e w5 ⟨E1, F1, j1, b1, s1, t1, rfl, ht, hj1, hs1, hb⟩
  have Z7 := Lib.hid hb.size
  replace HA0 := HA0.below hb
  replace HO0 := HO0.below hb
  replace HX1 := HX1.below hb
  replace HG := HG.below hb
  replace HB := Lib.hid (below_step HB.out hb)
  clear hb
  have HO1 := ht.kept; clear ht
  obtain rfl : j0 = j1 := by have := HO1.two.at_.in_.links.1; have := HO0.two.at_.in_.links.1; omega
  obtain rfl : s0 = s1 := by have := HO1.two.at_.in_.routers.1; have := HO0.two.at_.in_.routers.1; omega
  have c5_0 := HX1.look 0
  have c5_1 := HX1.look 1
  have c5_2 := HX1.look 2
  have c5_3 := HX1.look 3
  have c5_4 := HX1.look 4
  have c5_5 := HX1.look 5
  have c5_6 := HX1.look 6
  have c5_7 := HX1.look 7
  have c5_8 := HX1.look 8
  have c5_9 := HX1.look 9
  have c5_10 := HX1.look 10
  have l5_0 := HX1.bx.lt
  go_wp2_with fail
  clear c5_0 c5_1 c5_2 c5_3 c5_4 c5_5 c5_6 c5_7 c5_8 c5_9 c5_10 l5_0
  refine Calls.name ?_
  intro U6 hU6
  have hb : Below w5.heap.size w5 U6 := by rw [hU6]; exact ((Below.refl _ _).alloc (Nat.le_refl _) _)
  have zz : Hid (w5.heap.size + 1 = U6.heap.size) := Lib.hid (by rw [hU6]; simp)
  have HX2 : Kept w5.heap.size (w5.heap.size + 1) (BoxK w5.heap.size 36 #[.int .i64 r, .int .i64 x.age, .int .i64 x.options, .int .i64 x.typ, .int .i64 x.id, .int .i64 x.adv, .int .i64 x.seq, .slice E1 j0 b1, .slice F1 s0 t1, .int .i64 x.mask, .int .i64 x.cost]) U6 := by rw [hU6]; exact Kept.box (Box.made_at _ _ _ rfl)
  replace HA0 := HA0.below hb
  replace HO0 := HO0.below hb
  replace HX1 := HX1.below hb
  replace HG := HG.below hb
  replace HO1 := HO1.below hb
  replace HB := Lib.hid (below_step HB.out hb)
  clear hb
  have Z8 := zz; clear zz
  clear hU6
  refine (eqLsaResult_yes r x _ _ _ _ _ _ E1 F1 E0 F0 j0 b1 s0 t1 b0 t0 _ HO1.two.at_ HO0.two.at_ hj0 hs0).mono ?_
  rintro e w7 ⟨rfl, hb⟩
  have Z9 := Lib.hid hb.size
  replace HA0 := HA0.below hb
  replace HO0 := HO0.below hb
  replace HX1 := HX1.below hb
  replace HG := HG.below hb
  replace HO1 := HO1.below hb
  replace HX2 := HX2.below hb
  replace HB := Lib.hid (below_step HB.out hb)
  clear hb
  have l6_0 := HX1.bx.lt
  have l6_1 := HX2.bx.lt
  go_wp2_with fail
  clear l6_0 l6_1
  refine (toByteS_at A0 n0 c0 xs0 _ HA0.out hN0).mono ?_
  rintro e w8 ⟨rfl, hs, hl, hb⟩
  have Z10 := Lib.hid hb.size
  replace HA0 := HA0.below hb
  replace HO0 := HO0.below hb
  replace HX1 := HX1.below hb
  replace HG := HG.below hb
  replace HO1 := HO1.below hb
  replace HX2 := HX2.below hb
  replace HB := Lib.hid (below_step HB.out hb)
  clear hb
  have HZ := hs.kept rfl; clear hs
  have Z11 := Lib.hid hl; clear hl
  have l7_0 := HX1.bx.lt
  have l7_1 := HX2.bx.lt
  go_wp2_with fail
  clear l7_0 l7_1
  refine (eqByteS_yes _ _ n0 n0 n0 n0 xs0 _ HG.own.bin HZ.own.bin hN0 hN0).mono ?_
  rintro e w9 ⟨rfl, hb⟩
  have Z12 := Lib.hid hb.size
  replace HA0 := HA0.below hb
  replace HO0 := HO0.below hb
  replace HX1 := HX1.below hb
  replace HG := HG.below hb
  replace HO1 := HO1.below hb
  replace HX2 := HX2.below hb
  replace HZ := HZ.below hb
  replace HB := Lib.hid (below_step HB.out hb)
  clear hb
  clear HZ
  have l8_0 := HX1.bx.lt
  have l8_1 := HX2.bx.lt
  go_wp2_with fail
  clear l8_0 l8_1
  refine (markByteS_only _ n0 n0 xs0 _ HG.own hN0).mono ?_
  rintro e w10 ⟨kk, hkk, rfl, ho⟩
  have Z13 := Lib.hid ho.size
  replace HA0 := HA0.only ho (by have := Z1.out; have := Z2.out; have := Z3.out; have := Z4.out; have := Z5.out; have := Z6.out; have := Z7.out; have := Z8.out; have := Z9.out; have := Z10.out; have := Z11.out; have := Z12.out; have := Z13.out; omega)
  replace HO0 := HO0.only ho (by have := Z1.out; have := Z2.out; have := Z3.out; have := Z4.out; have := Z5.out; have := Z6.out; have := Z7.out; have := Z8.out; have := Z9.out; have := Z10.out; have := Z11.out; have := Z12.out; have := Z13.out; omega)
  replace HX1 := HX1.only ho (by have := Z1.out; have := Z2.out; have := Z3.out; have := Z4.out; have := Z5.out; have := Z6.out; have := Z7.out; have := Z8.out; have := Z9.out; have := Z10.out; have := Z11.out; have := Z12.out; have := Z13.out; omega)
  replace HO1 := HO1.only ho (by have := Z1.out; have := Z2.out; have := Z3.out; have := Z4.out; have := Z5.out; have := Z6.out; have := Z7.out; have := Z8.out; have := Z9.out; have := Z10.out; have := Z11.out; have := Z12.out; have := Z13.out; omega)
  replace HX2 := HX2.only ho (by have := Z1.out; have := Z2.out; have := Z3.out; have := Z4.out; have := Z5.out; have := Z6.out; have := Z7.out; have := Z8.out; have := Z9.out; have := Z10.out; have := Z11.out; have := Z12.out; have := Z13.out; omega)
  replace HB := Lib.hid (Below.only HB.out ho (by have := Z1.out; have := Z2.out; have := Z3.out; have := Z4.out; have := Z5.out; have := Z6.out; have := Z7.out; have := Z8.out; have := Z9.out; have := Z10.out; have := Z11.out; have := Z12.out; have := Z13.out; omega) HB.out.size)
  clear ho
  clear HG
  have hkk' : ¬ kk < 0 := by omega
  have c9_0 := HX1.look 0
  have c9_1 := HX1.look 1
  have c9_2 := HX1.look 2
  have c9_3 := HX1.look 3
  have c9_4 := HX1.look 4
  have c9_5 := HX1.look 5
  have c9_6 := HX1.look 6
  have c9_7 := HX1.look 7
  have c9_8 := HX1.look 8
  have c9_9 := HX1.look 9
  have c9_10 := HX1.look 10
  have c9_11 := HX2.look 0
  have c9_12 := HX2.look 1
  have c9_13 := HX2.look 2
  have c9_14 := HX2.look 3
  have c9_15 := HX2.look 4
  have c9_16 := HX2.look 5
  have c9_17 := HX2.look 6
  have c9_18 := HX2.look 7
  have c9_19 := HX2.look 8
  have c9_20 := HX2.look 9
  have c9_21 := HX2.look 10
  have l9_0 := HX1.bx.lt
  have l9_1 := HX2.bx.lt
  go_wp2_with fail
  clear c9_0 c9_1 c9_2 c9_3 c9_4 c9_5 c9_6 c9_7 c9_8 c9_9 c9_10 c9_11 c9_12 c9_13 c9_14 c9_15 c9_16 c9_17 c9_18 c9_19 c9_20 c9_21 l9_0 l9_1
  refine (eqLsaResult_yes r x _ _ _ _ _ _ E1 F1 E0 F0 j0 b1 s0 t1 b0 t0 _ HO1.two.at_ HO0.two.at_ hj0 hs0).mono ?_
  rintro e w11 ⟨rfl, hb⟩
  have Z14 := Lib.hid hb.size
  replace HA0 := HA0.below hb
  replace HO0 := HO0.below hb
  replace HX1 := HX1.below hb
  replace HO1 := HO1.below hb
  replace HX2 := HX2.below hb
  replace HB := Lib.hid (below_step HB.out hb)
  clear hb
  have c10_0 := HX2.look 0
  have c10_1 := HX2.look 1
  have c10_2 := HX2.look 2
  have c10_3 := HX2.look 3
  have c10_4 := HX2.look 4
  have c10_5 := HX2.look 5
  have c10_6 := HX2.look 6
  have c10_7 := HX2.look 7
  have c10_8 := HX2.look 8
  have c10_9 := HX2.look 9
  have c10_10 := HX2.look 10
  have l10_0 := HX1.bx.lt
  have l10_1 := HX2.bx.lt
  go_wp2_with fail
  clear c10_0 c10_1 c10_2 c10_3 c10_4 c10_5 c10_6 c10_7 c10_8 c10_9 c10_10 l10_0 l10_1
  refine (markLsaResult_two r x _ _ E1 F1 j0 b1 s0 t1 1 _ HO1.two hj0 hs0 (by omega) (by omega)).mono ?_
  rintro e w12 ⟨rfl, ht, ho⟩
  have Z15 := Lib.hid ho.size
  replace HA0 := HA0.only ho (by have := Z1.out; have := Z2.out; have := Z3.out; have := Z4.out; have := Z5.out; have := Z6.out; have := Z7.out; have := Z8.out; have := Z9.out; have := Z10.out; have := Z11.out; have := Z12.out; have := Z13.out; have := Z14.out; have := Z15.out; omega)
  replace HO0 := HO0.only ho (by have := Z1.out; have := Z2.out; have := Z3.out; have := Z4.out; have := Z5.out; have := Z6.out; have := Z7.out; have := Z8.out; have := Z9.out; have := Z10.out; have := Z11.out; have := Z12.out; have := Z13.out; have := Z14.out; have := Z15.out; omega)
  replace HX1 := HX1.only ho (by have := Z1.out; have := Z2.out; have := Z3.out; have := Z4.out; have := Z5.out; have := Z6.out; have := Z7.out; have := Z8.out; have := Z9.out; have := Z10.out; have := Z11.out; have := Z12.out; have := Z13.out; have := Z14.out; have := Z15.out; omega)
  replace HX2 := HX2.only ho (by have := Z1.out; have := Z2.out; have := Z3.out; have := Z4.out; have := Z5.out; have := Z6.out; have := Z7.out; have := Z8.out; have := Z9.out; have := Z10.out; have := Z11.out; have := Z12.out; have := Z13.out; have := Z14.out; have := Z15.out; omega)
  replace HB := Lib.hid (Below.only HB.out ho (by have := Z1.out; have := Z2.out; have := Z3.out; have := Z4.out; have := Z5.out; have := Z6.out; have := Z7.out; have := Z8.out; have := Z9.out; have := Z10.out; have := Z11.out; have := Z12.out; have := Z13.out; have := Z14.out; have := Z15.out; omega) HB.out.size)
  clear ho
  clear HO1
  have HM := ht.kept; clear ht
  have hq1 : ¬ (1 + 4 * (j0 : Int) + s0 < 0) := by omega
  have c11_0 := HX2.look 0
  have c11_1 := HX2.look 1
  have c11_2 := HX2.look 2
  have c11_3 := HX2.look 3
  have c11_4 := HX2.look 4
  have c11_5 := HX2.look 5
  have c11_6 := HX2.look 6
  have c11_7 := HX2.look 7
  have c11_8 := HX2.look 8
  have c11_9 := HX2.look 9
  have c11_10 := HX2.look 10
  have l11_0 := HX1.bx.lt
  have l11_1 := HX2.bx.lt
  go_wp2_with fail
  clear c11_0 c11_1 c11_2 c11_3 c11_4 c11_5 c11_6 c11_7 c11_8 c11_9 c11_10 l11_0 l11_1
  refine (heldLsaResult_yes r x true _ _ E1 F1 j0 b1 s0 t1 1 _ HM.two.at_ hj0 hs0 (by omega) (by omega) HQ.out).mono ?_
  rintro e w13 ⟨rfl, hb⟩
  have Z16 := Lib.hid hb.size
  replace HA0 := HA0.below hb
  replace HO0 := HO0.below hb
  replace HX1 := HX1.below hb
  replace HX2 := HX2.below hb
  replace HM := HM.below hb
  replace HB := Lib.hid (below_step HB.out hb)
  clear hb
  have l12_0 := HX1.bx.lt
  have l12_1 := HX2.bx.lt
  go_wp2_with fail
  clear l12_0 l12_1
  refine (toByteS_at A0 n0 c0 xs0 _ HA0.out hN0).mono ?_
  rintro e w14 ⟨rfl, hs, hl, hb⟩
  have Z17 := Lib.hid hb.size
  replace HA0 := HA0.below hb
  replace HO0 := HO0.below hb
  replace HX1 := HX1.below hb
  replace HX2 := HX2.below hb
  replace HM := HM.below hb
  replace HB := Lib.hid (below_step HB.out hb)
  clear hb
  have HH := hs.kept rfl; clear hs
  have Z18 := Lib.hid hl; clear hl
  have l13_0 := HX1.bx.lt
  have l13_1 := HX2.bx.lt
  go_wp2_with fail
  clear l13_0 l13_1
  refine (decodeOut_any (some ⟨w13.heap.size, 0, none⟩) n0 n0 xs0 _ HH.own.bin HBY0.out (Nat.le_refl _) hN0).mono ?_
  rw [HRr.out, HRx.out]
  rintro e w15 ⟨E2, F2, j2, b2, s2, t2, rfl, ht, hj2, hs2, hb⟩
  have Z19 := Lib.hid hb.size
  replace HA0 := HA0.below hb
  replace HO0 := HO0.below hb
  replace HX1 := HX1.below hb
  replace HX2 := HX2.below hb
  replace HM := HM.below hb
  replace HH := HH.below hb
  replace HB := Lib.hid (below_step HB.out hb)
  clear hb
  have HO2 := ht.kept; clear ht
  obtain rfl : j0 = j2 := by have := HO2.two.at_.in_.links.1; have := HO0.two.at_.in_.links.1; omega
  obtain rfl : s0 = s2 := by have := HO2.two.at_.in_.routers.1; have := HO0.two.at_.in_.routers.1; omega
  have c14_0 := HX1.look 0
  have c14_1 := HX1.look 1
  have c14_2 := HX1.look 2
  have c14_3 := HX1.look 3
  have c14_4 := HX1.look 4
  have c14_5 := HX1.look 5
  have c14_6 := HX1.look 6
  have c14_7 := HX1.look 7
  have c14_8 := HX1.look 8
  have c14_9 := HX1.look 9
  have c14_10 := HX1.look 10
  have l14_0 := HX1.bx.lt
  have l14_1 := HX2.bx.lt
  go_wp2_with fail
  clear c14_0 c14_1 c14_2 c14_3 c14_4 c14_5 c14_6 c14_7 c14_8 c14_9 c14_10 l14_0 l14_1
  refine Calls.name ?_
  intro U16 hU16
  have hb : Below w15.heap.size w15 U16 := by rw [hU16]; exact ((Below.refl _ _).alloc (Nat.le_refl _) _)
  have zz : Hid (w15.heap.size + 1 = U16.heap.size) := Lib.hid (by rw [hU16]; simp)
  have HX3 : Kept w15.heap.size (w15.heap.size + 1) (BoxK w15.heap.size 36 #[.int .i64 r, .int .i64 x.age, .int .i64 x.options, .int .i64 x.typ, .int .i64 x.id, .int .i64 x.adv, .int .i64 x.seq, .slice E2 j0 b2, .slice F2 s0 t2, .int .i64 x.mask, .int .i64 x.cost]) U16 := by rw [hU16]; exact Kept.box (Box.made_at _ _ _ rfl)
  replace HA0 := HA0.below hb
  replace HO0 := HO0.below hb
  replace HX1 := HX1.below hb
  replace HX2 := HX2.below hb
  replace HM := HM.below hb
  replace HH := HH.below hb
  replace HO2 := HO2.below hb
  replace HB := Lib.hid (below_step HB.out hb)
  clear hb
  have Z20 := zz; clear zz
  clear hU16
  refine (eqLsaResult_yes r x _ _ _ _ _ _ E2 F2 E0 F0 j0 b2 s0 t2 b0 t0 _ HO2.two.at_ HO0.two.at_ hj0 hs0).mono ?_
  rintro e w17 ⟨rfl, hb⟩
  have Z21 := Lib.hid hb.size
  replace HA0 := HA0.below hb
  replace HO0 := HO0.below hb
  replace HX1 := HX1.below hb
  replace HX2 := HX2.below hb
  replace HM := HM.below hb
  replace HH := HH.below hb
  replace HO2 := HO2.below hb
  replace HX3 := HX3.below hb
  replace HB := Lib.hid (below_step HB.out hb)
  clear hb
  have c15_0 := HX2.look 0
  have c15_1 := HX2.look 1
  have c15_2 := HX2.look 2
  have c15_3 := HX2.look 3
  have c15_4 := HX2.look 4
  have c15_5 := HX2.look 5
  have c15_6 := HX2.look 6
  have c15_7 := HX2.look 7
  have c15_8 := HX2.look 8
  have c15_9 := HX2.look 9
  have c15_10 := HX2.look 10
  have l15_0 := HX1.bx.lt
  have l15_1 := HX2.bx.lt
  have l15_2 := HX3.bx.lt
  go_wp2_with fail
  clear c15_0 c15_1 c15_2 c15_3 c15_4 c15_5 c15_6 c15_7 c15_8 c15_9 c15_10 l15_0 l15_1 l15_2
  refine (heldLsaResult_yes r x true _ _ E1 F1 j0 b1 s0 t1 1 _ HM.two.at_ hj0 hs0 (by omega) (by omega) HQ.out).mono ?_
  rintro e w18 ⟨rfl, hb⟩
  have Z22 := Lib.hid hb.size
  replace HA0 := HA0.below hb
  replace HO0 := HO0.below hb
  replace HX1 := HX1.below hb
  replace HX2 := HX2.below hb
  replace HM := HM.below hb
  replace HH := HH.below hb
  replace HO2 := HO2.below hb
  replace HX3 := HX3.below hb
  replace HB := Lib.hid (below_step HB.out hb)
  clear hb
  have l16_0 := HX1.bx.lt
  have l16_1 := HX2.bx.lt
  have l16_2 := HX3.bx.lt
  go_wp2
  clear l16_0 l16_1 l16_2
  go_ret
  exact ⟨rfl, HB.out⟩

end Go.Proofs.Ytamclkjofojhmaa

namespace Go.Proofs.Ytamclkjofojhmaa.fnExactDecodeLsa
open Go.ChangeShapes Go.WideShapes Go.ChangeAt Go.RowKit
open Go.ChangeMaps (open_string shut_string)
set_option linter.unusedVariables false

theorem own : ownKnob Try.prog.godebug = none := by kernel_rfl
theorem laidOut : laidOutB Try.prog = true := by kernel_rfl

/-- A slice of integers that came in: nil, or a row of cap cells. -/
def IsRow (k : IntKind) (w : World) (a : Option Addr) (len cap : Nat) (zs : List Int) : Prop :=
  (a = none ∧ len = 0 ∧ cap = 0 ∧ zs = []) ∨
  ∃ x, a = some x ∧ len ≤ cap ∧ cap ≤ maxLen ∧ zs.length = cap ∧ (∀ i, i < zs.length → w.cell? (x.add i) = some (.int k (zs.getD i 0))) ∧ ∀ n ∈ zs, (Lit.int k n).wf = true

theorem walk (a0 : Option Addr) (len0 cap0 : Nat) (z0 : List Int) (w : World) (w0 : IsRow .u8 w a0 len0 cap0 z0) :
    Calls Try.prog 6 #[.slice a0 len0 cap0] w fun e w' => e = .returned (.bool true) ∧ Below w.heap.size w w' := by
  obtain ⟨xs0, hx0, hy0, hm0⟩ := bin_of_row w0
  exact law_DecodeLsa a0 len0 cap0 xs0 w hx0 hy0 hm0

set_option maxRecDepth 100000 in
theorem lifted (os : Os) (started : os.Started) (H : Type) (enc : TypeId × Value → H) :
    ReturnsInHanded {} Try.checked os 6 .any (Rows.fnExactDecodeLsaSpec.pre6 enc Try.prog Try.f6 Rows.fnExactDecodeLsaRow.domain false) (Rows.fnExactDecodeLsaSpec.post enc Try.prog Try.f6 false true false false) := by
  refine returnsInHanded_of_change (C := Try.checked) own started (by kernel_rfl) Try.func6
    (ChangeSpec.witness6 (enc := enc) (C := Try.checked) false ⟨#[], #[.slice none 0 0], []⟩ 8 (by kernel_rfl) (by kernel_rfl) (by kernel_rfl) (by kernel_rfl)) ?_
  intro W base args ds gs before hval0 hW hcnd _
  have hval : ∀ (j : Nat) t v, Try.f6.params[j]? = some t → args[j]? = some v → Value.okWide Try.prog W .any base t v := hval0
  have hW' := hW
  obtain ⟨p, q, hA0, hV, rfl, hfz, hnd⟩ := hW
  have hA : DataW.TrodAll enc Try.prog W 0 (fun _ => true) true Try.f6.params.toList args.toList ds p := hA0
  rw [Try.params6] at hA hval
  obtain ⟨v0, vs0, d0, ds0, p0, q0, hargs, rfl, rfl, h0, r0⟩ := trodAll_cons hA
  obtain ⟨rfl, rfl, rfl⟩ := trodAll_nil r0
  obtain rfl : args = #[v0] := by cases args; simp_all
  obtain ⟨rfl, rfl⟩ := trodVars_none hV
  obtain ⟨a0, len0, cap0, rfl⟩ := okWide_slice Try.underlying22 (hval 0 22 v0 rfl rfl)
  have k0 := h0
  have lt0 : ∀ x ∈ p0, x.block < W.heap.size := by obtain ⟨m, hm⟩ := k0; exact DataW.trod_lt m _ _ _ hm
  obtain ⟨z0, w0⟩ : ∃ zs, IsRow .u8 W a0 len0 cap0 zs := by
    obtain ⟨fuel, hf⟩ := h0
    rcases open_ints Try.underlying22 Try.underlying5 (by kernel_rfl) hf with ⟨hcs, _⟩ | ⟨x, l, c, zs, hcs, _, hl, hm, hz, _, hcell, hwz⟩
    · simp [Value.cells] at hcs
      obtain ⟨rfl, rfl, rfl⟩ := hcs
      exact ⟨[], .inl ⟨rfl, rfl, rfl, rfl⟩⟩
    · simp [Value.cells] at hcs
      obtain ⟨rfl, rfl, rfl⟩ := hcs
      exact ⟨zs, .inr ⟨_, rfl, hl, hm, by simpa using hz, hcell, hwz⟩⟩
  clear hA0 hval0
  refine (walk a0 len0 cap0 z0 W w0).mono fun e W' ⟨he, bel⟩ => ?_
  subst he
  exact ⟨_, rfl, _, _, _, [], _, [], hW', trodAll_mk1 (shut_bool Try.underlying4 _), (trodAll_cons_mk (Below.trod laidOut (by kernel_rfl) (of_decide_eq_true (by kernel_rfl)) k0 bel lt0) trodAll_mk0), rfl, bel.frame _, fun h => by cases h⟩

theorem over : Rows.fnExactDecodeLsaRow.holds Try.pinned (OpenSpec.ofChange Rows.fnExactDecodeLsaSpec) :=
  OpenClaim.holds_of_wide 6 Try.f6 rfl rfl rfl rfl rfl rfl rfl ⟨rfl, rfl, rfl, rfl, rfl⟩ rfl rfl rfl rfl rfl (by kernel_rfl) Try.func6 (by kernel_rfl)
    (of_decide_eq_true (by kernel_rfl)) (by unfold Func.isWrapper; first | (rw [if_pos (by decide +kernel)]; kernel_rfl) | (rw [if_neg (by decide +kernel)]; exact ⟨rfl, rfl⟩))
    (fun os started H enc _ => lifted os started H enc)

theorem proved : Rows.FnExactDecodeLsaSaid := over
#print axioms proved
end Go.Proofs.Ytamclkjofojhmaa.fnExactDecodeLsa
