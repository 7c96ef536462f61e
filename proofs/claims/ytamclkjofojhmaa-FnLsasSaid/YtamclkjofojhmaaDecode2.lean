/-
  The program's DecodeLsa, whatever the bytes. No statement is proved here.
-/
import Derived.Test.YtamclkjofojhmaaDecode
namespace Go.Proofs.Ytamclkjofojhmaa
open Go.RowKit
set_option linter.unusedVariables false

theorem up1b (X : World) (o : Obj) : Below X.heap.size X (X.alloc o) := (Below.refl _ _).alloc (Nat.le_refl _) _

set_option maxRecDepth 100000 in
set_option maxHeartbeats 6400000 in
theorem decode_form (A : Option Addr) (n c : Nat) (xs : List Int) (w : World) (ha : BIn w A n xs) (hb : Bytes xs) (hnc : n ≤ c) (hn : 20 ≤ n ∧ n ≤ 400) (hf : ¬ rval n xs 18 2 = n) :
    Calls Try.prog 16 #[.slice A n c] w fun e w' => e = .returned (.agg (resCells 1 zeroM none none 0 0 0 0)) ∧ Below w.heap.size w w' := by
  have HF := Lib.hid (allIn_one_yes (lo := 20) (hi := 400) (v := (n : Int)) (by omega) (by omega))
  obtain ⟨hn1, hn2⟩ := hn
  obtain ⟨b, off, rfl, _⟩ := ha.2 (by omega)
  have HBY := Lib.hid hb
  have HLN := Lib.hid ha.1
  obtain ⟨V, hV⟩ : ∃ V : World, V = (w.alloc (.cells #[.int .i64 0, .int .i64 0, .int .i64 0, .int .i64 0, .int .i64 0, .int .i64 0, .int .i64 0, .slice none 0 0, .slice none 0 0, .int .i64 0, .int .i64 0] 36)).alloc (.cells #[.int .i64 (n : Int)] 2) := ⟨_, rfl⟩
  have hb0 : Below w.heap.size w V := by rw [hV]; exact ((Below.refl _ _).alloc (Nat.le_refl _) _).alloc (by simp) _
  have HX0 : Hid (Box V w.heap.size 36 #[.int .i64 0, .int .i64 0, .int .i64 0, .int .i64 0, .int .i64 0, .int .i64 0, .int .i64 0, .slice none 0 0, .slice none 0 0, .int .i64 0, .int .i64 0]) := by rw [hV]; exact Lib.hid ((Box.made _ _ _).below (up1b _ _))
  have HA0 := Lib.hid (ha.below hb0)
  have HB0 := Lib.hid hb0
  have hcell : V.cell? ⟨w.heap.size + 1, 0, none⟩ = some (.int .i64 (n : Int)) := by rw [hV]; simp [go_sem]
  have HCL := Lib.hid hcell
  obtain ⟨z, hz⟩ : ∃ z, rval n xs 18 2 = z := ⟨_, rfl⟩
  rw [hz] at hf
  have hne : (z != (n : Int)) = true := by rw [bne_iff_ne]; exact hf
  have HZ := Lib.hid hz
  clear hz
  clear ha hb hb0 hcell
  go_enter Try.func16, Try.ntmps16
  go_wp2_with fail
  rw [← hV]
  clear hV
  refine (allWithin_one _ _ _ (n : Int) _ HCL.out).mono ?_
  rw [HF.out]
  rintro e w0 ⟨rfl, rfl⟩
  go_wp2_with fail
  refine (wordAt_any _ n c xs _ _ _ HA0.out HBY.out (by omega) hnc).mono ?_
  rw [HZ.out]
  rintro e w1 ⟨rfl, hb⟩
  have HX1 := Lib.hid (HX0.out.below hb)
  have HA1 := Lib.hid (HA0.out.below hb)
  have HB1 := Lib.hid (below_step HB0.out hb)
  clear hb HX0 HA0 HB0
  have y0 := HX1.out.look 0
  have f0 := HX1.out.free 0
  have y1 := HX1.out.look 1
  have f1 := HX1.out.free 1
  have y2 := HX1.out.look 2
  have f2 := HX1.out.free 2
  have y3 := HX1.out.look 3
  have f3 := HX1.out.free 3
  have y4 := HX1.out.look 4
  have f4 := HX1.out.free 4
  have y5 := HX1.out.look 5
  have f5 := HX1.out.free 5
  have y6 := HX1.out.look 6
  have f6 := HX1.out.free 6
  have y7 := HX1.out.look 7
  have f7 := HX1.out.free 7
  have y8 := HX1.out.look 8
  have f8 := HX1.out.free 8
  have y9 := HX1.out.look 9
  have f9 := HX1.out.free 9
  have y10 := HX1.out.look 10
  have f10 := HX1.out.free 10
  go_wp2
  clear y0 f0 y1 f1 y2 f2 y3 f3 y4 f4 y5 f5 y6 f6 y7 f7 y8 f8 y9 f9 y10 f10
  have hXf : Box (((((((((((w1.setCell ⟨w.heap.size, 0, none⟩ (.int .i64 1)).setCell ⟨w.heap.size, 1, none⟩ (.int .i64 0)).setCell ⟨w.heap.size, 2, none⟩ (.int .i64 0)).setCell ⟨w.heap.size, 3, none⟩ (.int .i64 0)).setCell ⟨w.heap.size, 4, none⟩ (.int .i64 0)).setCell ⟨w.heap.size, 5, none⟩ (.int .i64 0)).setCell ⟨w.heap.size, 6, none⟩ (.int .i64 0)).setCell ⟨w.heap.size, 7, none⟩ (.slice none 0 0)).setCell ⟨w.heap.size, 8, none⟩ (.slice none 0 0)).setCell ⟨w.heap.size, 9, none⟩ (.int .i64 0)).setCell ⟨w.heap.size, 10, none⟩ (.int .i64 0)) w.heap.size 36 #[.int .i64 1, .int .i64 0, .int .i64 0, .int .i64 0, .int .i64 0, .int .i64 0, .int .i64 0, .slice none 0 0, .slice none 0 0, .int .i64 0, .int .i64 0] := by simpa using (((((((((((HX1.out.put 0 (.int .i64 1)).put 1 (.int .i64 0)).put 2 (.int .i64 0)).put 3 (.int .i64 0)).put 4 (.int .i64 0)).put 5 (.int .i64 0)).put 6 (.int .i64 0)).put 7 (.slice none 0 0)).put 8 (.slice none 0 0)).put 9 (.int .i64 0)).put 10 (.int .i64 0))
  have hBf : Below w.heap.size w (((((((((((w1.setCell ⟨w.heap.size, 0, none⟩ (.int .i64 1)).setCell ⟨w.heap.size, 1, none⟩ (.int .i64 0)).setCell ⟨w.heap.size, 2, none⟩ (.int .i64 0)).setCell ⟨w.heap.size, 3, none⟩ (.int .i64 0)).setCell ⟨w.heap.size, 4, none⟩ (.int .i64 0)).setCell ⟨w.heap.size, 5, none⟩ (.int .i64 0)).setCell ⟨w.heap.size, 6, none⟩ (.int .i64 0)).setCell ⟨w.heap.size, 7, none⟩ (.slice none 0 0)).setCell ⟨w.heap.size, 8, none⟩ (.slice none 0 0)).setCell ⟨w.heap.size, 9, none⟩ (.int .i64 0)).setCell ⟨w.heap.size, 10, none⟩ (.int .i64 0)) := (((((((((((HB1.out.setCell (Nat.le_refl _) _).setCell (Nat.le_refl _) _).setCell (Nat.le_refl _) _).setCell (Nat.le_refl _) _).setCell (Nat.le_refl _) _).setCell (Nat.le_refl _) _).setCell (Nat.le_refl _) _).setCell (Nat.le_refl _) _).setCell (Nat.le_refl _) _).setCell (Nat.le_refl _) _).setCell (Nat.le_refl _) _)
  have q0 := hXf.look 0
  have q1 := hXf.look 1
  have q2 := hXf.look 2
  have q3 := hXf.look 3
  have q4 := hXf.look 4
  have q5 := hXf.look 5
  have q6 := hXf.look 6
  have q7 := hXf.look 7
  have q8 := hXf.look 8
  have q9 := hXf.look 9
  have q10 := hXf.look 10
  exact bodyPost_ret (v := .agg (resCells 1 zeroM none none 0 0 0 0)) (by simp [results, Try.results16, go_sem, zeroM, q0, q1, q2, q3, q4, q5, q6, q7, q8, q9, q10]) rfl ⟨rfl, hBf⟩

set_option maxRecDepth 100000 in
set_option maxHeartbeats 6400000 in
theorem decode_sum (A : Option Addr) (n c : Nat) (xs : List Int) (w : World) (ha : BIn w A n xs) (hb : Bytes xs) (hnc : n ≤ c) (hn : 20 ≤ n ∧ n ≤ 400) (hf : rval n xs 18 2 = n) (hs : sealedB (xs.drop 2) = false) :
    Calls Try.prog 16 #[.slice A n c] w fun e w' => e = .returned (.agg (resCells 6 zeroM none none 0 0 0 0)) ∧ Below w.heap.size w w' := by
  have HF := Lib.hid (allIn_one_yes (lo := 20) (hi := 400) (v := (n : Int)) (by omega) (by omega))
  obtain ⟨hn1, hn2⟩ := hn
  obtain ⟨b, off, rfl, _⟩ := ha.2 (by omega)
  have HBY := Lib.hid hb
  have HLN := Lib.hid ha.1
  obtain ⟨V, hV⟩ : ∃ V : World, V = (w.alloc (.cells #[.int .i64 0, .int .i64 0, .int .i64 0, .int .i64 0, .int .i64 0, .int .i64 0, .int .i64 0, .slice none 0 0, .slice none 0 0, .int .i64 0, .int .i64 0] 36)).alloc (.cells #[.int .i64 (n : Int)] 2) := ⟨_, rfl⟩
  have hb0 : Below w.heap.size w V := by rw [hV]; exact ((Below.refl _ _).alloc (Nat.le_refl _) _).alloc (by simp) _
  have HX0 : Hid (Box V w.heap.size 36 #[.int .i64 0, .int .i64 0, .int .i64 0, .int .i64 0, .int .i64 0, .int .i64 0, .int .i64 0, .slice none 0 0, .slice none 0 0, .int .i64 0, .int .i64 0]) := by rw [hV]; exact Lib.hid ((Box.made _ _ _).below (up1b _ _))
  have HA0 := Lib.hid (ha.below hb0)
  have HB0 := Lib.hid hb0
  have hcell : V.cell? ⟨w.heap.size + 1, 0, none⟩ = some (.int .i64 (n : Int)) := by rw [hV]; simp [go_sem]
  have HCL := Lib.hid hcell
  have HZ := Lib.hid hf
  have hq : ((n : Int) != (n : Int)) = false := by simp
  have HSE := Lib.hid hs
  clear hf hs
  clear ha hb hb0 hcell
  go_enter Try.func16, Try.ntmps16
  go_wp2_with fail
  rw [← hV]
  clear hV
  refine (allWithin_one _ _ _ (n : Int) _ HCL.out).mono ?_
  rw [HF.out]
  rintro e w0 ⟨rfl, rfl⟩
  go_wp2_with fail
  refine (wordAt_any _ n c xs _ _ _ HA0.out HBY.out (by omega) hnc).mono ?_
  rw [HZ.out]
  rintro e w1 ⟨rfl, hb⟩
  have HX1 := Lib.hid (HX0.out.below hb)
  have HA1 := Lib.hid (HA0.out.below hb)
  have HB1 := Lib.hid (below_step HB0.out hb)
  clear hb HX0 HA0 HB0
  have hpart : BIn w1 (some ⟨b, off + 2, none⟩) (n - 2) (xs.drop 2) := by
    have h := HA1.out.part (a := 2) (s := n - 2) (by omega)
    rw [List.take_of_length_le (by rw [List.length_drop, HLN.out]; exact Nat.le_refl _)] at h
    exact h
  have HP := Lib.hid hpart
  have HBD : Hid (Bytes (xs.drop 2)) := Lib.hid (fun z h => HBY.out z (List.mem_of_mem_drop h))
  have hi1 : (2 : Int) ≤ (n : Int) := by omega
  have hi2 : (n : Int) ≤ (c : Int) := by omega
  have hk2 : ¬ c = 2 := by omega
  clear hpart
  go_wp2_with fail
  refine (isSealed_any _ (n - 2) _ (xs.drop 2) _ HP.out HBD.out (by omega)).mono ?_
  rw [HSE.out]
  rintro e w2 ⟨rfl, hb⟩
  clear HP
  have HX2 := Lib.hid (HX1.out.below hb)
  have HA2 := Lib.hid (HA1.out.below hb)
  have HB2 := Lib.hid (below_step HB1.out hb)
  clear hb HX1 HA1 HB1
  have y0 := HX2.out.look 0
  have f0 := HX2.out.free 0
  have y1 := HX2.out.look 1
  have f1 := HX2.out.free 1
  have y2 := HX2.out.look 2
  have f2 := HX2.out.free 2
  have y3 := HX2.out.look 3
  have f3 := HX2.out.free 3
  have y4 := HX2.out.look 4
  have f4 := HX2.out.free 4
  have y5 := HX2.out.look 5
  have f5 := HX2.out.free 5
  have y6 := HX2.out.look 6
  have f6 := HX2.out.free 6
  have y7 := HX2.out.look 7
  have f7 := HX2.out.free 7
  have y8 := HX2.out.look 8
  have f8 := HX2.out.free 8
  have y9 := HX2.out.look 9
  have f9 := HX2.out.free 9
  have y10 := HX2.out.look 10
  have f10 := HX2.out.free 10
  go_wp2
  clear y0 f0 y1 f1 y2 f2 y3 f3 y4 f4 y5 f5 y6 f6 y7 f7 y8 f8 y9 f9 y10 f10
  have hXf : Box (((((((((((w2.setCell ⟨w.heap.size, 0, none⟩ (.int .i64 6)).setCell ⟨w.heap.size, 1, none⟩ (.int .i64 0)).setCell ⟨w.heap.size, 2, none⟩ (.int .i64 0)).setCell ⟨w.heap.size, 3, none⟩ (.int .i64 0)).setCell ⟨w.heap.size, 4, none⟩ (.int .i64 0)).setCell ⟨w.heap.size, 5, none⟩ (.int .i64 0)).setCell ⟨w.heap.size, 6, none⟩ (.int .i64 0)).setCell ⟨w.heap.size, 7, none⟩ (.slice none 0 0)).setCell ⟨w.heap.size, 8, none⟩ (.slice none 0 0)).setCell ⟨w.heap.size, 9, none⟩ (.int .i64 0)).setCell ⟨w.heap.size, 10, none⟩ (.int .i64 0)) w.heap.size 36 #[.int .i64 6, .int .i64 0, .int .i64 0, .int .i64 0, .int .i64 0, .int .i64 0, .int .i64 0, .slice none 0 0, .slice none 0 0, .int .i64 0, .int .i64 0] := by simpa using (((((((((((HX2.out.put 0 (.int .i64 6)).put 1 (.int .i64 0)).put 2 (.int .i64 0)).put 3 (.int .i64 0)).put 4 (.int .i64 0)).put 5 (.int .i64 0)).put 6 (.int .i64 0)).put 7 (.slice none 0 0)).put 8 (.slice none 0 0)).put 9 (.int .i64 0)).put 10 (.int .i64 0))
  have hBf : Below w.heap.size w (((((((((((w2.setCell ⟨w.heap.size, 0, none⟩ (.int .i64 6)).setCell ⟨w.heap.size, 1, none⟩ (.int .i64 0)).setCell ⟨w.heap.size, 2, none⟩ (.int .i64 0)).setCell ⟨w.heap.size, 3, none⟩ (.int .i64 0)).setCell ⟨w.heap.size, 4, none⟩ (.int .i64 0)).setCell ⟨w.heap.size, 5, none⟩ (.int .i64 0)).setCell ⟨w.heap.size, 6, none⟩ (.int .i64 0)).setCell ⟨w.heap.size, 7, none⟩ (.slice none 0 0)).setCell ⟨w.heap.size, 8, none⟩ (.slice none 0 0)).setCell ⟨w.heap.size, 9, none⟩ (.int .i64 0)).setCell ⟨w.heap.size, 10, none⟩ (.int .i64 0)) := (((((((((((HB2.out.setCell (Nat.le_refl _) _).setCell (Nat.le_refl _) _).setCell (Nat.le_refl _) _).setCell (Nat.le_refl _) _).setCell (Nat.le_refl _) _).setCell (Nat.le_refl _) _).setCell (Nat.le_refl _) _).setCell (Nat.le_refl _) _).setCell (Nat.le_refl _) _).setCell (Nat.le_refl _) _).setCell (Nat.le_refl _) _)
  have q0 := hXf.look 0
  have q1 := hXf.look 1
  have q2 := hXf.look 2
  have q3 := hXf.look 3
  have q4 := hXf.look 4
  have q5 := hXf.look 5
  have q6 := hXf.look 6
  have q7 := hXf.look 7
  have q8 := hXf.look 8
  have q9 := hXf.look 9
  have q10 := hXf.look 10
  exact bodyPost_ret (v := .agg (resCells 6 zeroM none none 0 0 0 0)) (by simp [results, Try.results16, go_sem, zeroM, q0, q1, q2, q3, q4, q5, q6, q7, q8, q9, q10]) rfl ⟨rfl, hBf⟩

set_option maxRecDepth 100000 in
set_option maxHeartbeats 6400000 in
theorem decode_fault (A : Option Addr) (n c : Nat) (xs : List Int) (w : World) (ha : BIn w A n xs) (hb : Bytes xs) (hnc : n ≤ c) (hn : 20 ≤ n ∧ n ≤ 400) (hf : rval n xs 18 2 = n) (hs : sealedB (xs.drop 2) = true) (hft : ¬ faultOf (readM n xs) = 0) :
    Calls Try.prog 16 #[.slice A n c] w fun e w' => e = .returned (.agg (resCells 5 zeroM none none 0 0 0 0)) ∧ Below w.heap.size w w' := by
  have HF := Lib.hid (allIn_one_yes (lo := 20) (hi := 400) (v := (n : Int)) (by omega) (by omega))
  obtain ⟨hn1, hn2⟩ := hn
  obtain ⟨b, off, rfl, _⟩ := ha.2 (by omega)
  have HBY := Lib.hid hb
  have HLN := Lib.hid ha.1
  obtain ⟨V, hV⟩ : ∃ V : World, V = (w.alloc (.cells #[.int .i64 0, .int .i64 0, .int .i64 0, .int .i64 0, .int .i64 0, .int .i64 0, .int .i64 0, .slice none 0 0, .slice none 0 0, .int .i64 0, .int .i64 0] 36)).alloc (.cells #[.int .i64 (n : Int)] 2) := ⟨_, rfl⟩
  have hb0 : Below w.heap.size w V := by rw [hV]; exact ((Below.refl _ _).alloc (Nat.le_refl _) _).alloc (by simp) _
  have HX0 : Hid (Box V w.heap.size 36 #[.int .i64 0, .int .i64 0, .int .i64 0, .int .i64 0, .int .i64 0, .int .i64 0, .int .i64 0, .slice none 0 0, .slice none 0 0, .int .i64 0, .int .i64 0]) := by rw [hV]; exact Lib.hid ((Box.made _ _ _).below (up1b _ _))
  have HA0 := Lib.hid (ha.below hb0)
  have HB0 := Lib.hid hb0
  have hcell : V.cell? ⟨w.heap.size + 1, 0, none⟩ = some (.int .i64 (n : Int)) := by rw [hV]; simp [go_sem]
  have HCL := Lib.hid hcell
  have HZ := Lib.hid hf
  have hq : ((n : Int) != (n : Int)) = false := by simp
  have HSE := Lib.hid hs
  obtain ⟨r, hr⟩ : ∃ r, faultOf (readM n xs) = r := ⟨_, rfl⟩
  have HRF := Lib.hid hr
  rw [hr] at hft
  have hrn : (r != 0) = true := by rw [bne_iff_ne]; exact hft
  clear hf hs hr
  clear ha hb hb0 hcell
  go_enter Try.func16, Try.ntmps16
  go_wp2_with fail
  rw [← hV]
  clear hV
  refine (allWithin_one _ _ _ (n : Int) _ HCL.out).mono ?_
  rw [HF.out]
  rintro e w0 ⟨rfl, rfl⟩
  go_wp2_with fail
  refine (wordAt_any _ n c xs _ _ _ HA0.out HBY.out (by omega) hnc).mono ?_
  rw [HZ.out]
  rintro e w1 ⟨rfl, hb⟩
  have HX1 := Lib.hid (HX0.out.below hb)
  have HA1 := Lib.hid (HA0.out.below hb)
  have HB1 := Lib.hid (below_step HB0.out hb)
  clear hb HX0 HA0 HB0
  have hpart : BIn w1 (some ⟨b, off + 2, none⟩) (n - 2) (xs.drop 2) := by
    have h := HA1.out.part (a := 2) (s := n - 2) (by omega)
    rw [List.take_of_length_le (by rw [List.length_drop, HLN.out]; exact Nat.le_refl _)] at h
    exact h
  have HP := Lib.hid hpart
  have HBD : Hid (Bytes (xs.drop 2)) := Lib.hid (fun z h => HBY.out z (List.mem_of_mem_drop h))
  have hi1 : (2 : Int) ≤ (n : Int) := by omega
  have hi2 : (n : Int) ≤ (c : Int) := by omega
  have hk2 : ¬ c = 2 := by omega
  clear hpart
  go_wp2_with fail
  refine (isSealed_any _ (n - 2) _ (xs.drop 2) _ HP.out HBD.out (by omega)).mono ?_
  rw [HSE.out]
  rintro e w2 ⟨rfl, hb⟩
  clear HP
  have HX2 := Lib.hid (HX1.out.below hb)
  have HA2 := Lib.hid (HA1.out.below hb)
  have HB2 := Lib.hid (below_step HB1.out hb)
  clear hb HX1 HA1 HB1
  go_wp2_with fail
  refine (readHead_any _ n c xs _ HA2.out HBY.out hn2 hnc).mono ?_
  rintro e w3 ⟨rfl, hb⟩
  have HX3 := Lib.hid (HX2.out.below hb)
  have HA3 := Lib.hid (HA2.out.below hb)
  have HB3 := Lib.hid (below_step HB2.out hb)
  clear hb HX2 HA2 HB2
  go_wp2_with fail
  refine (readBody_any _ n c xs _ HA3.out HBY.out hn2 hnc).mono ?_
  rintro e w4 ⟨v, E, F, k, d, m, g, rfl, hBO, hTW, hk4, hm4, hb⟩
  have HBO := Lib.hid hBO
  have HTW4 := Lib.hid (hTW.mono (show w.heap.size + 1 ≤ w3.heap.size from HX3.out.lt) (Nat.le_refl _) (Nat.le_refl _))
  obtain ⟨hi, hhi⟩ : ∃ hi, hi = w4.heap.size := ⟨_, rfl⟩
  rw [← hhi] at HTW4
  have HHI := Lib.hid hhi
  clear hBO hTW hhi
  have HX4 := Lib.hid (HX3.out.below hb)
  have HA4 := Lib.hid (HA3.out.below hb)
  have HB4 := Lib.hid (below_step HB3.out hb)
  clear hb HX3 HA3 HB3
  go_wp2_with fail
  refine (HBO.out _).mono ?_
  rintro e w5 ⟨rfl, hb⟩
  have HTW5 := Lib.hid (HTW4.out.below hb)
  clear HBO HTW4
  have HX5 := Lib.hid (HX4.out.below hb)
  have HA5 := Lib.hid (HA4.out.below hb)
  have HB5 := Lib.hid (below_step HB4.out hb)
  clear hb HX4 HA4 HB4
  go_wp2_with fail
  obtain ⟨V5, hV5⟩ : ∃ V5 : World, V5 = w5.alloc (.cells (lsaCells (readM n xs) E F k d m g) 29) := ⟨_, rfl⟩
  have hb : Below w5.heap.size w5 V5 := by rw [hV5]; exact up1b _ _
  have HL5 : Hid (Box V5 w5.heap.size 29 (lsaCells (readM n xs) E F k d m g)) := by rw [hV5]; exact Lib.hid (Box.made _ _ _)
  rw [← hV5]
  clear hV5
  have HTW6 := Lib.hid (HTW5.out.below hb)
  have HNE : Hid (w.heap.size < w5.heap.size) := Lib.hid HX5.out.lt
  clear HTW5
  have HX6 := Lib.hid (HX5.out.below hb)
  have HA6 := Lib.hid (HA5.out.below hb)
  have HB6 := Lib.hid (below_step HB5.out hb)
  clear hb HX5 HA5 HB5
  refine (encode_any (readM n xs) true _ _ E F k d m g _ HTW6.out.at_ (by omega) (by omega)).mono ?_
  rw [HRF.out]
  rintro e w7 ⟨G, j, jc, rfl, ho, hb⟩
  have HTW7 := Lib.hid (HTW6.out.below hb)
  have HL7 := Lib.hid (HL5.out.below hb)
  have HO7 := Lib.hid ho
  clear HTW6 HL5 ho
  have HX7 := Lib.hid (HX6.out.below hb)
  have HA7 := Lib.hid (HA6.out.below hb)
  have HB7 := Lib.hid (below_step HB6.out hb)
  clear hb HX6 HA6 HB6
  have hb : Below w7.heap.size w7 (w7.alloc (.cells #[.int .i64 r, .slice G j jc] 32)) := up1b _ _
  have HTW8 := Lib.hid (HTW7.out.below hb)
  have HL8 := Lib.hid (HL7.out.below hb)
  have HO8 := Lib.hid (HO7.out.bin.below hb)
  clear HTW7 HL7 HO7
  have HX8 := Lib.hid (HX7.out.below hb)
  have HA8 := Lib.hid (HA7.out.below hb)
  have HB8 := Lib.hid (below_step HB7.out hb)
  clear hb HX7 HA7 HB7
  have y0 := HX8.out.look 0
  have f0 := HX8.out.free 0
  have y1 := HX8.out.look 1
  have f1 := HX8.out.free 1
  have y2 := HX8.out.look 2
  have f2 := HX8.out.free 2
  have y3 := HX8.out.look 3
  have f3 := HX8.out.free 3
  have y4 := HX8.out.look 4
  have f4 := HX8.out.free 4
  have y5 := HX8.out.look 5
  have f5 := HX8.out.free 5
  have y6 := HX8.out.look 6
  have f6 := HX8.out.free 6
  have y7 := HX8.out.look 7
  have f7 := HX8.out.free 7
  have y8 := HX8.out.look 8
  have f8 := HX8.out.free 8
  have y9 := HX8.out.look 9
  have f9 := HX8.out.free 9
  have y10 := HX8.out.look 10
  have f10 := HX8.out.free 10
  go_wp2
  clear y0 f0 y1 f1 y2 f2 y3 f3 y4 f4 y5 f5 y6 f6 y7 f7 y8 f8 y9 f9 y10 f10
  have hXf : Box ((((((((((((w7.alloc (.cells #[.int .i64 r, .slice G j jc] 32)).setCell ⟨w.heap.size, 0, none⟩ (.int .i64 5)).setCell ⟨w.heap.size, 1, none⟩ (.int .i64 0)).setCell ⟨w.heap.size, 2, none⟩ (.int .i64 0)).setCell ⟨w.heap.size, 3, none⟩ (.int .i64 0)).setCell ⟨w.heap.size, 4, none⟩ (.int .i64 0)).setCell ⟨w.heap.size, 5, none⟩ (.int .i64 0)).setCell ⟨w.heap.size, 6, none⟩ (.int .i64 0)).setCell ⟨w.heap.size, 7, none⟩ (.slice none 0 0)).setCell ⟨w.heap.size, 8, none⟩ (.slice none 0 0)).setCell ⟨w.heap.size, 9, none⟩ (.int .i64 0)).setCell ⟨w.heap.size, 10, none⟩ (.int .i64 0)) w.heap.size 36 #[.int .i64 5, .int .i64 0, .int .i64 0, .int .i64 0, .int .i64 0, .int .i64 0, .int .i64 0, .slice none 0 0, .slice none 0 0, .int .i64 0, .int .i64 0] := by simpa using (((((((((((HX8.out.put 0 (.int .i64 5)).put 1 (.int .i64 0)).put 2 (.int .i64 0)).put 3 (.int .i64 0)).put 4 (.int .i64 0)).put 5 (.int .i64 0)).put 6 (.int .i64 0)).put 7 (.slice none 0 0)).put 8 (.slice none 0 0)).put 9 (.int .i64 0)).put 10 (.int .i64 0))
  have hBf : Below w.heap.size w ((((((((((((w7.alloc (.cells #[.int .i64 r, .slice G j jc] 32)).setCell ⟨w.heap.size, 0, none⟩ (.int .i64 5)).setCell ⟨w.heap.size, 1, none⟩ (.int .i64 0)).setCell ⟨w.heap.size, 2, none⟩ (.int .i64 0)).setCell ⟨w.heap.size, 3, none⟩ (.int .i64 0)).setCell ⟨w.heap.size, 4, none⟩ (.int .i64 0)).setCell ⟨w.heap.size, 5, none⟩ (.int .i64 0)).setCell ⟨w.heap.size, 6, none⟩ (.int .i64 0)).setCell ⟨w.heap.size, 7, none⟩ (.slice none 0 0)).setCell ⟨w.heap.size, 8, none⟩ (.slice none 0 0)).setCell ⟨w.heap.size, 9, none⟩ (.int .i64 0)).setCell ⟨w.heap.size, 10, none⟩ (.int .i64 0)) := (((((((((((HB8.out.setCell (Nat.le_refl _) _).setCell (Nat.le_refl _) _).setCell (Nat.le_refl _) _).setCell (Nat.le_refl _) _).setCell (Nat.le_refl _) _).setCell (Nat.le_refl _) _).setCell (Nat.le_refl _) _).setCell (Nat.le_refl _) _).setCell (Nat.le_refl _) _).setCell (Nat.le_refl _) _).setCell (Nat.le_refl _) _)
  have q0 := hXf.look 0
  have q1 := hXf.look 1
  have q2 := hXf.look 2
  have q3 := hXf.look 3
  have q4 := hXf.look 4
  have q5 := hXf.look 5
  have q6 := hXf.look 6
  have q7 := hXf.look 7
  have q8 := hXf.look 8
  have q9 := hXf.look 9
  have q10 := hXf.look 10
  exact bodyPost_ret (v := .agg (resCells 5 zeroM none none 0 0 0 0)) (by simp [results, Try.results16, go_sem, zeroM, q0, q1, q2, q3, q4, q5, q6, q7, q8, q9, q10]) rfl ⟨rfl, hBf⟩

set_option maxRecDepth 100000 in
set_option maxHeartbeats 6400000 in
theorem decode_text (A : Option Addr) (n c : Nat) (xs : List Int) (w : World) (ha : BIn w A n xs) (hb : Bytes xs) (hnc : n ≤ c) (hn : 20 ≤ n ∧ n ≤ 400) (hf : rval n xs 18 2 = n) (hs : sealedB (xs.drop 2) = true) (hft : faultOf (readM n xs) = 0) (hen : ¬ encN (readM n xs) = xs) :
    Calls Try.prog 16 #[.slice A n c] w fun e w' => e = .returned (.agg (resCells 5 zeroM none none 0 0 0 0)) ∧ Below w.heap.size w w' := by
  have HF := Lib.hid (allIn_one_yes (lo := 20) (hi := 400) (v := (n : Int)) (by omega) (by omega))
  obtain ⟨hn1, hn2⟩ := hn
  obtain ⟨b, off, rfl, _⟩ := ha.2 (by omega)
  have HBY := Lib.hid hb
  have HLN := Lib.hid ha.1
  obtain ⟨V, hV⟩ : ∃ V : World, V = (w.alloc (.cells #[.int .i64 0, .int .i64 0, .int .i64 0, .int .i64 0, .int .i64 0, .int .i64 0, .int .i64 0, .slice none 0 0, .slice none 0 0, .int .i64 0, .int .i64 0] 36)).alloc (.cells #[.int .i64 (n : Int)] 2) := ⟨_, rfl⟩
  have hb0 : Below w.heap.size w V := by rw [hV]; exact ((Below.refl _ _).alloc (Nat.le_refl _) _).alloc (by simp) _
  have HX0 : Hid (Box V w.heap.size 36 #[.int .i64 0, .int .i64 0, .int .i64 0, .int .i64 0, .int .i64 0, .int .i64 0, .int .i64 0, .slice none 0 0, .slice none 0 0, .int .i64 0, .int .i64 0]) := by rw [hV]; exact Lib.hid ((Box.made _ _ _).below (up1b _ _))
  have HA0 := Lib.hid (ha.below hb0)
  have HB0 := Lib.hid hb0
  have hcell : V.cell? ⟨w.heap.size + 1, 0, none⟩ = some (.int .i64 (n : Int)) := by rw [hV]; simp [go_sem]
  have HCL := Lib.hid hcell
  have HZ := Lib.hid hf
  have hq : ((n : Int) != (n : Int)) = false := by simp
  have HSE := Lib.hid hs
  have HRF := Lib.hid hft
  have HED : Hid (ebytes (readM n xs) = encN (readM n xs)) := Lib.hid (by unfold ebytes; rw [if_pos hft])
  have HDE : Hid (decide (ebytes (readM n xs) = xs) = false) := Lib.hid (by rw [HED.out]; exact decide_eq_false hen)
  clear hf hs hft hen
  clear ha hb hb0 hcell
  go_enter Try.func16, Try.ntmps16
  go_wp2_with fail
  rw [← hV]
  clear hV
  refine (allWithin_one _ _ _ (n : Int) _ HCL.out).mono ?_
  rw [HF.out]
  rintro e w0 ⟨rfl, rfl⟩
  go_wp2_with fail
  refine (wordAt_any _ n c xs _ _ _ HA0.out HBY.out (by omega) hnc).mono ?_
  rw [HZ.out]
  rintro e w1 ⟨rfl, hb⟩
  have HX1 := Lib.hid (HX0.out.below hb)
  have HA1 := Lib.hid (HA0.out.below hb)
  have HB1 := Lib.hid (below_step HB0.out hb)
  clear hb HX0 HA0 HB0
  have hpart : BIn w1 (some ⟨b, off + 2, none⟩) (n - 2) (xs.drop 2) := by
    have h := HA1.out.part (a := 2) (s := n - 2) (by omega)
    rw [List.take_of_length_le (by rw [List.length_drop, HLN.out]; exact Nat.le_refl _)] at h
    exact h
  have HP := Lib.hid hpart
  have HBD : Hid (Bytes (xs.drop 2)) := Lib.hid (fun z h => HBY.out z (List.mem_of_mem_drop h))
  have hi1 : (2 : Int) ≤ (n : Int) := by omega
  have hi2 : (n : Int) ≤ (c : Int) := by omega
  have hk2 : ¬ c = 2 := by omega
  clear hpart
  go_wp2_with fail
  refine (isSealed_any _ (n - 2) _ (xs.drop 2) _ HP.out HBD.out (by omega)).mono ?_
  rw [HSE.out]
  rintro e w2 ⟨rfl, hb⟩
  clear HP
  have HX2 := Lib.hid (HX1.out.below hb)
  have HA2 := Lib.hid (HA1.out.below hb)
  have HB2 := Lib.hid (below_step HB1.out hb)
  clear hb HX1 HA1 HB1
  go_wp2_with fail
  refine (readHead_any _ n c xs _ HA2.out HBY.out hn2 hnc).mono ?_
  rintro e w3 ⟨rfl, hb⟩
  have HX3 := Lib.hid (HX2.out.below hb)
  have HA3 := Lib.hid (HA2.out.below hb)
  have HB3 := Lib.hid (below_step HB2.out hb)
  clear hb HX2 HA2 HB2
  go_wp2_with fail
  refine (readBody_any _ n c xs _ HA3.out HBY.out hn2 hnc).mono ?_
  rintro e w4 ⟨v, E, F, k, d, m, g, rfl, hBO, hTW, hk4, hm4, hb⟩
  have HBO := Lib.hid hBO
  have HTW4 := Lib.hid (hTW.mono (show w.heap.size + 1 ≤ w3.heap.size from HX3.out.lt) (Nat.le_refl _) (Nat.le_refl _))
  obtain ⟨hi, hhi⟩ : ∃ hi, hi = w4.heap.size := ⟨_, rfl⟩
  rw [← hhi] at HTW4
  have HHI := Lib.hid hhi
  clear hBO hTW hhi
  have HX4 := Lib.hid (HX3.out.below hb)
  have HA4 := Lib.hid (HA3.out.below hb)
  have HB4 := Lib.hid (below_step HB3.out hb)
  clear hb HX3 HA3 HB3
  go_wp2_with fail
  refine (HBO.out _).mono ?_
  rintro e w5 ⟨rfl, hb⟩
  have HTW5 := Lib.hid (HTW4.out.below hb)
  clear HBO HTW4
  have HX5 := Lib.hid (HX4.out.below hb)
  have HA5 := Lib.hid (HA4.out.below hb)
  have HB5 := Lib.hid (below_step HB4.out hb)
  clear hb HX4 HA4 HB4
  go_wp2_with fail
  obtain ⟨V5, hV5⟩ : ∃ V5 : World, V5 = w5.alloc (.cells (lsaCells (readM n xs) E F k d m g) 29) := ⟨_, rfl⟩
  have hb : Below w5.heap.size w5 V5 := by rw [hV5]; exact up1b _ _
  have HL5 : Hid (Box V5 w5.heap.size 29 (lsaCells (readM n xs) E F k d m g)) := by rw [hV5]; exact Lib.hid (Box.made _ _ _)
  rw [← hV5]
  clear hV5
  have HTW6 := Lib.hid (HTW5.out.below hb)
  have HNE : Hid (w.heap.size < w5.heap.size) := Lib.hid HX5.out.lt
  clear HTW5
  have HX6 := Lib.hid (HX5.out.below hb)
  have HA6 := Lib.hid (HA5.out.below hb)
  have HB6 := Lib.hid (below_step HB5.out hb)
  clear hb HX5 HA5 HB5
  refine (encode_any (readM n xs) true _ _ E F k d m g _ HTW6.out.at_ (by omega) (by omega)).mono ?_
  rw [HRF.out]
  rintro e w7 ⟨G, j, jc, rfl, ho, hb⟩
  have HTW7 := Lib.hid (HTW6.out.below hb)
  have HL7 := Lib.hid (HL5.out.below hb)
  have HO7 := Lib.hid ho
  clear HTW6 HL5 ho
  have HX7 := Lib.hid (HX6.out.below hb)
  have HA7 := Lib.hid (HA6.out.below hb)
  have HB7 := Lib.hid (below_step HB6.out hb)
  clear hb HX6 HA6 HB6
  have hb : Below w7.heap.size w7 (w7.alloc (.cells #[.int .i64 0, .slice G j jc] 32)) := up1b _ _
  have HTW8 := Lib.hid (HTW7.out.below hb)
  have HL8 := Lib.hid (HL7.out.below hb)
  have HO8 := Lib.hid (HO7.out.bin.below hb)
  clear HTW7 HL7 HO7
  have HX8 := Lib.hid (HX7.out.below hb)
  have HA8 := Lib.hid (HA7.out.below hb)
  have HB8 := Lib.hid (below_step HB7.out hb)
  clear hb HX7 HA7 HB7
  go_wp2_with fail
  refine (same_any _ _ j n jc c (ebytes (readM n xs)) xs _ HO8.out HA8.out (ebytes_bytes _) HBY.out).mono ?_
  rw [HDE.out]
  rintro e w9 ⟨rfl, rfl⟩
  have y0 := HX8.out.look 0
  have f0 := HX8.out.free 0
  have y1 := HX8.out.look 1
  have f1 := HX8.out.free 1
  have y2 := HX8.out.look 2
  have f2 := HX8.out.free 2
  have y3 := HX8.out.look 3
  have f3 := HX8.out.free 3
  have y4 := HX8.out.look 4
  have f4 := HX8.out.free 4
  have y5 := HX8.out.look 5
  have f5 := HX8.out.free 5
  have y6 := HX8.out.look 6
  have f6 := HX8.out.free 6
  have y7 := HX8.out.look 7
  have f7 := HX8.out.free 7
  have y8 := HX8.out.look 8
  have f8 := HX8.out.free 8
  have y9 := HX8.out.look 9
  have f9 := HX8.out.free 9
  have y10 := HX8.out.look 10
  have f10 := HX8.out.free 10
  go_wp2
  clear y0 f0 y1 f1 y2 f2 y3 f3 y4 f4 y5 f5 y6 f6 y7 f7 y8 f8 y9 f9 y10 f10
  have hXf : Box ((((((((((((w7.alloc (.cells #[.int .i64 0, .slice G j jc] 32)).setCell ⟨w.heap.size, 0, none⟩ (.int .i64 5)).setCell ⟨w.heap.size, 1, none⟩ (.int .i64 0)).setCell ⟨w.heap.size, 2, none⟩ (.int .i64 0)).setCell ⟨w.heap.size, 3, none⟩ (.int .i64 0)).setCell ⟨w.heap.size, 4, none⟩ (.int .i64 0)).setCell ⟨w.heap.size, 5, none⟩ (.int .i64 0)).setCell ⟨w.heap.size, 6, none⟩ (.int .i64 0)).setCell ⟨w.heap.size, 7, none⟩ (.slice none 0 0)).setCell ⟨w.heap.size, 8, none⟩ (.slice none 0 0)).setCell ⟨w.heap.size, 9, none⟩ (.int .i64 0)).setCell ⟨w.heap.size, 10, none⟩ (.int .i64 0)) w.heap.size 36 #[.int .i64 5, .int .i64 0, .int .i64 0, .int .i64 0, .int .i64 0, .int .i64 0, .int .i64 0, .slice none 0 0, .slice none 0 0, .int .i64 0, .int .i64 0] := by simpa using (((((((((((HX8.out.put 0 (.int .i64 5)).put 1 (.int .i64 0)).put 2 (.int .i64 0)).put 3 (.int .i64 0)).put 4 (.int .i64 0)).put 5 (.int .i64 0)).put 6 (.int .i64 0)).put 7 (.slice none 0 0)).put 8 (.slice none 0 0)).put 9 (.int .i64 0)).put 10 (.int .i64 0))
  have hBf : Below w.heap.size w ((((((((((((w7.alloc (.cells #[.int .i64 0, .slice G j jc] 32)).setCell ⟨w.heap.size, 0, none⟩ (.int .i64 5)).setCell ⟨w.heap.size, 1, none⟩ (.int .i64 0)).setCell ⟨w.heap.size, 2, none⟩ (.int .i64 0)).setCell ⟨w.heap.size, 3, none⟩ (.int .i64 0)).setCell ⟨w.heap.size, 4, none⟩ (.int .i64 0)).setCell ⟨w.heap.size, 5, none⟩ (.int .i64 0)).setCell ⟨w.heap.size, 6, none⟩ (.int .i64 0)).setCell ⟨w.heap.size, 7, none⟩ (.slice none 0 0)).setCell ⟨w.heap.size, 8, none⟩ (.slice none 0 0)).setCell ⟨w.heap.size, 9, none⟩ (.int .i64 0)).setCell ⟨w.heap.size, 10, none⟩ (.int .i64 0)) := (((((((((((HB8.out.setCell (Nat.le_refl _) _).setCell (Nat.le_refl _) _).setCell (Nat.le_refl _) _).setCell (Nat.le_refl _) _).setCell (Nat.le_refl _) _).setCell (Nat.le_refl _) _).setCell (Nat.le_refl _) _).setCell (Nat.le_refl _) _).setCell (Nat.le_refl _) _).setCell (Nat.le_refl _) _).setCell (Nat.le_refl _) _)
  have q0 := hXf.look 0
  have q1 := hXf.look 1
  have q2 := hXf.look 2
  have q3 := hXf.look 3
  have q4 := hXf.look 4
  have q5 := hXf.look 5
  have q6 := hXf.look 6
  have q7 := hXf.look 7
  have q8 := hXf.look 8
  have q9 := hXf.look 9
  have q10 := hXf.look 10
  exact bodyPost_ret (v := .agg (resCells 5 zeroM none none 0 0 0 0)) (by simp [results, Try.results16, go_sem, zeroM, q0, q1, q2, q3, q4, q5, q6, q7, q8, q9, q10]) rfl ⟨rfl, hBf⟩

set_option maxRecDepth 100000 in
set_option maxHeartbeats 6400000 in
theorem decode_ok (A : Option Addr) (n c : Nat) (xs : List Int) (w : World) (ha : BIn w A n xs) (hb : Bytes xs) (hnc : n ≤ c) (hn : 20 ≤ n ∧ n ≤ 400) (hf : rval n xs 18 2 = n) (hs : sealedB (xs.drop 2) = true) (hft : faultOf (readM n xs) = 0) (hen : encN (readM n xs) = xs) :
    Calls Try.prog 16 #[.slice A n c] w fun e w' => ∃ E F k d m g, e = .returned (.agg (resCells 0 (readM n xs) E F k d m g)) ∧ LsaTwo w.heap.size w'.heap.size w' E k F m (readM n xs) ∧ k ≤ 400 ∧ m ≤ 400 ∧ Below w.heap.size w w' := by
  have HF := Lib.hid (allIn_one_yes (lo := 20) (hi := 400) (v := (n : Int)) (by omega) (by omega))
  obtain ⟨hn1, hn2⟩ := hn
  obtain ⟨b, off, rfl, _⟩ := ha.2 (by omega)
  have HBY := Lib.hid hb
  have HLN := Lib.hid ha.1
  obtain ⟨V, hV⟩ : ∃ V : World, V = (w.alloc (.cells #[.int .i64 0, .int .i64 0, .int .i64 0, .int .i64 0, .int .i64 0, .int .i64 0, .int .i64 0, .slice none 0 0, .slice none 0 0, .int .i64 0, .int .i64 0] 36)).alloc (.cells #[.int .i64 (n : Int)] 2) := ⟨_, rfl⟩
  have hb0 : Below w.heap.size w V := by rw [hV]; exact ((Below.refl _ _).alloc (Nat.le_refl _) _).alloc (by simp) _
  have HX0 : Hid (Box V w.heap.size 36 #[.int .i64 0, .int .i64 0, .int .i64 0, .int .i64 0, .int .i64 0, .int .i64 0, .int .i64 0, .slice none 0 0, .slice none 0 0, .int .i64 0, .int .i64 0]) := by rw [hV]; exact Lib.hid ((Box.made _ _ _).below (up1b _ _))
  have HA0 := Lib.hid (ha.below hb0)
  have HB0 := Lib.hid hb0
  have hcell : V.cell? ⟨w.heap.size + 1, 0, none⟩ = some (.int .i64 (n : Int)) := by rw [hV]; simp [go_sem]
  have HCL := Lib.hid hcell
  have HZ := Lib.hid hf
  have hq : ((n : Int) != (n : Int)) = false := by simp
  have HSE := Lib.hid hs
  have HRF := Lib.hid hft
  have HED : Hid (ebytes (readM n xs) = encN (readM n xs)) := Lib.hid (by unfold ebytes; rw [if_pos hft])
  have HDE : Hid (decide (ebytes (readM n xs) = xs) = true) := Lib.hid (by rw [HED.out]; exact decide_eq_true hen)
  clear hf hs hft hen
  clear ha hb hb0 hcell
  go_enter Try.func16, Try.ntmps16
  go_wp2_with fail
  rw [← hV]
  clear hV
  refine (allWithin_one _ _ _ (n : Int) _ HCL.out).mono ?_
  rw [HF.out]
  rintro e w0 ⟨rfl, rfl⟩
  go_wp2_with fail
  refine (wordAt_any _ n c xs _ _ _ HA0.out HBY.out (by omega) hnc).mono ?_
  rw [HZ.out]
  rintro e w1 ⟨rfl, hb⟩
  have HX1 := Lib.hid (HX0.out.below hb)
  have HA1 := Lib.hid (HA0.out.below hb)
  have HB1 := Lib.hid (below_step HB0.out hb)
  clear hb HX0 HA0 HB0
  have hpart : BIn w1 (some ⟨b, off + 2, none⟩) (n - 2) (xs.drop 2) := by
    have h := HA1.out.part (a := 2) (s := n - 2) (by omega)
    rw [List.take_of_length_le (by rw [List.length_drop, HLN.out]; exact Nat.le_refl _)] at h
    exact h
  have HP := Lib.hid hpart
  have HBD : Hid (Bytes (xs.drop 2)) := Lib.hid (fun z h => HBY.out z (List.mem_of_mem_drop h))
  have hi1 : (2 : Int) ≤ (n : Int) := by omega
  have hi2 : (n : Int) ≤ (c : Int) := by omega
  have hk2 : ¬ c = 2 := by omega
  clear hpart
  go_wp2_with fail
  refine (isSealed_any _ (n - 2) _ (xs.drop 2) _ HP.out HBD.out (by omega)).mono ?_
  rw [HSE.out]
  rintro e w2 ⟨rfl, hb⟩
  clear HP
  have HX2 := Lib.hid (HX1.out.below hb)
  have HA2 := Lib.hid (HA1.out.below hb)
  have HB2 := Lib.hid (below_step HB1.out hb)
  clear hb HX1 HA1 HB1
  go_wp2_with fail
  refine (readHead_any _ n c xs _ HA2.out HBY.out hn2 hnc).mono ?_
  rintro e w3 ⟨rfl, hb⟩
  have HX3 := Lib.hid (HX2.out.below hb)
  have HA3 := Lib.hid (HA2.out.below hb)
  have HB3 := Lib.hid (below_step HB2.out hb)
  clear hb HX2 HA2 HB2
  go_wp2_with fail
  refine (readBody_any _ n c xs _ HA3.out HBY.out hn2 hnc).mono ?_
  rintro e w4 ⟨v, E, F, k, d, m, g, rfl, hBO, hTW, hk4, hm4, hb⟩
  have HBO := Lib.hid hBO
  have HTW4 := Lib.hid (hTW.mono (show w.heap.size + 1 ≤ w3.heap.size from HX3.out.lt) (Nat.le_refl _) (Nat.le_refl _))
  obtain ⟨hi, hhi⟩ : ∃ hi, hi = w4.heap.size := ⟨_, rfl⟩
  rw [← hhi] at HTW4
  have HHI := Lib.hid hhi
  clear hBO hTW hhi
  have HX4 := Lib.hid (HX3.out.below hb)
  have HA4 := Lib.hid (HA3.out.below hb)
  have HB4 := Lib.hid (below_step HB3.out hb)
  clear hb HX3 HA3 HB3
  go_wp2_with fail
  refine (HBO.out _).mono ?_
  rintro e w5 ⟨rfl, hb⟩
  have HTW5 := Lib.hid (HTW4.out.below hb)
  clear HBO HTW4
  have HX5 := Lib.hid (HX4.out.below hb)
  have HA5 := Lib.hid (HA4.out.below hb)
  have HB5 := Lib.hid (below_step HB4.out hb)
  clear hb HX4 HA4 HB4
  go_wp2_with fail
  obtain ⟨V5, hV5⟩ : ∃ V5 : World, V5 = w5.alloc (.cells (lsaCells (readM n xs) E F k d m g) 29) := ⟨_, rfl⟩
  have hb : Below w5.heap.size w5 V5 := by rw [hV5]; exact up1b _ _
  have HL5 : Hid (Box V5 w5.heap.size 29 (lsaCells (readM n xs) E F k d m g)) := by rw [hV5]; exact Lib.hid (Box.made _ _ _)
  rw [← hV5]
  clear hV5
  have HTW6 := Lib.hid (HTW5.out.below hb)
  have HNE : Hid (w.heap.size < w5.heap.size) := Lib.hid HX5.out.lt
  clear HTW5
  have HX6 := Lib.hid (HX5.out.below hb)
  have HA6 := Lib.hid (HA5.out.below hb)
  have HB6 := Lib.hid (below_step HB5.out hb)
  clear hb HX5 HA5 HB5
  refine (encode_any (readM n xs) true _ _ E F k d m g _ HTW6.out.at_ (by omega) (by omega)).mono ?_
  rw [HRF.out]
  rintro e w7 ⟨G, j, jc, rfl, ho, hb⟩
  have HTW7 := Lib.hid (HTW6.out.below hb)
  have HL7 := Lib.hid (HL5.out.below hb)
  have HO7 := Lib.hid ho
  clear HTW6 HL5 ho
  have HX7 := Lib.hid (HX6.out.below hb)
  have HA7 := Lib.hid (HA6.out.below hb)
  have HB7 := Lib.hid (below_step HB6.out hb)
  clear hb HX6 HA6 HB6
  have hb : Below w7.heap.size w7 (w7.alloc (.cells #[.int .i64 0, .slice G j jc] 32)) := up1b _ _
  have HTW8 := Lib.hid (HTW7.out.below hb)
  have HL8 := Lib.hid (HL7.out.below hb)
  have HO8 := Lib.hid (HO7.out.bin.below hb)
  clear HTW7 HL7 HO7
  have HX8 := Lib.hid (HX7.out.below hb)
  have HA8 := Lib.hid (HA7.out.below hb)
  have HB8 := Lib.hid (below_step HB7.out hb)
  clear hb HX7 HA7 HB7
  go_wp2_with fail
  refine (same_any _ _ j n jc c (ebytes (readM n xs)) xs _ HO8.out HA8.out (ebytes_bytes _) HBY.out).mono ?_
  rw [HDE.out]
  rintro e w9 ⟨rfl, rfl⟩
  have x0 := HL8.out.look 0
  have x1 := HL8.out.look 1
  have x2 := HL8.out.look 2
  have x3 := HL8.out.look 3
  have x4 := HL8.out.look 4
  have x5 := HL8.out.look 5
  have x6 := HL8.out.look 6
  have x7 := HL8.out.look 7
  have x8 := HL8.out.look 8
  have x9 := HL8.out.look 9
  have y0 := HX8.out.look 0
  have f0 := HX8.out.free 0
  have y1 := HX8.out.look 1
  have f1 := HX8.out.free 1
  have y2 := HX8.out.look 2
  have f2 := HX8.out.free 2
  have y3 := HX8.out.look 3
  have f3 := HX8.out.free 3
  have y4 := HX8.out.look 4
  have f4 := HX8.out.free 4
  have y5 := HX8.out.look 5
  have f5 := HX8.out.free 5
  have y6 := HX8.out.look 6
  have f6 := HX8.out.free 6
  have y7 := HX8.out.look 7
  have f7 := HX8.out.free 7
  have y8 := HX8.out.look 8
  have f8 := HX8.out.free 8
  have y9 := HX8.out.look 9
  have f9 := HX8.out.free 9
  have y10 := HX8.out.look 10
  have f10 := HX8.out.free 10
  go_wp2
  clear x0 x1 x2 x3 x4 x5 x6 x7 x8 x9
  have hSM := ((((((((((((SameIn.refl (w.heap.size + 1) hi (w7.alloc (.cells #[.int .i64 0, .slice G j jc] 32))).set (p := ⟨w.heap.size, 0, none⟩) (Nat.lt_succ_self _) (.int .i64 0)).set (p := ⟨w.heap.size, 1, none⟩) (Nat.lt_succ_self _) (.int .i64 (readM n xs).age)).set (p := ⟨w.heap.size, 2, none⟩) (Nat.lt_succ_self _) (.int .i64 (readM n xs).options)).set (p := ⟨w.heap.size, 3, none⟩) (Nat.lt_succ_self _) (.int .i64 (readM n xs).typ)).set (p := ⟨w.heap.size, 4, none⟩) (Nat.lt_succ_self _) (.int .i64 (readM n xs).id)).set (p := ⟨w.heap.size, 5, none⟩) (Nat.lt_succ_self _) (.int .i64 (readM n xs).adv)).set (p := ⟨w.heap.size, 6, none⟩) (Nat.lt_succ_self _) (.int .i64 (readM n xs).seq)).set (p := ⟨w.heap.size, 7, none⟩) (Nat.lt_succ_self _) (.slice E k d)).set (p := ⟨w.heap.size, 8, none⟩) (Nat.lt_succ_self _) (.slice F m g)).set (p := ⟨w.heap.size, 9, none⟩) (Nat.lt_succ_self _) (.int .i64 (readM n xs).mask)).set (p := ⟨w.heap.size, 10, none⟩) (Nat.lt_succ_self _) (.int .i64 (readM n xs).cost))
  clear y0 f0 y1 f1 y2 f2 y3 f3 y4 f4 y5 f5 y6 f6 y7 f7 y8 f8 y9 f9 y10 f10
  have hXf : Box ((((((((((((w7.alloc (.cells #[.int .i64 0, .slice G j jc] 32)).setCell ⟨w.heap.size, 0, none⟩ (.int .i64 0)).setCell ⟨w.heap.size, 1, none⟩ (.int .i64 (readM n xs).age)).setCell ⟨w.heap.size, 2, none⟩ (.int .i64 (readM n xs).options)).setCell ⟨w.heap.size, 3, none⟩ (.int .i64 (readM n xs).typ)).setCell ⟨w.heap.size, 4, none⟩ (.int .i64 (readM n xs).id)).setCell ⟨w.heap.size, 5, none⟩ (.int .i64 (readM n xs).adv)).setCell ⟨w.heap.size, 6, none⟩ (.int .i64 (readM n xs).seq)).setCell ⟨w.heap.size, 7, none⟩ (.slice E k d)).setCell ⟨w.heap.size, 8, none⟩ (.slice F m g)).setCell ⟨w.heap.size, 9, none⟩ (.int .i64 (readM n xs).mask)).setCell ⟨w.heap.size, 10, none⟩ (.int .i64 (readM n xs).cost)) w.heap.size 36 #[.int .i64 0, .int .i64 (readM n xs).age, .int .i64 (readM n xs).options, .int .i64 (readM n xs).typ, .int .i64 (readM n xs).id, .int .i64 (readM n xs).adv, .int .i64 (readM n xs).seq, .slice E k d, .slice F m g, .int .i64 (readM n xs).mask, .int .i64 (readM n xs).cost] := by simpa using (((((((((((HX8.out.put 0 (.int .i64 0)).put 1 (.int .i64 (readM n xs).age)).put 2 (.int .i64 (readM n xs).options)).put 3 (.int .i64 (readM n xs).typ)).put 4 (.int .i64 (readM n xs).id)).put 5 (.int .i64 (readM n xs).adv)).put 6 (.int .i64 (readM n xs).seq)).put 7 (.slice E k d)).put 8 (.slice F m g)).put 9 (.int .i64 (readM n xs).mask)).put 10 (.int .i64 (readM n xs).cost))
  have hBf : Below w.heap.size w ((((((((((((w7.alloc (.cells #[.int .i64 0, .slice G j jc] 32)).setCell ⟨w.heap.size, 0, none⟩ (.int .i64 0)).setCell ⟨w.heap.size, 1, none⟩ (.int .i64 (readM n xs).age)).setCell ⟨w.heap.size, 2, none⟩ (.int .i64 (readM n xs).options)).setCell ⟨w.heap.size, 3, none⟩ (.int .i64 (readM n xs).typ)).setCell ⟨w.heap.size, 4, none⟩ (.int .i64 (readM n xs).id)).setCell ⟨w.heap.size, 5, none⟩ (.int .i64 (readM n xs).adv)).setCell ⟨w.heap.size, 6, none⟩ (.int .i64 (readM n xs).seq)).setCell ⟨w.heap.size, 7, none⟩ (.slice E k d)).setCell ⟨w.heap.size, 8, none⟩ (.slice F m g)).setCell ⟨w.heap.size, 9, none⟩ (.int .i64 (readM n xs).mask)).setCell ⟨w.heap.size, 10, none⟩ (.int .i64 (readM n xs).cost)) := (((((((((((HB8.out.setCell (Nat.le_refl _) _).setCell (Nat.le_refl _) _).setCell (Nat.le_refl _) _).setCell (Nat.le_refl _) _).setCell (Nat.le_refl _) _).setCell (Nat.le_refl _) _).setCell (Nat.le_refl _) _).setCell (Nat.le_refl _) _).setCell (Nat.le_refl _) _).setCell (Nat.le_refl _) _).setCell (Nat.le_refl _) _)
  have q0 := hXf.look 0
  have q1 := hXf.look 1
  have q2 := hXf.look 2
  have q3 := hXf.look 3
  have q4 := hXf.look 4
  have q5 := hXf.look 5
  have q6 := hXf.look 6
  have q7 := hXf.look 7
  have q8 := hXf.look 8
  have q9 := hXf.look 9
  have q10 := hXf.look 10
  exact bodyPost_ret (v := .agg (resCells 0 (readM n xs) E F k d m g)) (by simp [results, Try.results16, go_sem, q0, q1, q2, q3, q4, q5, q6, q7, q8, q9, q10]) rfl ⟨E, F, k, d, m, g, rfl, (HTW8.out.same hSM (by simp [World.setCell])).mono (by omega) (Nat.le_trans HTW8.out.le (by simp [World.setCell])) (Nat.le_refl _), hk4, hm4, hBf⟩
/-- What the program's DecodeLsa answers. -/
theorem decode_any (A : Option Addr) (n c : Nat) (xs : List Int) (w : World) (ha : BIn w A n xs) (hb : Bytes xs) (hnc : n ≤ c) (hn : n ≤ 1048576) :
    Calls Try.prog 16 #[.slice A n c] w fun e w' => ∃ E F k d m g, e = .returned (.agg (resCells (decCode n xs) (decM n xs) E F k d m g)) ∧ LsaTwo w.heap.size w'.heap.size w' E k F m (decM n xs) ∧ k ≤ 400 ∧ m ≤ 400 ∧ Below w.heap.size w w' := by
  have code : ∀ (r : Int) (h0 : r ≠ 0) (hr : decCode n xs = r), (Calls Try.prog 16 #[.slice A n c] w fun e w' => e = .returned (.agg (resCells r zeroM none none 0 0 0 0)) ∧ Below w.heap.size w w') →
      Calls Try.prog 16 #[.slice A n c] w fun e w' => ∃ E F k d m g, e = .returned (.agg (resCells (decCode n xs) (decM n xs) E F k d m g)) ∧ LsaTwo w.heap.size w'.heap.size w' E k F m (decM n xs) ∧ k ≤ 400 ∧ m ≤ 400 ∧ Below w.heap.size w w' := fun r h0 hr h => by
    have hM : decM n xs = zeroM := by unfold decM; rw [hr, if_neg h0]
    rw [hM, hr]
    exact h.mono fun e w' ⟨h1, h2⟩ => ⟨none, none, 0, 0, 0, 0, h1, LsaTwo.zero _ _ h2.size, by omega, by omega, h2⟩
  by_cases h1 : 20 ≤ n ∧ n ≤ 400
  rotate_left
  · exact code 2 (by decide) (by unfold decCode; rw [if_pos h1]) (decode_many A n c xs w ha hn h1)
  by_cases h2 : rval n xs 18 2 = n
  rotate_left
  · exact code 1 (by decide) (by unfold decCode; rw [if_neg (by omega), if_pos h2]) (decode_form A n c xs w ha hb hnc h1 h2)
  by_cases h3 : sealedB (xs.drop 2) = false
  · exact code 6 (by decide) (by unfold decCode; rw [if_neg (by omega), if_neg (fun h => h h2), if_pos h3]) (decode_sum A n c xs w ha hb hnc h1 h2 h3)
  have h3' : sealedB (xs.drop 2) = true := by simpa using h3
  by_cases h4 : faultOf (readM n xs) = 0
  rotate_left
  · exact code 5 (by decide) (by unfold decCode; rw [if_neg (by omega), if_neg (fun h => h h2), if_neg h3, if_neg (fun h => h4 h.1)]) (decode_fault A n c xs w ha hb hnc h1 h2 h3' h4)
  by_cases h5 : encN (readM n xs) = xs
  rotate_left
  · exact code 5 (by decide) (by unfold decCode; rw [if_neg (by omega), if_neg (fun h => h h2), if_neg h3, if_neg (fun h => h5 h.2)]) (decode_text A n c xs w ha hb hnc h1 h2 h3' h4 h5)
  have hc : decCode n xs = 0 := by unfold decCode; rw [if_neg (by omega), if_neg (fun h => h h2), if_neg h3, if_pos ⟨h4, h5⟩]
  have hM : decM n xs = readM n xs := by unfold decM; rw [if_pos hc]
  rw [hc, hM]
  exact decode_ok A n c xs w ha hb hnc h1 h2 h3' h4 h5

end Go.Proofs.Ytamclkjofojhmaa
