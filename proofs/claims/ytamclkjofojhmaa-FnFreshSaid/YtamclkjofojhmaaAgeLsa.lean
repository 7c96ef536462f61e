/-
  What AgeLsa and FlushLsa answer. No statement is proved here.
-/
import Derived.Test.YtamclkjofojhmaaAge
import Derived.Test.YtamclkjofojhmaaDecode
import Derived.Test.YtamclkjofojhmaaLsaFault
namespace Go.Proofs.Ytamclkjofojhmaa
open Go.RowKit
set_option linter.unusedVariables false

/-- What AgeLsa tells. -/
def ageC (l : LsaM) (t : Int) : Int := if faultOf l ≠ 0 then faultOf l else if t < 0 then 3 else 0
def ageM (l : LsaM) (t : Int) : LsaM := if ageC l t = 0 then { l with age := min (l.age + min t 3600) 3600 } else zeroM
theorem ageC_1 {l : LsaM} {t : Int} (h : ¬ faultOf l = 0) : ageC l t = faultOf l := by unfold ageC; rw [if_pos h]
theorem ageC_2 {l : LsaM} {t : Int} (h : faultOf l = 0) (h2 : t < 0) : ageC l t = 3 := by unfold ageC; rw [if_neg (by omega), if_pos h2]
theorem ageC_3 {l : LsaM} {t : Int} (h : faultOf l = 0) (h2 : ¬ t < 0) : ageC l t = 0 := by unfold ageC; rw [if_neg (by omega), if_neg h2]
theorem ageM_no {l : LsaM} {t : Int} (h : ¬ ageC l t = 0) : ageM l t = zeroM := by unfold ageM; rw [if_neg h]
theorem ageM_yes {l : LsaM} {t : Int} (h : ageC l t = 0) : ageM l t = { l with age := min (l.age + min t 3600) 3600 } := by unfold ageM; rw [if_pos h]

set_option maxRecDepth 100000 in
set_option maxHeartbeats 3200000 in
theorem specAge_1 (l : LsaM) (q : Bool) (lo hi : Nat) (A B : Option Addr) (n c m d : Nat) (t : Int) (w : World) (hl : LsaAt q lo hi w A n B m l) (hn : n ≤ 1048576) (hm : m ≤ 1048576) (h : ¬ faultOf l = 0) :
    Calls Try.prog 38 #[.agg (lsaCells l A B n c m d), .int .i64 t] w fun e w' => LsaOut w (ageC l t) (ageM l t) e w' := by
  have HB := Lib.hid (Below.refl w.heap.size w)
  have HL := hl.kept
  have Z0 := Lib.hid hl.le
  clear hl
  obtain ⟨r, hr⟩ : ∃ r, faultOf l = r := ⟨_, rfl⟩
  have HC : Hid (ageC l t = r) := Lib.hid (by rw [← hr]; exact ageC_1 h)
  have HM : Hid (ageM l t = zeroM) := Lib.hid (ageM_no (by rw [ageC_1 h]; exact h))
  rw [hr] at h
  have hne : (r != 0) = true := by rw [bne_iff_ne]; exact h
  have HF := Lib.hid hr
  clear hr h
  go_enter Try.func38, Try.ntmps38
  go_wp2_with fail
  refine Calls.name ?_
  intro U1 hU1
  have hb : Below w.heap.size w U1 := by rw [hU1]; exact (((Below.refl _ _).alloc (Nat.le_refl _) _).alloc (by simp <;> omega) _)
  have zz : Hid (w.heap.size + 2 = U1.heap.size) := Lib.hid (by rw [hU1]; simp)
  have HX1 : Kept w.heap.size (w.heap.size + 1) (BoxK w.heap.size 29 #[.int .i64 l.age, .int .i64 l.options, .int .i64 l.typ, .int .i64 l.id, .int .i64 l.adv, .int .i64 l.seq, .slice A n c, .slice B m d, .int .i64 l.mask, .int .i64 l.cost]) U1 := by rw [hU1]; exact Kept.box ((Box.made_at _ _ _ rfl).over _)
  have HX2 : Kept (w.heap.size + 1) (w.heap.size + 1 + 1) (BoxK (w.heap.size + 1) 36 #[.int .i64 0, .int .i64 0, .int .i64 0, .int .i64 0, .int .i64 0, .int .i64 0, .int .i64 0, .slice none 0 0, .slice none 0 0, .int .i64 0, .int .i64 0]) U1 := by rw [hU1]; exact Kept.box (Box.made_at _ _ _ (by simp <;> omega))
  replace HL := HL.below hb
  replace HB := Lib.hid (below_step HB.out hb)
  clear hb
  have Z1 := zz; clear zz
  clear hU1
  refine (specFault_any l q lo hi A B n c m d _ HL.lsa.in_ HL.le hn hm).mono ?_
  rw [HF.out]
  rintro e w2 ⟨rfl, hb⟩
  have Z2 := Lib.hid hb.size
  replace HL := HL.below hb
  replace HX1 := HX1.below hb
  replace HX2 := HX2.below hb
  replace HB := Lib.hid (below_step HB.out hb)
  clear hb
  have c2_0 := HX2.look 0
  have c2_1 := HX2.look 1
  have c2_2 := HX2.look 2
  have c2_3 := HX2.look 3
  have c2_4 := HX2.look 4
  have c2_5 := HX2.look 5
  have c2_6 := HX2.look 6
  have c2_7 := HX2.look 7
  have c2_8 := HX2.look 8
  have c2_9 := HX2.look 9
  have c2_10 := HX2.look 10
  have f2_0 := HX2.free 0
  have f2_1 := HX2.free 1
  have f2_2 := HX2.free 2
  have f2_3 := HX2.free 3
  have f2_4 := HX2.free 4
  have f2_5 := HX2.free 5
  have f2_6 := HX2.free 6
  have f2_7 := HX2.free 7
  have f2_8 := HX2.free 8
  have f2_9 := HX2.free 9
  have f2_10 := HX2.free 10
  have l2_0 := HX1.le
  have l2_1 := HX2.le
  go_wp2
  clear c2_0 c2_1 c2_2 c2_3 c2_4 c2_5 c2_6 c2_7 c2_8 c2_9 c2_10 f2_0 f2_1 f2_2 f2_3 f2_4 f2_5 f2_6 f2_7 f2_8 f2_9 f2_10 l2_0 l2_1
  obtain ⟨U3, hU3⟩ : ∃ W : World, W = (((((((((((w2.setCell ⟨w.heap.size + 1, 0, none⟩ (.int .i64 r)).setCell ⟨w.heap.size + 1, 1, none⟩ (.int .i64 0)).setCell ⟨w.heap.size + 1, 2, none⟩ (.int .i64 0)).setCell ⟨w.heap.size + 1, 3, none⟩ (.int .i64 0)).setCell ⟨w.heap.size + 1, 4, none⟩ (.int .i64 0)).setCell ⟨w.heap.size + 1, 5, none⟩ (.int .i64 0)).setCell ⟨w.heap.size + 1, 6, none⟩ (.int .i64 0)).setCell ⟨w.heap.size + 1, 7, none⟩ (.slice none 0 0)).setCell ⟨w.heap.size + 1, 8, none⟩ (.slice none 0 0)).setCell ⟨w.heap.size + 1, 9, none⟩ (.int .i64 0)).setCell ⟨w.heap.size + 1, 10, none⟩ (.int .i64 0)) := ⟨_, rfl⟩
  have ho : Only (w.heap.size + 1) (w.heap.size + 1 + 1) w2 U3 := by rw [hU3]; exact ((((((((((((Only.refl _ _ _).set (p := ⟨w.heap.size + 1, 0, none⟩) (Nat.le_refl _) (Nat.lt_succ_self _) _).set (p := ⟨w.heap.size + 1, 1, none⟩) (Nat.le_refl _) (Nat.lt_succ_self _) _).set (p := ⟨w.heap.size + 1, 2, none⟩) (Nat.le_refl _) (Nat.lt_succ_self _) _).set (p := ⟨w.heap.size + 1, 3, none⟩) (Nat.le_refl _) (Nat.lt_succ_self _) _).set (p := ⟨w.heap.size + 1, 4, none⟩) (Nat.le_refl _) (Nat.lt_succ_self _) _).set (p := ⟨w.heap.size + 1, 5, none⟩) (Nat.le_refl _) (Nat.lt_succ_self _) _).set (p := ⟨w.heap.size + 1, 6, none⟩) (Nat.le_refl _) (Nat.lt_succ_self _) _).set (p := ⟨w.heap.size + 1, 7, none⟩) (Nat.le_refl _) (Nat.lt_succ_self _) _).set (p := ⟨w.heap.size + 1, 8, none⟩) (Nat.le_refl _) (Nat.lt_succ_self _) _).set (p := ⟨w.heap.size + 1, 9, none⟩) (Nat.le_refl _) (Nat.lt_succ_self _) _).set (p := ⟨w.heap.size + 1, 10, none⟩) (Nat.le_refl _) (Nat.lt_succ_self _) _)
  replace HX2 : Kept (w.heap.size + 1) (w.heap.size + 1 + 1) (BoxK (w.heap.size + 1) 36 #[.int .i64 r, .int .i64 0, .int .i64 0, .int .i64 0, .int .i64 0, .int .i64 0, .int .i64 0, .slice none 0 0, .slice none 0 0, .int .i64 0, .int .i64 0]) U3 := by rw [hU3]; exact Kept.box (((((((((((HX2.bx.puts 0 (.int .i64 r) (cs' := #[.int .i64 r, .int .i64 0, .int .i64 0, .int .i64 0, .int .i64 0, .int .i64 0, .int .i64 0, .slice none 0 0, .slice none 0 0, .int .i64 0, .int .i64 0]) rfl).puts 1 (.int .i64 0) (cs' := #[.int .i64 r, .int .i64 0, .int .i64 0, .int .i64 0, .int .i64 0, .int .i64 0, .int .i64 0, .slice none 0 0, .slice none 0 0, .int .i64 0, .int .i64 0]) rfl).puts 2 (.int .i64 0) (cs' := #[.int .i64 r, .int .i64 0, .int .i64 0, .int .i64 0, .int .i64 0, .int .i64 0, .int .i64 0, .slice none 0 0, .slice none 0 0, .int .i64 0, .int .i64 0]) rfl).puts 3 (.int .i64 0) (cs' := #[.int .i64 r, .int .i64 0, .int .i64 0, .int .i64 0, .int .i64 0, .int .i64 0, .int .i64 0, .slice none 0 0, .slice none 0 0, .int .i64 0, .int .i64 0]) rfl).puts 4 (.int .i64 0) (cs' := #[.int .i64 r, .int .i64 0, .int .i64 0, .int .i64 0, .int .i64 0, .int .i64 0, .int .i64 0, .slice none 0 0, .slice none 0 0, .int .i64 0, .int .i64 0]) rfl).puts 5 (.int .i64 0) (cs' := #[.int .i64 r, .int .i64 0, .int .i64 0, .int .i64 0, .int .i64 0, .int .i64 0, .int .i64 0, .slice none 0 0, .slice none 0 0, .int .i64 0, .int .i64 0]) rfl).puts 6 (.int .i64 0) (cs' := #[.int .i64 r, .int .i64 0, .int .i64 0, .int .i64 0, .int .i64 0, .int .i64 0, .int .i64 0, .slice none 0 0, .slice none 0 0, .int .i64 0, .int .i64 0]) rfl).puts 7 (.slice none 0 0) (cs' := #[.int .i64 r, .int .i64 0, .int .i64 0, .int .i64 0, .int .i64 0, .int .i64 0, .int .i64 0, .slice none 0 0, .slice none 0 0, .int .i64 0, .int .i64 0]) rfl).puts 8 (.slice none 0 0) (cs' := #[.int .i64 r, .int .i64 0, .int .i64 0, .int .i64 0, .int .i64 0, .int .i64 0, .int .i64 0, .slice none 0 0, .slice none 0 0, .int .i64 0, .int .i64 0]) rfl).puts 9 (.int .i64 0) (cs' := #[.int .i64 r, .int .i64 0, .int .i64 0, .int .i64 0, .int .i64 0, .int .i64 0, .int .i64 0, .slice none 0 0, .slice none 0 0, .int .i64 0, .int .i64 0]) rfl).puts 10 (.int .i64 0) (cs' := #[.int .i64 r, .int .i64 0, .int .i64 0, .int .i64 0, .int .i64 0, .int .i64 0, .int .i64 0, .slice none 0 0, .slice none 0 0, .int .i64 0, .int .i64 0]) rfl)
  replace HL := HL.only ho (by have := Z0.out; have := Z1.out; have := Z2.out; omega)
  replace HX1 := HX1.only ho (by have := Z0.out; have := Z1.out; have := Z2.out; omega)
  replace HB := Lib.hid (Below.only HB.out ho (by have := Z0.out; have := Z1.out; have := Z2.out; omega) HB.out.size)
  have Z3 := Lib.hid ho.size; clear ho
  have q_0 := HX2.look 0
  have q_1 := HX2.look 1
  have q_2 := HX2.look 2
  have q_3 := HX2.look 3
  have q_4 := HX2.look 4
  have q_5 := HX2.look 5
  have q_6 := HX2.look 6
  have q_7 := HX2.look 7
  have q_8 := HX2.look 8
  have q_9 := HX2.look 9
  have q_10 := HX2.look 10
  have fin : ∀ e, e = Ending.returned (.agg (resCells r (zeroM) none none 0 0 0 0)) → (LsaOut w (ageC l t) (ageM l t) e U3) := by rintro _ rfl; exact by rw [HC.out, HM.out]; exact ⟨none, none, 0, 0, 0, 0, rfl, LsaTwo.zero _ _ (by have := Z0.out; have := Z1.out; have := Z2.out; have := Z3.out; omega), by omega, by omega, HB.out⟩
  subst hU3
  exact bodyPost_ret (v := .agg (resCells r (zeroM) none none 0 0 0 0)) (by simp [results, Try.results38, go_sem, zeroM, q_0, q_1, q_2, q_3, q_4, q_5, q_6, q_7, q_8, q_9, q_10]) rfl (fin _ rfl)

set_option maxRecDepth 100000 in
set_option maxHeartbeats 3200000 in
theorem specAge_2 (l : LsaM) (q : Bool) (lo hi : Nat) (A B : Option Addr) (n c m d : Nat) (t : Int) (w : World) (hl : LsaAt q lo hi w A n B m l) (hn : n ≤ 1048576) (hm : m ≤ 1048576) (h : faultOf l = 0) (h2 : t < 0) :
    Calls Try.prog 38 #[.agg (lsaCells l A B n c m d), .int .i64 t] w fun e w' => LsaOut w (ageC l t) (ageM l t) e w' := by
  have HB := Lib.hid (Below.refl w.heap.size w)
  have HL := hl.kept
  have Z0 := Lib.hid hl.le
  clear hl
  have HC : Hid (ageC l t = 3) := Lib.hid (ageC_2 h h2)
  have HM : Hid (ageM l t = zeroM) := Lib.hid (ageM_no (by rw [ageC_2 h h2]; decide))
  have HF := Lib.hid h
  clear h
  go_enter Try.func38, Try.ntmps38
  go_wp2_with fail
  refine Calls.name ?_
  intro U1 hU1
  have hb : Below w.heap.size w U1 := by rw [hU1]; exact (((Below.refl _ _).alloc (Nat.le_refl _) _).alloc (by simp <;> omega) _)
  have zz : Hid (w.heap.size + 2 = U1.heap.size) := Lib.hid (by rw [hU1]; simp)
  have HX1 : Kept w.heap.size (w.heap.size + 1) (BoxK w.heap.size 29 #[.int .i64 l.age, .int .i64 l.options, .int .i64 l.typ, .int .i64 l.id, .int .i64 l.adv, .int .i64 l.seq, .slice A n c, .slice B m d, .int .i64 l.mask, .int .i64 l.cost]) U1 := by rw [hU1]; exact Kept.box ((Box.made_at _ _ _ rfl).over _)
  have HX2 : Kept (w.heap.size + 1) (w.heap.size + 1 + 1) (BoxK (w.heap.size + 1) 36 #[.int .i64 0, .int .i64 0, .int .i64 0, .int .i64 0, .int .i64 0, .int .i64 0, .int .i64 0, .slice none 0 0, .slice none 0 0, .int .i64 0, .int .i64 0]) U1 := by rw [hU1]; exact Kept.box (Box.made_at _ _ _ (by simp <;> omega))
  replace HL := HL.below hb
  replace HB := Lib.hid (below_step HB.out hb)
  clear hb
  have Z1 := zz; clear zz
  clear hU1
  refine (specFault_any l q lo hi A B n c m d _ HL.lsa.in_ HL.le hn hm).mono ?_
  rw [HF.out]
  rintro e w2 ⟨rfl, hb⟩
  have Z2 := Lib.hid hb.size
  replace HL := HL.below hb
  replace HX1 := HX1.below hb
  replace HX2 := HX2.below hb
  replace HB := Lib.hid (below_step HB.out hb)
  clear hb
  have c2_0 := HX2.look 0
  have c2_1 := HX2.look 1
  have c2_2 := HX2.look 2
  have c2_3 := HX2.look 3
  have c2_4 := HX2.look 4
  have c2_5 := HX2.look 5
  have c2_6 := HX2.look 6
  have c2_7 := HX2.look 7
  have c2_8 := HX2.look 8
  have c2_9 := HX2.look 9
  have c2_10 := HX2.look 10
  have f2_0 := HX2.free 0
  have f2_1 := HX2.free 1
  have f2_2 := HX2.free 2
  have f2_3 := HX2.free 3
  have f2_4 := HX2.free 4
  have f2_5 := HX2.free 5
  have f2_6 := HX2.free 6
  have f2_7 := HX2.free 7
  have f2_8 := HX2.free 8
  have f2_9 := HX2.free 9
  have f2_10 := HX2.free 10
  have l2_0 := HX1.le
  have l2_1 := HX2.le
  go_wp2
  clear c2_0 c2_1 c2_2 c2_3 c2_4 c2_5 c2_6 c2_7 c2_8 c2_9 c2_10 f2_0 f2_1 f2_2 f2_3 f2_4 f2_5 f2_6 f2_7 f2_8 f2_9 f2_10 l2_0 l2_1
  obtain ⟨U3, hU3⟩ : ∃ W : World, W = (((((((((((w2.setCell ⟨w.heap.size + 1, 0, none⟩ (.int .i64 3)).setCell ⟨w.heap.size + 1, 1, none⟩ (.int .i64 0)).setCell ⟨w.heap.size + 1, 2, none⟩ (.int .i64 0)).setCell ⟨w.heap.size + 1, 3, none⟩ (.int .i64 0)).setCell ⟨w.heap.size + 1, 4, none⟩ (.int .i64 0)).setCell ⟨w.heap.size + 1, 5, none⟩ (.int .i64 0)).setCell ⟨w.heap.size + 1, 6, none⟩ (.int .i64 0)).setCell ⟨w.heap.size + 1, 7, none⟩ (.slice none 0 0)).setCell ⟨w.heap.size + 1, 8, none⟩ (.slice none 0 0)).setCell ⟨w.heap.size + 1, 9, none⟩ (.int .i64 0)).setCell ⟨w.heap.size + 1, 10, none⟩ (.int .i64 0)) := ⟨_, rfl⟩
  have ho : Only (w.heap.size + 1) (w.heap.size + 1 + 1) w2 U3 := by rw [hU3]; exact ((((((((((((Only.refl _ _ _).set (p := ⟨w.heap.size + 1, 0, none⟩) (Nat.le_refl _) (Nat.lt_succ_self _) _).set (p := ⟨w.heap.size + 1, 1, none⟩) (Nat.le_refl _) (Nat.lt_succ_self _) _).set (p := ⟨w.heap.size + 1, 2, none⟩) (Nat.le_refl _) (Nat.lt_succ_self _) _).set (p := ⟨w.heap.size + 1, 3, none⟩) (Nat.le_refl _) (Nat.lt_succ_self _) _).set (p := ⟨w.heap.size + 1, 4, none⟩) (Nat.le_refl _) (Nat.lt_succ_self _) _).set (p := ⟨w.heap.size + 1, 5, none⟩) (Nat.le_refl _) (Nat.lt_succ_self _) _).set (p := ⟨w.heap.size + 1, 6, none⟩) (Nat.le_refl _) (Nat.lt_succ_self _) _).set (p := ⟨w.heap.size + 1, 7, none⟩) (Nat.le_refl _) (Nat.lt_succ_self _) _).set (p := ⟨w.heap.size + 1, 8, none⟩) (Nat.le_refl _) (Nat.lt_succ_self _) _).set (p := ⟨w.heap.size + 1, 9, none⟩) (Nat.le_refl _) (Nat.lt_succ_self _) _).set (p := ⟨w.heap.size + 1, 10, none⟩) (Nat.le_refl _) (Nat.lt_succ_self _) _)
  replace HX2 : Kept (w.heap.size + 1) (w.heap.size + 1 + 1) (BoxK (w.heap.size + 1) 36 #[.int .i64 3, .int .i64 0, .int .i64 0, .int .i64 0, .int .i64 0, .int .i64 0, .int .i64 0, .slice none 0 0, .slice none 0 0, .int .i64 0, .int .i64 0]) U3 := by rw [hU3]; exact Kept.box (((((((((((HX2.bx.puts 0 (.int .i64 3) (cs' := #[.int .i64 3, .int .i64 0, .int .i64 0, .int .i64 0, .int .i64 0, .int .i64 0, .int .i64 0, .slice none 0 0, .slice none 0 0, .int .i64 0, .int .i64 0]) rfl).puts 1 (.int .i64 0) (cs' := #[.int .i64 3, .int .i64 0, .int .i64 0, .int .i64 0, .int .i64 0, .int .i64 0, .int .i64 0, .slice none 0 0, .slice none 0 0, .int .i64 0, .int .i64 0]) rfl).puts 2 (.int .i64 0) (cs' := #[.int .i64 3, .int .i64 0, .int .i64 0, .int .i64 0, .int .i64 0, .int .i64 0, .int .i64 0, .slice none 0 0, .slice none 0 0, .int .i64 0, .int .i64 0]) rfl).puts 3 (.int .i64 0) (cs' := #[.int .i64 3, .int .i64 0, .int .i64 0, .int .i64 0, .int .i64 0, .int .i64 0, .int .i64 0, .slice none 0 0, .slice none 0 0, .int .i64 0, .int .i64 0]) rfl).puts 4 (.int .i64 0) (cs' := #[.int .i64 3, .int .i64 0, .int .i64 0, .int .i64 0, .int .i64 0, .int .i64 0, .int .i64 0, .slice none 0 0, .slice none 0 0, .int .i64 0, .int .i64 0]) rfl).puts 5 (.int .i64 0) (cs' := #[.int .i64 3, .int .i64 0, .int .i64 0, .int .i64 0, .int .i64 0, .int .i64 0, .int .i64 0, .slice none 0 0, .slice none 0 0, .int .i64 0, .int .i64 0]) rfl).puts 6 (.int .i64 0) (cs' := #[.int .i64 3, .int .i64 0, .int .i64 0, .int .i64 0, .int .i64 0, .int .i64 0, .int .i64 0, .slice none 0 0, .slice none 0 0, .int .i64 0, .int .i64 0]) rfl).puts 7 (.slice none 0 0) (cs' := #[.int .i64 3, .int .i64 0, .int .i64 0, .int .i64 0, .int .i64 0, .int .i64 0, .int .i64 0, .slice none 0 0, .slice none 0 0, .int .i64 0, .int .i64 0]) rfl).puts 8 (.slice none 0 0) (cs' := #[.int .i64 3, .int .i64 0, .int .i64 0, .int .i64 0, .int .i64 0, .int .i64 0, .int .i64 0, .slice none 0 0, .slice none 0 0, .int .i64 0, .int .i64 0]) rfl).puts 9 (.int .i64 0) (cs' := #[.int .i64 3, .int .i64 0, .int .i64 0, .int .i64 0, .int .i64 0, .int .i64 0, .int .i64 0, .slice none 0 0, .slice none 0 0, .int .i64 0, .int .i64 0]) rfl).puts 10 (.int .i64 0) (cs' := #[.int .i64 3, .int .i64 0, .int .i64 0, .int .i64 0, .int .i64 0, .int .i64 0, .int .i64 0, .slice none 0 0, .slice none 0 0, .int .i64 0, .int .i64 0]) rfl)
  replace HL := HL.only ho (by have := Z0.out; have := Z1.out; have := Z2.out; omega)
  replace HX1 := HX1.only ho (by have := Z0.out; have := Z1.out; have := Z2.out; omega)
  replace HB := Lib.hid (Below.only HB.out ho (by have := Z0.out; have := Z1.out; have := Z2.out; omega) HB.out.size)
  have Z3 := Lib.hid ho.size; clear ho
  have q_0 := HX2.look 0
  have q_1 := HX2.look 1
  have q_2 := HX2.look 2
  have q_3 := HX2.look 3
  have q_4 := HX2.look 4
  have q_5 := HX2.look 5
  have q_6 := HX2.look 6
  have q_7 := HX2.look 7
  have q_8 := HX2.look 8
  have q_9 := HX2.look 9
  have q_10 := HX2.look 10
  have fin : ∀ e, e = Ending.returned (.agg (resCells 3 (zeroM) none none 0 0 0 0)) → (LsaOut w (ageC l t) (ageM l t) e U3) := by rintro _ rfl; exact by rw [HC.out, HM.out]; exact ⟨none, none, 0, 0, 0, 0, rfl, LsaTwo.zero _ _ (by have := Z0.out; have := Z1.out; have := Z2.out; have := Z3.out; omega), by omega, by omega, HB.out⟩
  subst hU3
  exact bodyPost_ret (v := .agg (resCells 3 (zeroM) none none 0 0 0 0)) (by simp [results, Try.results38, go_sem, zeroM, q_0, q_1, q_2, q_3, q_4, q_5, q_6, q_7, q_8, q_9, q_10]) rfl (fin _ rfl)

set_option maxRecDepth 100000 in
set_option maxHeartbeats 3200000 in
theorem specAge_3 (l : LsaM) (q : Bool) (lo hi : Nat) (A B : Option Addr) (n c m d : Nat) (t : Int) (w : World) (hl : LsaAt q lo hi w A n B m l) (hn : n ≤ 1048576) (hm : m ≤ 1048576) (h : faultOf l = 0) (h2 : ¬ t < 0) :
    Calls Try.prog 38 #[.agg (lsaCells l A B n c m d), .int .i64 t] w fun e w' => LsaOut w (ageC l t) (ageM l t) e w' := by
  have HB := Lib.hid (Below.refl w.heap.size w)
  have HL := hl.kept
  have Z0 := Lib.hid hl.le
  clear hl
  have HC : Hid (ageC l t = 0) := Lib.hid (ageC_3 h h2)
  have HM : Hid (ageM l t = { l with age := min (l.age + min t 3600) 3600 }) := Lib.hid (ageM_yes HC.out)
  have HF := Lib.hid h
  have HS := Lib.hid (sound_of l h)
  have hs1 : 0 ≤ l.age ∧ l.age ≤ 3600 := HS.out.age
  obtain ⟨hs1, hs2⟩ := hs1
  clear h
  go_enter Try.func38, Try.ntmps38
  go_wp2_with fail
  refine Calls.name ?_
  intro U1 hU1
  have hb : Below w.heap.size w U1 := by rw [hU1]; exact (((Below.refl _ _).alloc (Nat.le_refl _) _).alloc (by simp <;> omega) _)
  have zz : Hid (w.heap.size + 2 = U1.heap.size) := Lib.hid (by rw [hU1]; simp)
  have HX1 : Kept w.heap.size (w.heap.size + 1) (BoxK w.heap.size 29 #[.int .i64 l.age, .int .i64 l.options, .int .i64 l.typ, .int .i64 l.id, .int .i64 l.adv, .int .i64 l.seq, .slice A n c, .slice B m d, .int .i64 l.mask, .int .i64 l.cost]) U1 := by rw [hU1]; exact Kept.box ((Box.made_at _ _ _ rfl).over _)
  have HX2 : Kept (w.heap.size + 1) (w.heap.size + 1 + 1) (BoxK (w.heap.size + 1) 36 #[.int .i64 0, .int .i64 0, .int .i64 0, .int .i64 0, .int .i64 0, .int .i64 0, .int .i64 0, .slice none 0 0, .slice none 0 0, .int .i64 0, .int .i64 0]) U1 := by rw [hU1]; exact Kept.box (Box.made_at _ _ _ (by simp <;> omega))
  replace HL := HL.below hb
  replace HB := Lib.hid (below_step HB.out hb)
  clear hb
  have Z1 := zz; clear zz
  clear hU1
  refine (specFault_any l q lo hi A B n c m d _ HL.lsa.in_ HL.le hn hm).mono ?_
  rw [HF.out]
  rintro e w2 ⟨rfl, hb⟩
  have Z2 := Lib.hid hb.size
  replace HL := HL.below hb
  replace HX1 := HX1.below hb
  replace HX2 := HX2.below hb
  replace HB := Lib.hid (below_step HB.out hb)
  clear hb
  have c2_0 := HX1.look 0
  have c2_1 := HX1.look 1
  have c2_2 := HX1.look 2
  have c2_3 := HX1.look 3
  have c2_4 := HX1.look 4
  have c2_5 := HX1.look 5
  have c2_6 := HX1.look 6
  have c2_7 := HX1.look 7
  have c2_8 := HX1.look 8
  have c2_9 := HX1.look 9
  have l2_0 := HX1.le
  have l2_1 := HX2.le
  go_wp2_with fail
  clear c2_0 c2_1 c2_2 c2_3 c2_4 c2_5 c2_6 c2_7 c2_8 c2_9 l2_0 l2_1
  refine (l3Age_any l q lo hi A B n c m d t _ HL.lsa hn hm hs1 hs2 (by omega)).mono ?_
  rintro e w3 ⟨A', B', c', d', rfl, ht, hb⟩
  have Z3 := Lib.hid hb.size
  replace HL := HL.below hb
  replace HX1 := HX1.below hb
  replace HX2 := HX2.below hb
  replace HB := Lib.hid (below_step HB.out hb)
  clear hb
  have HT := ht.kept; clear ht
  have c3_0 := HX2.look 0
  have c3_1 := HX2.look 1
  have c3_2 := HX2.look 2
  have c3_3 := HX2.look 3
  have c3_4 := HX2.look 4
  have c3_5 := HX2.look 5
  have c3_6 := HX2.look 6
  have c3_7 := HX2.look 7
  have c3_8 := HX2.look 8
  have c3_9 := HX2.look 9
  have c3_10 := HX2.look 10
  have f3_0 := HX2.free 0
  have f3_1 := HX2.free 1
  have f3_2 := HX2.free 2
  have f3_3 := HX2.free 3
  have f3_4 := HX2.free 4
  have f3_5 := HX2.free 5
  have f3_6 := HX2.free 6
  have f3_7 := HX2.free 7
  have f3_8 := HX2.free 8
  have f3_9 := HX2.free 9
  have f3_10 := HX2.free 10
  have l3_0 := HX1.le
  have l3_1 := HX2.le
  go_wp2
  clear c3_0 c3_1 c3_2 c3_3 c3_4 c3_5 c3_6 c3_7 c3_8 c3_9 c3_10 f3_0 f3_1 f3_2 f3_3 f3_4 f3_5 f3_6 f3_7 f3_8 f3_9 f3_10 l3_0 l3_1
  obtain ⟨U4, hU4⟩ : ∃ W : World, W = (((((((((((w3.setCell ⟨w.heap.size + 1, 0, none⟩ (.int .i64 0)).setCell ⟨w.heap.size + 1, 1, none⟩ (.int .i64 (min (l.age + min t 3600) 3600))).setCell ⟨w.heap.size + 1, 2, none⟩ (.int .i64 (l.options))).setCell ⟨w.heap.size + 1, 3, none⟩ (.int .i64 (l.typ))).setCell ⟨w.heap.size + 1, 4, none⟩ (.int .i64 (l.id))).setCell ⟨w.heap.size + 1, 5, none⟩ (.int .i64 (l.adv))).setCell ⟨w.heap.size + 1, 6, none⟩ (.int .i64 (l.seq))).setCell ⟨w.heap.size + 1, 7, none⟩ (.slice A' n c')).setCell ⟨w.heap.size + 1, 8, none⟩ (.slice B' m d')).setCell ⟨w.heap.size + 1, 9, none⟩ (.int .i64 (l.mask))).setCell ⟨w.heap.size + 1, 10, none⟩ (.int .i64 (l.cost))) := ⟨_, rfl⟩
  have ho : Only (w.heap.size + 1) (w.heap.size + 1 + 1) w3 U4 := by rw [hU4]; exact ((((((((((((Only.refl _ _ _).set (p := ⟨w.heap.size + 1, 0, none⟩) (Nat.le_refl _) (Nat.lt_succ_self _) _).set (p := ⟨w.heap.size + 1, 1, none⟩) (Nat.le_refl _) (Nat.lt_succ_self _) _).set (p := ⟨w.heap.size + 1, 2, none⟩) (Nat.le_refl _) (Nat.lt_succ_self _) _).set (p := ⟨w.heap.size + 1, 3, none⟩) (Nat.le_refl _) (Nat.lt_succ_self _) _).set (p := ⟨w.heap.size + 1, 4, none⟩) (Nat.le_refl _) (Nat.lt_succ_self _) _).set (p := ⟨w.heap.size + 1, 5, none⟩) (Nat.le_refl _) (Nat.lt_succ_self _) _).set (p := ⟨w.heap.size + 1, 6, none⟩) (Nat.le_refl _) (Nat.lt_succ_self _) _).set (p := ⟨w.heap.size + 1, 7, none⟩) (Nat.le_refl _) (Nat.lt_succ_self _) _).set (p := ⟨w.heap.size + 1, 8, none⟩) (Nat.le_refl _) (Nat.lt_succ_self _) _).set (p := ⟨w.heap.size + 1, 9, none⟩) (Nat.le_refl _) (Nat.lt_succ_self _) _).set (p := ⟨w.heap.size + 1, 10, none⟩) (Nat.le_refl _) (Nat.lt_succ_self _) _)
  replace HX2 : Kept (w.heap.size + 1) (w.heap.size + 1 + 1) (BoxK (w.heap.size + 1) 36 #[.int .i64 0, .int .i64 (min (l.age + min t 3600) 3600), .int .i64 (l.options), .int .i64 (l.typ), .int .i64 (l.id), .int .i64 (l.adv), .int .i64 (l.seq), .slice A' n c', .slice B' m d', .int .i64 (l.mask), .int .i64 (l.cost)]) U4 := by rw [hU4]; exact Kept.box (((((((((((HX2.bx.puts 0 (.int .i64 0) (cs' := #[.int .i64 0, .int .i64 0, .int .i64 0, .int .i64 0, .int .i64 0, .int .i64 0, .int .i64 0, .slice none 0 0, .slice none 0 0, .int .i64 0, .int .i64 0]) rfl).puts 1 (.int .i64 (min (l.age + min t 3600) 3600)) (cs' := #[.int .i64 0, .int .i64 (min (l.age + min t 3600) 3600), .int .i64 0, .int .i64 0, .int .i64 0, .int .i64 0, .int .i64 0, .slice none 0 0, .slice none 0 0, .int .i64 0, .int .i64 0]) rfl).puts 2 (.int .i64 (l.options)) (cs' := #[.int .i64 0, .int .i64 (min (l.age + min t 3600) 3600), .int .i64 (l.options), .int .i64 0, .int .i64 0, .int .i64 0, .int .i64 0, .slice none 0 0, .slice none 0 0, .int .i64 0, .int .i64 0]) rfl).puts 3 (.int .i64 (l.typ)) (cs' := #[.int .i64 0, .int .i64 (min (l.age + min t 3600) 3600), .int .i64 (l.options), .int .i64 (l.typ), .int .i64 0, .int .i64 0, .int .i64 0, .slice none 0 0, .slice none 0 0, .int .i64 0, .int .i64 0]) rfl).puts 4 (.int .i64 (l.id)) (cs' := #[.int .i64 0, .int .i64 (min (l.age + min t 3600) 3600), .int .i64 (l.options), .int .i64 (l.typ), .int .i64 (l.id), .int .i64 0, .int .i64 0, .slice none 0 0, .slice none 0 0, .int .i64 0, .int .i64 0]) rfl).puts 5 (.int .i64 (l.adv)) (cs' := #[.int .i64 0, .int .i64 (min (l.age + min t 3600) 3600), .int .i64 (l.options), .int .i64 (l.typ), .int .i64 (l.id), .int .i64 (l.adv), .int .i64 0, .slice none 0 0, .slice none 0 0, .int .i64 0, .int .i64 0]) rfl).puts 6 (.int .i64 (l.seq)) (cs' := #[.int .i64 0, .int .i64 (min (l.age + min t 3600) 3600), .int .i64 (l.options), .int .i64 (l.typ), .int .i64 (l.id), .int .i64 (l.adv), .int .i64 (l.seq), .slice none 0 0, .slice none 0 0, .int .i64 0, .int .i64 0]) rfl).puts 7 (.slice A' n c') (cs' := #[.int .i64 0, .int .i64 (min (l.age + min t 3600) 3600), .int .i64 (l.options), .int .i64 (l.typ), .int .i64 (l.id), .int .i64 (l.adv), .int .i64 (l.seq), .slice A' n c', .slice none 0 0, .int .i64 0, .int .i64 0]) rfl).puts 8 (.slice B' m d') (cs' := #[.int .i64 0, .int .i64 (min (l.age + min t 3600) 3600), .int .i64 (l.options), .int .i64 (l.typ), .int .i64 (l.id), .int .i64 (l.adv), .int .i64 (l.seq), .slice A' n c', .slice B' m d', .int .i64 0, .int .i64 0]) rfl).puts 9 (.int .i64 (l.mask)) (cs' := #[.int .i64 0, .int .i64 (min (l.age + min t 3600) 3600), .int .i64 (l.options), .int .i64 (l.typ), .int .i64 (l.id), .int .i64 (l.adv), .int .i64 (l.seq), .slice A' n c', .slice B' m d', .int .i64 (l.mask), .int .i64 0]) rfl).puts 10 (.int .i64 (l.cost)) (cs' := #[.int .i64 0, .int .i64 (min (l.age + min t 3600) 3600), .int .i64 (l.options), .int .i64 (l.typ), .int .i64 (l.id), .int .i64 (l.adv), .int .i64 (l.seq), .slice A' n c', .slice B' m d', .int .i64 (l.mask), .int .i64 (l.cost)]) rfl)
  replace HL := HL.only ho (by have := Z0.out; have := Z1.out; have := Z2.out; have := Z3.out; omega)
  replace HX1 := HX1.only ho (by have := Z0.out; have := Z1.out; have := Z2.out; have := Z3.out; omega)
  replace HT := HT.only ho (by have := Z0.out; have := Z1.out; have := Z2.out; have := Z3.out; omega)
  replace HB := Lib.hid (Below.only HB.out ho (by have := Z0.out; have := Z1.out; have := Z2.out; have := Z3.out; omega) HB.out.size)
  have Z4 := Lib.hid ho.size; clear ho
  have q_0 := HX2.look 0
  have q_1 := HX2.look 1
  have q_2 := HX2.look 2
  have q_3 := HX2.look 3
  have q_4 := HX2.look 4
  have q_5 := HX2.look 5
  have q_6 := HX2.look 6
  have q_7 := HX2.look 7
  have q_8 := HX2.look 8
  have q_9 := HX2.look 9
  have q_10 := HX2.look 10
  have fin : ∀ e, e = Ending.returned (.agg (resCells 0 ({ l with age := min (l.age + min t 3600) 3600 }) A' B' n c' m d')) → (LsaOut w (ageC l t) (ageM l t) e U4) := by rintro _ rfl; exact by rw [HC.out, HM.out]; exact ⟨A', B', n, c', m, d', rfl, LsaTwo.mono (lo' := w.heap.size) (hi' := U4.heap.size) HT.two (by have := Z0.out; have := Z1.out; have := Z2.out; have := Z3.out; have := Z4.out; omega) (by have := Z0.out; have := Z1.out; have := Z2.out; have := Z3.out; have := Z4.out; omega) (Nat.le_refl _), hn, hm, HB.out⟩
  subst hU4
  exact bodyPost_ret (v := .agg (resCells 0 ({ l with age := min (l.age + min t 3600) 3600 }) A' B' n c' m d')) (by simp [results, Try.results38, go_sem, q_0, q_1, q_2, q_3, q_4, q_5, q_6, q_7, q_8, q_9, q_10]) rfl (fin _ rfl)

theorem specAge_any (l : LsaM) (q : Bool) (lo hi : Nat) (A B : Option Addr) (n c m d : Nat) (t : Int) (w : World) (hl : LsaAt q lo hi w A n B m l) (hn : n ≤ 1048576) (hm : m ≤ 1048576) :
    Calls Try.prog 38 #[.agg (lsaCells l A B n c m d), .int .i64 t] w (LsaOut w (ageC l t) (ageM l t)) := by
  by_cases h : faultOf l = 0
  · by_cases h2 : t < 0
    · exact specAge_2 l q lo hi A B n c m d t w hl hn hm h h2
    · exact specAge_3 l q lo hi A B n c m d t w hl hn hm h h2
  · exact specAge_1 l q lo hi A B n c m d t w hl hn hm h

set_option maxRecDepth 100000 in
set_option maxHeartbeats 3200000 in
theorem age_1 (l : LsaM) (q : Bool) (lo hi : Nat) (A B : Option Addr) (n c m d : Nat) (t : Int) (w : World) (hl : LsaAt q lo hi w A n B m l) (hn : n ≤ 1048576) (hm : m ≤ 1048576) (h : ¬ faultOf l = 0) :
    Calls Try.prog 36 #[.agg (lsaCells l A B n c m d), .int .i64 t] w fun e w' => LsaOut w (ageC l t) (ageM l t) e w' := by
  have HB := Lib.hid (Below.refl w.heap.size w)
  have HL := hl.kept
  have Z0 := Lib.hid hl.le
  clear hl
  obtain ⟨r, hr⟩ : ∃ r, faultOf l = r := ⟨_, rfl⟩
  have HC : Hid (ageC l t = r) := Lib.hid (by rw [← hr]; exact ageC_1 h)
  have HM : Hid (ageM l t = zeroM) := Lib.hid (ageM_no (by rw [ageC_1 h]; exact h))
  rw [hr] at h
  have hne : (r != 0) = true := by rw [bne_iff_ne]; exact h
  have HF := Lib.hid hr
  clear hr h
  go_enter Try.func36, Try.ntmps36
  go_wp2_with fail
  refine Calls.name ?_
  intro U1 hU1
  have hb : Below w.heap.size w U1 := by rw [hU1]; exact (((Below.refl _ _).alloc (Nat.le_refl _) _).alloc (by simp <;> omega) _)
  have zz : Hid (w.heap.size + 2 = U1.heap.size) := Lib.hid (by rw [hU1]; simp)
  have HX1 : Kept w.heap.size (w.heap.size + 1) (BoxK w.heap.size 29 #[.int .i64 l.age, .int .i64 l.options, .int .i64 l.typ, .int .i64 l.id, .int .i64 l.adv, .int .i64 l.seq, .slice A n c, .slice B m d, .int .i64 l.mask, .int .i64 l.cost]) U1 := by rw [hU1]; exact Kept.box ((Box.made_at _ _ _ rfl).over _)
  have HX2 : Kept (w.heap.size + 1) (w.heap.size + 1 + 1) (BoxK (w.heap.size + 1) 36 #[.int .i64 0, .int .i64 0, .int .i64 0, .int .i64 0, .int .i64 0, .int .i64 0, .int .i64 0, .slice none 0 0, .slice none 0 0, .int .i64 0, .int .i64 0]) U1 := by rw [hU1]; exact Kept.box (Box.made_at _ _ _ (by simp <;> omega))
  replace HL := HL.below hb
  replace HB := Lib.hid (below_step HB.out hb)
  clear hb
  have Z1 := zz; clear zz
  clear hU1
  refine (lsaFault_any l q lo hi A B n c m d _ HL.lsa hn hm).mono ?_
  rw [HF.out]
  rintro e w2 ⟨rfl, hb⟩
  have Z2 := Lib.hid hb.size
  replace HL := HL.below hb
  replace HX1 := HX1.below hb
  replace HX2 := HX2.below hb
  replace HB := Lib.hid (below_step HB.out hb)
  clear hb
  have c2_0 := HX2.look 0
  have c2_1 := HX2.look 1
  have c2_2 := HX2.look 2
  have c2_3 := HX2.look 3
  have c2_4 := HX2.look 4
  have c2_5 := HX2.look 5
  have c2_6 := HX2.look 6
  have c2_7 := HX2.look 7
  have c2_8 := HX2.look 8
  have c2_9 := HX2.look 9
  have c2_10 := HX2.look 10
  have f2_0 := HX2.free 0
  have f2_1 := HX2.free 1
  have f2_2 := HX2.free 2
  have f2_3 := HX2.free 3
  have f2_4 := HX2.free 4
  have f2_5 := HX2.free 5
  have f2_6 := HX2.free 6
  have f2_7 := HX2.free 7
  have f2_8 := HX2.free 8
  have f2_9 := HX2.free 9
  have f2_10 := HX2.free 10
  have l2_0 := HX1.le
  have l2_1 := HX2.le
  go_wp2
  clear c2_0 c2_1 c2_2 c2_3 c2_4 c2_5 c2_6 c2_7 c2_8 c2_9 c2_10 f2_0 f2_1 f2_2 f2_3 f2_4 f2_5 f2_6 f2_7 f2_8 f2_9 f2_10 l2_0 l2_1
  obtain ⟨U3, hU3⟩ : ∃ W : World, W = (((((((((((w2.setCell ⟨w.heap.size + 1, 0, none⟩ (.int .i64 r)).setCell ⟨w.heap.size + 1, 1, none⟩ (.int .i64 0)).setCell ⟨w.heap.size + 1, 2, none⟩ (.int .i64 0)).setCell ⟨w.heap.size + 1, 3, none⟩ (.int .i64 0)).setCell ⟨w.heap.size + 1, 4, none⟩ (.int .i64 0)).setCell ⟨w.heap.size + 1, 5, none⟩ (.int .i64 0)).setCell ⟨w.heap.size + 1, 6, none⟩ (.int .i64 0)).setCell ⟨w.heap.size + 1, 7, none⟩ (.slice none 0 0)).setCell ⟨w.heap.size + 1, 8, none⟩ (.slice none 0 0)).setCell ⟨w.heap.size + 1, 9, none⟩ (.int .i64 0)).setCell ⟨w.heap.size + 1, 10, none⟩ (.int .i64 0)) := ⟨_, rfl⟩
  have ho : Only (w.heap.size + 1) (w.heap.size + 1 + 1) w2 U3 := by rw [hU3]; exact ((((((((((((Only.refl _ _ _).set (p := ⟨w.heap.size + 1, 0, none⟩) (Nat.le_refl _) (Nat.lt_succ_self _) _).set (p := ⟨w.heap.size + 1, 1, none⟩) (Nat.le_refl _) (Nat.lt_succ_self _) _).set (p := ⟨w.heap.size + 1, 2, none⟩) (Nat.le_refl _) (Nat.lt_succ_self _) _).set (p := ⟨w.heap.size + 1, 3, none⟩) (Nat.le_refl _) (Nat.lt_succ_self _) _).set (p := ⟨w.heap.size + 1, 4, none⟩) (Nat.le_refl _) (Nat.lt_succ_self _) _).set (p := ⟨w.heap.size + 1, 5, none⟩) (Nat.le_refl _) (Nat.lt_succ_self _) _).set (p := ⟨w.heap.size + 1, 6, none⟩) (Nat.le_refl _) (Nat.lt_succ_self _) _).set (p := ⟨w.heap.size + 1, 7, none⟩) (Nat.le_refl _) (Nat.lt_succ_self _) _).set (p := ⟨w.heap.size + 1, 8, none⟩) (Nat.le_refl _) (Nat.lt_succ_self _) _).set (p := ⟨w.heap.size + 1, 9, none⟩) (Nat.le_refl _) (Nat.lt_succ_self _) _).set (p := ⟨w.heap.size + 1, 10, none⟩) (Nat.le_refl _) (Nat.lt_succ_self _) _)
  replace HX2 : Kept (w.heap.size + 1) (w.heap.size + 1 + 1) (BoxK (w.heap.size + 1) 36 #[.int .i64 r, .int .i64 0, .int .i64 0, .int .i64 0, .int .i64 0, .int .i64 0, .int .i64 0, .slice none 0 0, .slice none 0 0, .int .i64 0, .int .i64 0]) U3 := by rw [hU3]; exact Kept.box (((((((((((HX2.bx.puts 0 (.int .i64 r) (cs' := #[.int .i64 r, .int .i64 0, .int .i64 0, .int .i64 0, .int .i64 0, .int .i64 0, .int .i64 0, .slice none 0 0, .slice none 0 0, .int .i64 0, .int .i64 0]) rfl).puts 1 (.int .i64 0) (cs' := #[.int .i64 r, .int .i64 0, .int .i64 0, .int .i64 0, .int .i64 0, .int .i64 0, .int .i64 0, .slice none 0 0, .slice none 0 0, .int .i64 0, .int .i64 0]) rfl).puts 2 (.int .i64 0) (cs' := #[.int .i64 r, .int .i64 0, .int .i64 0, .int .i64 0, .int .i64 0, .int .i64 0, .int .i64 0, .slice none 0 0, .slice none 0 0, .int .i64 0, .int .i64 0]) rfl).puts 3 (.int .i64 0) (cs' := #[.int .i64 r, .int .i64 0, .int .i64 0, .int .i64 0, .int .i64 0, .int .i64 0, .int .i64 0, .slice none 0 0, .slice none 0 0, .int .i64 0, .int .i64 0]) rfl).puts 4 (.int .i64 0) (cs' := #[.int .i64 r, .int .i64 0, .int .i64 0, .int .i64 0, .int .i64 0, .int .i64 0, .int .i64 0, .slice none 0 0, .slice none 0 0, .int .i64 0, .int .i64 0]) rfl).puts 5 (.int .i64 0) (cs' := #[.int .i64 r, .int .i64 0, .int .i64 0, .int .i64 0, .int .i64 0, .int .i64 0, .int .i64 0, .slice none 0 0, .slice none 0 0, .int .i64 0, .int .i64 0]) rfl).puts 6 (.int .i64 0) (cs' := #[.int .i64 r, .int .i64 0, .int .i64 0, .int .i64 0, .int .i64 0, .int .i64 0, .int .i64 0, .slice none 0 0, .slice none 0 0, .int .i64 0, .int .i64 0]) rfl).puts 7 (.slice none 0 0) (cs' := #[.int .i64 r, .int .i64 0, .int .i64 0, .int .i64 0, .int .i64 0, .int .i64 0, .int .i64 0, .slice none 0 0, .slice none 0 0, .int .i64 0, .int .i64 0]) rfl).puts 8 (.slice none 0 0) (cs' := #[.int .i64 r, .int .i64 0, .int .i64 0, .int .i64 0, .int .i64 0, .int .i64 0, .int .i64 0, .slice none 0 0, .slice none 0 0, .int .i64 0, .int .i64 0]) rfl).puts 9 (.int .i64 0) (cs' := #[.int .i64 r, .int .i64 0, .int .i64 0, .int .i64 0, .int .i64 0, .int .i64 0, .int .i64 0, .slice none 0 0, .slice none 0 0, .int .i64 0, .int .i64 0]) rfl).puts 10 (.int .i64 0) (cs' := #[.int .i64 r, .int .i64 0, .int .i64 0, .int .i64 0, .int .i64 0, .int .i64 0, .int .i64 0, .slice none 0 0, .slice none 0 0, .int .i64 0, .int .i64 0]) rfl)
  replace HL := HL.only ho (by have := Z0.out; have := Z1.out; have := Z2.out; omega)
  replace HX1 := HX1.only ho (by have := Z0.out; have := Z1.out; have := Z2.out; omega)
  replace HB := Lib.hid (Below.only HB.out ho (by have := Z0.out; have := Z1.out; have := Z2.out; omega) HB.out.size)
  have Z3 := Lib.hid ho.size; clear ho
  have q_0 := HX2.look 0
  have q_1 := HX2.look 1
  have q_2 := HX2.look 2
  have q_3 := HX2.look 3
  have q_4 := HX2.look 4
  have q_5 := HX2.look 5
  have q_6 := HX2.look 6
  have q_7 := HX2.look 7
  have q_8 := HX2.look 8
  have q_9 := HX2.look 9
  have q_10 := HX2.look 10
  have fin : ∀ e, e = Ending.returned (.agg (resCells r (zeroM) none none 0 0 0 0)) → (LsaOut w (ageC l t) (ageM l t) e U3) := by rintro _ rfl; exact by rw [HC.out, HM.out]; exact ⟨none, none, 0, 0, 0, 0, rfl, LsaTwo.zero _ _ (by have := Z0.out; have := Z1.out; have := Z2.out; have := Z3.out; omega), by omega, by omega, HB.out⟩
  subst hU3
  exact bodyPost_ret (v := .agg (resCells r (zeroM) none none 0 0 0 0)) (by simp [results, Try.results36, go_sem, zeroM, q_0, q_1, q_2, q_3, q_4, q_5, q_6, q_7, q_8, q_9, q_10]) rfl (fin _ rfl)

set_option maxRecDepth 100000 in
set_option maxHeartbeats 3200000 in
theorem age_2 (l : LsaM) (q : Bool) (lo hi : Nat) (A B : Option Addr) (n c m d : Nat) (t : Int) (w : World) (hl : LsaAt q lo hi w A n B m l) (hn : n ≤ 1048576) (hm : m ≤ 1048576) (h : faultOf l = 0) (h2 : t < 0) :
    Calls Try.prog 36 #[.agg (lsaCells l A B n c m d), .int .i64 t] w fun e w' => LsaOut w (ageC l t) (ageM l t) e w' := by
  have HB := Lib.hid (Below.refl w.heap.size w)
  have HL := hl.kept
  have Z0 := Lib.hid hl.le
  clear hl
  have HC : Hid (ageC l t = 3) := Lib.hid (ageC_2 h h2)
  have HM : Hid (ageM l t = zeroM) := Lib.hid (ageM_no (by rw [ageC_2 h h2]; decide))
  have HF := Lib.hid h
  clear h
  go_enter Try.func36, Try.ntmps36
  go_wp2_with fail
  refine Calls.name ?_
  intro U1 hU1
  have hb : Below w.heap.size w U1 := by rw [hU1]; exact (((Below.refl _ _).alloc (Nat.le_refl _) _).alloc (by simp <;> omega) _)
  have zz : Hid (w.heap.size + 2 = U1.heap.size) := Lib.hid (by rw [hU1]; simp)
  have HX1 : Kept w.heap.size (w.heap.size + 1) (BoxK w.heap.size 29 #[.int .i64 l.age, .int .i64 l.options, .int .i64 l.typ, .int .i64 l.id, .int .i64 l.adv, .int .i64 l.seq, .slice A n c, .slice B m d, .int .i64 l.mask, .int .i64 l.cost]) U1 := by rw [hU1]; exact Kept.box ((Box.made_at _ _ _ rfl).over _)
  have HX2 : Kept (w.heap.size + 1) (w.heap.size + 1 + 1) (BoxK (w.heap.size + 1) 36 #[.int .i64 0, .int .i64 0, .int .i64 0, .int .i64 0, .int .i64 0, .int .i64 0, .int .i64 0, .slice none 0 0, .slice none 0 0, .int .i64 0, .int .i64 0]) U1 := by rw [hU1]; exact Kept.box (Box.made_at _ _ _ (by simp <;> omega))
  replace HL := HL.below hb
  replace HB := Lib.hid (below_step HB.out hb)
  clear hb
  have Z1 := zz; clear zz
  clear hU1
  refine (lsaFault_any l q lo hi A B n c m d _ HL.lsa hn hm).mono ?_
  rw [HF.out]
  rintro e w2 ⟨rfl, hb⟩
  have Z2 := Lib.hid hb.size
  replace HL := HL.below hb
  replace HX1 := HX1.below hb
  replace HX2 := HX2.below hb
  replace HB := Lib.hid (below_step HB.out hb)
  clear hb
  have c2_0 := HX2.look 0
  have c2_1 := HX2.look 1
  have c2_2 := HX2.look 2
  have c2_3 := HX2.look 3
  have c2_4 := HX2.look 4
  have c2_5 := HX2.look 5
  have c2_6 := HX2.look 6
  have c2_7 := HX2.look 7
  have c2_8 := HX2.look 8
  have c2_9 := HX2.look 9
  have c2_10 := HX2.look 10
  have f2_0 := HX2.free 0
  have f2_1 := HX2.free 1
  have f2_2 := HX2.free 2
  have f2_3 := HX2.free 3
  have f2_4 := HX2.free 4
  have f2_5 := HX2.free 5
  have f2_6 := HX2.free 6
  have f2_7 := HX2.free 7
  have f2_8 := HX2.free 8
  have f2_9 := HX2.free 9
  have f2_10 := HX2.free 10
  have l2_0 := HX1.le
  have l2_1 := HX2.le
  go_wp2
  clear c2_0 c2_1 c2_2 c2_3 c2_4 c2_5 c2_6 c2_7 c2_8 c2_9 c2_10 f2_0 f2_1 f2_2 f2_3 f2_4 f2_5 f2_6 f2_7 f2_8 f2_9 f2_10 l2_0 l2_1
  obtain ⟨U3, hU3⟩ : ∃ W : World, W = (((((((((((w2.setCell ⟨w.heap.size + 1, 0, none⟩ (.int .i64 3)).setCell ⟨w.heap.size + 1, 1, none⟩ (.int .i64 0)).setCell ⟨w.heap.size + 1, 2, none⟩ (.int .i64 0)).setCell ⟨w.heap.size + 1, 3, none⟩ (.int .i64 0)).setCell ⟨w.heap.size + 1, 4, none⟩ (.int .i64 0)).setCell ⟨w.heap.size + 1, 5, none⟩ (.int .i64 0)).setCell ⟨w.heap.size + 1, 6, none⟩ (.int .i64 0)).setCell ⟨w.heap.size + 1, 7, none⟩ (.slice none 0 0)).setCell ⟨w.heap.size + 1, 8, none⟩ (.slice none 0 0)).setCell ⟨w.heap.size + 1, 9, none⟩ (.int .i64 0)).setCell ⟨w.heap.size + 1, 10, none⟩ (.int .i64 0)) := ⟨_, rfl⟩
  have ho : Only (w.heap.size + 1) (w.heap.size + 1 + 1) w2 U3 := by rw [hU3]; exact ((((((((((((Only.refl _ _ _).set (p := ⟨w.heap.size + 1, 0, none⟩) (Nat.le_refl _) (Nat.lt_succ_self _) _).set (p := ⟨w.heap.size + 1, 1, none⟩) (Nat.le_refl _) (Nat.lt_succ_self _) _).set (p := ⟨w.heap.size + 1, 2, none⟩) (Nat.le_refl _) (Nat.lt_succ_self _) _).set (p := ⟨w.heap.size + 1, 3, none⟩) (Nat.le_refl _) (Nat.lt_succ_self _) _).set (p := ⟨w.heap.size + 1, 4, none⟩) (Nat.le_refl _) (Nat.lt_succ_self _) _).set (p := ⟨w.heap.size + 1, 5, none⟩) (Nat.le_refl _) (Nat.lt_succ_self _) _).set (p := ⟨w.heap.size + 1, 6, none⟩) (Nat.le_refl _) (Nat.lt_succ_self _) _).set (p := ⟨w.heap.size + 1, 7, none⟩) (Nat.le_refl _) (Nat.lt_succ_self _) _).set (p := ⟨w.heap.size + 1, 8, none⟩) (Nat.le_refl _) (Nat.lt_succ_self _) _).set (p := ⟨w.heap.size + 1, 9, none⟩) (Nat.le_refl _) (Nat.lt_succ_self _) _).set (p := ⟨w.heap.size + 1, 10, none⟩) (Nat.le_refl _) (Nat.lt_succ_self _) _)
  replace HX2 : Kept (w.heap.size + 1) (w.heap.size + 1 + 1) (BoxK (w.heap.size + 1) 36 #[.int .i64 3, .int .i64 0, .int .i64 0, .int .i64 0, .int .i64 0, .int .i64 0, .int .i64 0, .slice none 0 0, .slice none 0 0, .int .i64 0, .int .i64 0]) U3 := by rw [hU3]; exact Kept.box (((((((((((HX2.bx.puts 0 (.int .i64 3) (cs' := #[.int .i64 3, .int .i64 0, .int .i64 0, .int .i64 0, .int .i64 0, .int .i64 0, .int .i64 0, .slice none 0 0, .slice none 0 0, .int .i64 0, .int .i64 0]) rfl).puts 1 (.int .i64 0) (cs' := #[.int .i64 3, .int .i64 0, .int .i64 0, .int .i64 0, .int .i64 0, .int .i64 0, .int .i64 0, .slice none 0 0, .slice none 0 0, .int .i64 0, .int .i64 0]) rfl).puts 2 (.int .i64 0) (cs' := #[.int .i64 3, .int .i64 0, .int .i64 0, .int .i64 0, .int .i64 0, .int .i64 0, .int .i64 0, .slice none 0 0, .slice none 0 0, .int .i64 0, .int .i64 0]) rfl).puts 3 (.int .i64 0) (cs' := #[.int .i64 3, .int .i64 0, .int .i64 0, .int .i64 0, .int .i64 0, .int .i64 0, .int .i64 0, .slice none 0 0, .slice none 0 0, .int .i64 0, .int .i64 0]) rfl).puts 4 (.int .i64 0) (cs' := #[.int .i64 3, .int .i64 0, .int .i64 0, .int .i64 0, .int .i64 0, .int .i64 0, .int .i64 0, .slice none 0 0, .slice none 0 0, .int .i64 0, .int .i64 0]) rfl).puts 5 (.int .i64 0) (cs' := #[.int .i64 3, .int .i64 0, .int .i64 0, .int .i64 0, .int .i64 0, .int .i64 0, .int .i64 0, .slice none 0 0, .slice none 0 0, .int .i64 0, .int .i64 0]) rfl).puts 6 (.int .i64 0) (cs' := #[.int .i64 3, .int .i64 0, .int .i64 0, .int .i64 0, .int .i64 0, .int .i64 0, .int .i64 0, .slice none 0 0, .slice none 0 0, .int .i64 0, .int .i64 0]) rfl).puts 7 (.slice none 0 0) (cs' := #[.int .i64 3, .int .i64 0, .int .i64 0, .int .i64 0, .int .i64 0, .int .i64 0, .int .i64 0, .slice none 0 0, .slice none 0 0, .int .i64 0, .int .i64 0]) rfl).puts 8 (.slice none 0 0) (cs' := #[.int .i64 3, .int .i64 0, .int .i64 0, .int .i64 0, .int .i64 0, .int .i64 0, .int .i64 0, .slice none 0 0, .slice none 0 0, .int .i64 0, .int .i64 0]) rfl).puts 9 (.int .i64 0) (cs' := #[.int .i64 3, .int .i64 0, .int .i64 0, .int .i64 0, .int .i64 0, .int .i64 0, .int .i64 0, .slice none 0 0, .slice none 0 0, .int .i64 0, .int .i64 0]) rfl).puts 10 (.int .i64 0) (cs' := #[.int .i64 3, .int .i64 0, .int .i64 0, .int .i64 0, .int .i64 0, .int .i64 0, .int .i64 0, .slice none 0 0, .slice none 0 0, .int .i64 0, .int .i64 0]) rfl)
  replace HL := HL.only ho (by have := Z0.out; have := Z1.out; have := Z2.out; omega)
  replace HX1 := HX1.only ho (by have := Z0.out; have := Z1.out; have := Z2.out; omega)
  replace HB := Lib.hid (Below.only HB.out ho (by have := Z0.out; have := Z1.out; have := Z2.out; omega) HB.out.size)
  have Z3 := Lib.hid ho.size; clear ho
  have q_0 := HX2.look 0
  have q_1 := HX2.look 1
  have q_2 := HX2.look 2
  have q_3 := HX2.look 3
  have q_4 := HX2.look 4
  have q_5 := HX2.look 5
  have q_6 := HX2.look 6
  have q_7 := HX2.look 7
  have q_8 := HX2.look 8
  have q_9 := HX2.look 9
  have q_10 := HX2.look 10
  have fin : ∀ e, e = Ending.returned (.agg (resCells 3 (zeroM) none none 0 0 0 0)) → (LsaOut w (ageC l t) (ageM l t) e U3) := by rintro _ rfl; exact by rw [HC.out, HM.out]; exact ⟨none, none, 0, 0, 0, 0, rfl, LsaTwo.zero _ _ (by have := Z0.out; have := Z1.out; have := Z2.out; have := Z3.out; omega), by omega, by omega, HB.out⟩
  subst hU3
  exact bodyPost_ret (v := .agg (resCells 3 (zeroM) none none 0 0 0 0)) (by simp [results, Try.results36, go_sem, zeroM, q_0, q_1, q_2, q_3, q_4, q_5, q_6, q_7, q_8, q_9, q_10]) rfl (fin _ rfl)

set_option maxRecDepth 100000 in
set_option maxHeartbeats 3200000 in
theorem age_3 (l : LsaM) (q : Bool) (lo hi : Nat) (A B : Option Addr) (n c m d : Nat) (t : Int) (w : World) (hl : LsaAt q lo hi w A n B m l) (hn : n ≤ 1048576) (hm : m ≤ 1048576) (h : faultOf l = 0) (h2 : ¬ t < 0) :
    Calls Try.prog 36 #[.agg (lsaCells l A B n c m d), .int .i64 t] w fun e w' => LsaOut w (ageC l t) (ageM l t) e w' := by
  have HB := Lib.hid (Below.refl w.heap.size w)
  have HL := hl.kept
  have Z0 := Lib.hid hl.le
  clear hl
  have HC : Hid (ageC l t = 0) := Lib.hid (ageC_3 h h2)
  have HM : Hid (ageM l t = { l with age := min (l.age + min t 3600) 3600 }) := Lib.hid (ageM_yes HC.out)
  have HF := Lib.hid h
  have HS := Lib.hid (sound_of l h)
  have hs1 : 0 ≤ l.age ∧ l.age ≤ 3600 := HS.out.age
  obtain ⟨hs1, hs2⟩ := hs1
  clear h
  obtain ⟨z, hz⟩ : ∃ z, l.age + min t (3600 - l.age) = z := ⟨_, rfl⟩
  have HZ := Lib.hid hz
  have HM2 : Hid (min (l.age + min t 3600) 3600 = z) := Lib.hid (by omega)
  clear hz
  rw [HM2.out] at HM
  go_enter Try.func36, Try.ntmps36
  go_wp2_with fail
  refine Calls.name ?_
  intro U1 hU1
  have hb : Below w.heap.size w U1 := by rw [hU1]; exact (((Below.refl _ _).alloc (Nat.le_refl _) _).alloc (by simp <;> omega) _)
  have zz : Hid (w.heap.size + 2 = U1.heap.size) := Lib.hid (by rw [hU1]; simp)
  have HX1 : Kept w.heap.size (w.heap.size + 1) (BoxK w.heap.size 29 #[.int .i64 l.age, .int .i64 l.options, .int .i64 l.typ, .int .i64 l.id, .int .i64 l.adv, .int .i64 l.seq, .slice A n c, .slice B m d, .int .i64 l.mask, .int .i64 l.cost]) U1 := by rw [hU1]; exact Kept.box ((Box.made_at _ _ _ rfl).over _)
  have HX2 : Kept (w.heap.size + 1) (w.heap.size + 1 + 1) (BoxK (w.heap.size + 1) 36 #[.int .i64 0, .int .i64 0, .int .i64 0, .int .i64 0, .int .i64 0, .int .i64 0, .int .i64 0, .slice none 0 0, .slice none 0 0, .int .i64 0, .int .i64 0]) U1 := by rw [hU1]; exact Kept.box (Box.made_at _ _ _ (by simp <;> omega))
  replace HL := HL.below hb
  replace HB := Lib.hid (below_step HB.out hb)
  clear hb
  have Z1 := zz; clear zz
  clear hU1
  refine (lsaFault_any l q lo hi A B n c m d _ HL.lsa hn hm).mono ?_
  rw [HF.out]
  rintro e w2 ⟨rfl, hb⟩
  have Z2 := Lib.hid hb.size
  replace HL := HL.below hb
  replace HX1 := HX1.below hb
  replace HX2 := HX2.below hb
  replace HB := Lib.hid (below_step HB.out hb)
  clear hb
  have c2_0 := HX1.look 0
  have c2_1 := HX1.look 1
  have c2_2 := HX1.look 2
  have c2_3 := HX1.look 3
  have c2_4 := HX1.look 4
  have c2_5 := HX1.look 5
  have c2_6 := HX1.look 6
  have c2_7 := HX1.look 7
  have c2_8 := HX1.look 8
  have c2_9 := HX1.look 9
  have l2_0 := HX1.le
  have l2_1 := HX2.le
  go_wp2_with fail
  clear c2_0 c2_1 c2_2 c2_3 c2_4 c2_5 c2_6 c2_7 c2_8 c2_9 l2_0 l2_1
  rw [HZ.out]
  refine (withAge_any l q lo hi A B n c m d z _ HL.lsa hn hm).mono ?_
  rintro e w3 ⟨A', B', c', d', rfl, ht, hb⟩
  have Z3 := Lib.hid hb.size
  replace HL := HL.below hb
  replace HX1 := HX1.below hb
  replace HX2 := HX2.below hb
  replace HB := Lib.hid (below_step HB.out hb)
  clear hb
  have HT := ht.kept; clear ht
  have c3_0 := HX2.look 0
  have c3_1 := HX2.look 1
  have c3_2 := HX2.look 2
  have c3_3 := HX2.look 3
  have c3_4 := HX2.look 4
  have c3_5 := HX2.look 5
  have c3_6 := HX2.look 6
  have c3_7 := HX2.look 7
  have c3_8 := HX2.look 8
  have c3_9 := HX2.look 9
  have c3_10 := HX2.look 10
  have f3_0 := HX2.free 0
  have f3_1 := HX2.free 1
  have f3_2 := HX2.free 2
  have f3_3 := HX2.free 3
  have f3_4 := HX2.free 4
  have f3_5 := HX2.free 5
  have f3_6 := HX2.free 6
  have f3_7 := HX2.free 7
  have f3_8 := HX2.free 8
  have f3_9 := HX2.free 9
  have f3_10 := HX2.free 10
  have l3_0 := HX1.le
  have l3_1 := HX2.le
  go_wp2
  clear c3_0 c3_1 c3_2 c3_3 c3_4 c3_5 c3_6 c3_7 c3_8 c3_9 c3_10 f3_0 f3_1 f3_2 f3_3 f3_4 f3_5 f3_6 f3_7 f3_8 f3_9 f3_10 l3_0 l3_1
  obtain ⟨U4, hU4⟩ : ∃ W : World, W = (((((((((((w3.setCell ⟨w.heap.size + 1, 0, none⟩ (.int .i64 0)).setCell ⟨w.heap.size + 1, 1, none⟩ (.int .i64 (z))).setCell ⟨w.heap.size + 1, 2, none⟩ (.int .i64 (l.options))).setCell ⟨w.heap.size + 1, 3, none⟩ (.int .i64 (l.typ))).setCell ⟨w.heap.size + 1, 4, none⟩ (.int .i64 (l.id))).setCell ⟨w.heap.size + 1, 5, none⟩ (.int .i64 (l.adv))).setCell ⟨w.heap.size + 1, 6, none⟩ (.int .i64 (l.seq))).setCell ⟨w.heap.size + 1, 7, none⟩ (.slice A' n c')).setCell ⟨w.heap.size + 1, 8, none⟩ (.slice B' m d')).setCell ⟨w.heap.size + 1, 9, none⟩ (.int .i64 (l.mask))).setCell ⟨w.heap.size + 1, 10, none⟩ (.int .i64 (l.cost))) := ⟨_, rfl⟩
  have ho : Only (w.heap.size + 1) (w.heap.size + 1 + 1) w3 U4 := by rw [hU4]; exact ((((((((((((Only.refl _ _ _).set (p := ⟨w.heap.size + 1, 0, none⟩) (Nat.le_refl _) (Nat.lt_succ_self _) _).set (p := ⟨w.heap.size + 1, 1, none⟩) (Nat.le_refl _) (Nat.lt_succ_self _) _).set (p := ⟨w.heap.size + 1, 2, none⟩) (Nat.le_refl _) (Nat.lt_succ_self _) _).set (p := ⟨w.heap.size + 1, 3, none⟩) (Nat.le_refl _) (Nat.lt_succ_self _) _).set (p := ⟨w.heap.size + 1, 4, none⟩) (Nat.le_refl _) (Nat.lt_succ_self _) _).set (p := ⟨w.heap.size + 1, 5, none⟩) (Nat.le_refl _) (Nat.lt_succ_self _) _).set (p := ⟨w.heap.size + 1, 6, none⟩) (Nat.le_refl _) (Nat.lt_succ_self _) _).set (p := ⟨w.heap.size + 1, 7, none⟩) (Nat.le_refl _) (Nat.lt_succ_self _) _).set (p := ⟨w.heap.size + 1, 8, none⟩) (Nat.le_refl _) (Nat.lt_succ_self _) _).set (p := ⟨w.heap.size + 1, 9, none⟩) (Nat.le_refl _) (Nat.lt_succ_self _) _).set (p := ⟨w.heap.size + 1, 10, none⟩) (Nat.le_refl _) (Nat.lt_succ_self _) _)
  replace HX2 : Kept (w.heap.size + 1) (w.heap.size + 1 + 1) (BoxK (w.heap.size + 1) 36 #[.int .i64 0, .int .i64 (z), .int .i64 (l.options), .int .i64 (l.typ), .int .i64 (l.id), .int .i64 (l.adv), .int .i64 (l.seq), .slice A' n c', .slice B' m d', .int .i64 (l.mask), .int .i64 (l.cost)]) U4 := by rw [hU4]; exact Kept.box (((((((((((HX2.bx.puts 0 (.int .i64 0) (cs' := #[.int .i64 0, .int .i64 0, .int .i64 0, .int .i64 0, .int .i64 0, .int .i64 0, .int .i64 0, .slice none 0 0, .slice none 0 0, .int .i64 0, .int .i64 0]) rfl).puts 1 (.int .i64 (z)) (cs' := #[.int .i64 0, .int .i64 (z), .int .i64 0, .int .i64 0, .int .i64 0, .int .i64 0, .int .i64 0, .slice none 0 0, .slice none 0 0, .int .i64 0, .int .i64 0]) rfl).puts 2 (.int .i64 (l.options)) (cs' := #[.int .i64 0, .int .i64 (z), .int .i64 (l.options), .int .i64 0, .int .i64 0, .int .i64 0, .int .i64 0, .slice none 0 0, .slice none 0 0, .int .i64 0, .int .i64 0]) rfl).puts 3 (.int .i64 (l.typ)) (cs' := #[.int .i64 0, .int .i64 (z), .int .i64 (l.options), .int .i64 (l.typ), .int .i64 0, .int .i64 0, .int .i64 0, .slice none 0 0, .slice none 0 0, .int .i64 0, .int .i64 0]) rfl).puts 4 (.int .i64 (l.id)) (cs' := #[.int .i64 0, .int .i64 (z), .int .i64 (l.options), .int .i64 (l.typ), .int .i64 (l.id), .int .i64 0, .int .i64 0, .slice none 0 0, .slice none 0 0, .int .i64 0, .int .i64 0]) rfl).puts 5 (.int .i64 (l.adv)) (cs' := #[.int .i64 0, .int .i64 (z), .int .i64 (l.options), .int .i64 (l.typ), .int .i64 (l.id), .int .i64 (l.adv), .int .i64 0, .slice none 0 0, .slice none 0 0, .int .i64 0, .int .i64 0]) rfl).puts 6 (.int .i64 (l.seq)) (cs' := #[.int .i64 0, .int .i64 (z), .int .i64 (l.options), .int .i64 (l.typ), .int .i64 (l.id), .int .i64 (l.adv), .int .i64 (l.seq), .slice none 0 0, .slice none 0 0, .int .i64 0, .int .i64 0]) rfl).puts 7 (.slice A' n c') (cs' := #[.int .i64 0, .int .i64 (z), .int .i64 (l.options), .int .i64 (l.typ), .int .i64 (l.id), .int .i64 (l.adv), .int .i64 (l.seq), .slice A' n c', .slice none 0 0, .int .i64 0, .int .i64 0]) rfl).puts 8 (.slice B' m d') (cs' := #[.int .i64 0, .int .i64 (z), .int .i64 (l.options), .int .i64 (l.typ), .int .i64 (l.id), .int .i64 (l.adv), .int .i64 (l.seq), .slice A' n c', .slice B' m d', .int .i64 0, .int .i64 0]) rfl).puts 9 (.int .i64 (l.mask)) (cs' := #[.int .i64 0, .int .i64 (z), .int .i64 (l.options), .int .i64 (l.typ), .int .i64 (l.id), .int .i64 (l.adv), .int .i64 (l.seq), .slice A' n c', .slice B' m d', .int .i64 (l.mask), .int .i64 0]) rfl).puts 10 (.int .i64 (l.cost)) (cs' := #[.int .i64 0, .int .i64 (z), .int .i64 (l.options), .int .i64 (l.typ), .int .i64 (l.id), .int .i64 (l.adv), .int .i64 (l.seq), .slice A' n c', .slice B' m d', .int .i64 (l.mask), .int .i64 (l.cost)]) rfl)
  replace HL := HL.only ho (by have := Z0.out; have := Z1.out; have := Z2.out; have := Z3.out; omega)
  replace HX1 := HX1.only ho (by have := Z0.out; have := Z1.out; have := Z2.out; have := Z3.out; omega)
  replace HT := HT.only ho (by have := Z0.out; have := Z1.out; have := Z2.out; have := Z3.out; omega)
  replace HB := Lib.hid (Below.only HB.out ho (by have := Z0.out; have := Z1.out; have := Z2.out; have := Z3.out; omega) HB.out.size)
  have Z4 := Lib.hid ho.size; clear ho
  have q_0 := HX2.look 0
  have q_1 := HX2.look 1
  have q_2 := HX2.look 2
  have q_3 := HX2.look 3
  have q_4 := HX2.look 4
  have q_5 := HX2.look 5
  have q_6 := HX2.look 6
  have q_7 := HX2.look 7
  have q_8 := HX2.look 8
  have q_9 := HX2.look 9
  have q_10 := HX2.look 10
  have fin : ∀ e, e = Ending.returned (.agg (resCells 0 ({ l with age := z }) A' B' n c' m d')) → (LsaOut w (ageC l t) (ageM l t) e U4) := by rintro _ rfl; exact by rw [HC.out, HM.out]; exact ⟨A', B', n, c', m, d', rfl, LsaTwo.mono (lo' := w.heap.size) (hi' := U4.heap.size) HT.two (by have := Z0.out; have := Z1.out; have := Z2.out; have := Z3.out; have := Z4.out; omega) (by have := Z0.out; have := Z1.out; have := Z2.out; have := Z3.out; have := Z4.out; omega) (Nat.le_refl _), hn, hm, HB.out⟩
  subst hU4
  exact bodyPost_ret (v := .agg (resCells 0 ({ l with age := z }) A' B' n c' m d')) (by simp [results, Try.results36, go_sem, q_0, q_1, q_2, q_3, q_4, q_5, q_6, q_7, q_8, q_9, q_10]) rfl (fin _ rfl)

theorem age_any (l : LsaM) (q : Bool) (lo hi : Nat) (A B : Option Addr) (n c m d : Nat) (t : Int) (w : World) (hl : LsaAt q lo hi w A n B m l) (hn : n ≤ 1048576) (hm : m ≤ 1048576) :
    Calls Try.prog 36 #[.agg (lsaCells l A B n c m d), .int .i64 t] w (LsaOut w (ageC l t) (ageM l t)) := by
  by_cases h : faultOf l = 0
  · by_cases h2 : t < 0
    · exact age_2 l q lo hi A B n c m d t w hl hn hm h h2
    · exact age_3 l q lo hi A B n c m d t w hl hn hm h h2
  · exact age_1 l q lo hi A B n c m d t w hl hn hm h

set_option maxRecDepth 100000 in
set_option maxHeartbeats 3200000 in
theorem flush_1 (l : LsaM) (q : Bool) (lo hi : Nat) (A B : Option Addr) (n c m d : Nat) (w : World) (hl : LsaAt q lo hi w A n B m l) (hn : n ≤ 1048576) (hm : m ≤ 1048576) (h : ¬ faultOf l = 0) :
    Calls Try.prog 34 #[.agg (lsaCells l A B n c m d)] w fun e w' => LsaOut w (ageC l 3600) (ageM l 3600) e w' := by
  have HB := Lib.hid (Below.refl w.heap.size w)
  have HL := hl.kept
  have Z0 := Lib.hid hl.le
  clear hl
  obtain ⟨r, hr⟩ : ∃ r, faultOf l = r := ⟨_, rfl⟩
  have HC : Hid (ageC l 3600 = r) := Lib.hid (by rw [← hr]; exact ageC_1 h)
  have HM : Hid (ageM l 3600 = zeroM) := Lib.hid (ageM_no (by rw [ageC_1 h]; exact h))
  rw [hr] at h
  have hne : (r != 0) = true := by rw [bne_iff_ne]; exact h
  have HF := Lib.hid hr
  clear hr h
  go_enter Try.func34, Try.ntmps34
  go_wp2_with fail
  refine Calls.name ?_
  intro U1 hU1
  have hb : Below w.heap.size w U1 := by rw [hU1]; exact (((Below.refl _ _).alloc (Nat.le_refl _) _).alloc (by simp <;> omega) _)
  have zz : Hid (w.heap.size + 2 = U1.heap.size) := Lib.hid (by rw [hU1]; simp)
  have HX1 : Kept w.heap.size (w.heap.size + 1) (BoxK w.heap.size 29 #[.int .i64 l.age, .int .i64 l.options, .int .i64 l.typ, .int .i64 l.id, .int .i64 l.adv, .int .i64 l.seq, .slice A n c, .slice B m d, .int .i64 l.mask, .int .i64 l.cost]) U1 := by rw [hU1]; exact Kept.box ((Box.made_at _ _ _ rfl).over _)
  have HX2 : Kept (w.heap.size + 1) (w.heap.size + 1 + 1) (BoxK (w.heap.size + 1) 36 #[.int .i64 0, .int .i64 0, .int .i64 0, .int .i64 0, .int .i64 0, .int .i64 0, .int .i64 0, .slice none 0 0, .slice none 0 0, .int .i64 0, .int .i64 0]) U1 := by rw [hU1]; exact Kept.box (Box.made_at _ _ _ (by simp <;> omega))
  replace HL := HL.below hb
  replace HB := Lib.hid (below_step HB.out hb)
  clear hb
  have Z1 := zz; clear zz
  clear hU1
  refine (lsaFault_any l q lo hi A B n c m d _ HL.lsa hn hm).mono ?_
  rw [HF.out]
  rintro e w2 ⟨rfl, hb⟩
  have Z2 := Lib.hid hb.size
  replace HL := HL.below hb
  replace HX1 := HX1.below hb
  replace HX2 := HX2.below hb
  replace HB := Lib.hid (below_step HB.out hb)
  clear hb
  have c2_0 := HX2.look 0
  have c2_1 := HX2.look 1
  have c2_2 := HX2.look 2
  have c2_3 := HX2.look 3
  have c2_4 := HX2.look 4
  have c2_5 := HX2.look 5
  have c2_6 := HX2.look 6
  have c2_7 := HX2.look 7
  have c2_8 := HX2.look 8
  have c2_9 := HX2.look 9
  have c2_10 := HX2.look 10
  have f2_0 := HX2.free 0
  have f2_1 := HX2.free 1
  have f2_2 := HX2.free 2
  have f2_3 := HX2.free 3
  have f2_4 := HX2.free 4
  have f2_5 := HX2.free 5
  have f2_6 := HX2.free 6
  have f2_7 := HX2.free 7
  have f2_8 := HX2.free 8
  have f2_9 := HX2.free 9
  have f2_10 := HX2.free 10
  have l2_0 := HX1.le
  have l2_1 := HX2.le
  go_wp2
  clear c2_0 c2_1 c2_2 c2_3 c2_4 c2_5 c2_6 c2_7 c2_8 c2_9 c2_10 f2_0 f2_1 f2_2 f2_3 f2_4 f2_5 f2_6 f2_7 f2_8 f2_9 f2_10 l2_0 l2_1
  obtain ⟨U3, hU3⟩ : ∃ W : World, W = (((((((((((w2.setCell ⟨w.heap.size + 1, 0, none⟩ (.int .i64 r)).setCell ⟨w.heap.size + 1, 1, none⟩ (.int .i64 0)).setCell ⟨w.heap.size + 1, 2, none⟩ (.int .i64 0)).setCell ⟨w.heap.size + 1, 3, none⟩ (.int .i64 0)).setCell ⟨w.heap.size + 1, 4, none⟩ (.int .i64 0)).setCell ⟨w.heap.size + 1, 5, none⟩ (.int .i64 0)).setCell ⟨w.heap.size + 1, 6, none⟩ (.int .i64 0)).setCell ⟨w.heap.size + 1, 7, none⟩ (.slice none 0 0)).setCell ⟨w.heap.size + 1, 8, none⟩ (.slice none 0 0)).setCell ⟨w.heap.size + 1, 9, none⟩ (.int .i64 0)).setCell ⟨w.heap.size + 1, 10, none⟩ (.int .i64 0)) := ⟨_, rfl⟩
  have ho : Only (w.heap.size + 1) (w.heap.size + 1 + 1) w2 U3 := by rw [hU3]; exact ((((((((((((Only.refl _ _ _).set (p := ⟨w.heap.size + 1, 0, none⟩) (Nat.le_refl _) (Nat.lt_succ_self _) _).set (p := ⟨w.heap.size + 1, 1, none⟩) (Nat.le_refl _) (Nat.lt_succ_self _) _).set (p := ⟨w.heap.size + 1, 2, none⟩) (Nat.le_refl _) (Nat.lt_succ_self _) _).set (p := ⟨w.heap.size + 1, 3, none⟩) (Nat.le_refl _) (Nat.lt_succ_self _) _).set (p := ⟨w.heap.size + 1, 4, none⟩) (Nat.le_refl _) (Nat.lt_succ_self _) _).set (p := ⟨w.heap.size + 1, 5, none⟩) (Nat.le_refl _) (Nat.lt_succ_self _) _).set (p := ⟨w.heap.size + 1, 6, none⟩) (Nat.le_refl _) (Nat.lt_succ_self _) _).set (p := ⟨w.heap.size + 1, 7, none⟩) (Nat.le_refl _) (Nat.lt_succ_self _) _).set (p := ⟨w.heap.size + 1, 8, none⟩) (Nat.le_refl _) (Nat.lt_succ_self _) _).set (p := ⟨w.heap.size + 1, 9, none⟩) (Nat.le_refl _) (Nat.lt_succ_self _) _).set (p := ⟨w.heap.size + 1, 10, none⟩) (Nat.le_refl _) (Nat.lt_succ_self _) _)
  replace HX2 : Kept (w.heap.size + 1) (w.heap.size + 1 + 1) (BoxK (w.heap.size + 1) 36 #[.int .i64 r, .int .i64 0, .int .i64 0, .int .i64 0, .int .i64 0, .int .i64 0, .int .i64 0, .slice none 0 0, .slice none 0 0, .int .i64 0, .int .i64 0]) U3 := by rw [hU3]; exact Kept.box (((((((((((HX2.bx.puts 0 (.int .i64 r) (cs' := #[.int .i64 r, .int .i64 0, .int .i64 0, .int .i64 0, .int .i64 0, .int .i64 0, .int .i64 0, .slice none 0 0, .slice none 0 0, .int .i64 0, .int .i64 0]) rfl).puts 1 (.int .i64 0) (cs' := #[.int .i64 r, .int .i64 0, .int .i64 0, .int .i64 0, .int .i64 0, .int .i64 0, .int .i64 0, .slice none 0 0, .slice none 0 0, .int .i64 0, .int .i64 0]) rfl).puts 2 (.int .i64 0) (cs' := #[.int .i64 r, .int .i64 0, .int .i64 0, .int .i64 0, .int .i64 0, .int .i64 0, .int .i64 0, .slice none 0 0, .slice none 0 0, .int .i64 0, .int .i64 0]) rfl).puts 3 (.int .i64 0) (cs' := #[.int .i64 r, .int .i64 0, .int .i64 0, .int .i64 0, .int .i64 0, .int .i64 0, .int .i64 0, .slice none 0 0, .slice none 0 0, .int .i64 0, .int .i64 0]) rfl).puts 4 (.int .i64 0) (cs' := #[.int .i64 r, .int .i64 0, .int .i64 0, .int .i64 0, .int .i64 0, .int .i64 0, .int .i64 0, .slice none 0 0, .slice none 0 0, .int .i64 0, .int .i64 0]) rfl).puts 5 (.int .i64 0) (cs' := #[.int .i64 r, .int .i64 0, .int .i64 0, .int .i64 0, .int .i64 0, .int .i64 0, .int .i64 0, .slice none 0 0, .slice none 0 0, .int .i64 0, .int .i64 0]) rfl).puts 6 (.int .i64 0) (cs' := #[.int .i64 r, .int .i64 0, .int .i64 0, .int .i64 0, .int .i64 0, .int .i64 0, .int .i64 0, .slice none 0 0, .slice none 0 0, .int .i64 0, .int .i64 0]) rfl).puts 7 (.slice none 0 0) (cs' := #[.int .i64 r, .int .i64 0, .int .i64 0, .int .i64 0, .int .i64 0, .int .i64 0, .int .i64 0, .slice none 0 0, .slice none 0 0, .int .i64 0, .int .i64 0]) rfl).puts 8 (.slice none 0 0) (cs' := #[.int .i64 r, .int .i64 0, .int .i64 0, .int .i64 0, .int .i64 0, .int .i64 0, .int .i64 0, .slice none 0 0, .slice none 0 0, .int .i64 0, .int .i64 0]) rfl).puts 9 (.int .i64 0) (cs' := #[.int .i64 r, .int .i64 0, .int .i64 0, .int .i64 0, .int .i64 0, .int .i64 0, .int .i64 0, .slice none 0 0, .slice none 0 0, .int .i64 0, .int .i64 0]) rfl).puts 10 (.int .i64 0) (cs' := #[.int .i64 r, .int .i64 0, .int .i64 0, .int .i64 0, .int .i64 0, .int .i64 0, .int .i64 0, .slice none 0 0, .slice none 0 0, .int .i64 0, .int .i64 0]) rfl)
  replace HL := HL.only ho (by have := Z0.out; have := Z1.out; have := Z2.out; omega)
  replace HX1 := HX1.only ho (by have := Z0.out; have := Z1.out; have := Z2.out; omega)
  replace HB := Lib.hid (Below.only HB.out ho (by have := Z0.out; have := Z1.out; have := Z2.out; omega) HB.out.size)
  have Z3 := Lib.hid ho.size; clear ho
  have q_0 := HX2.look 0
  have q_1 := HX2.look 1
  have q_2 := HX2.look 2
  have q_3 := HX2.look 3
  have q_4 := HX2.look 4
  have q_5 := HX2.look 5
  have q_6 := HX2.look 6
  have q_7 := HX2.look 7
  have q_8 := HX2.look 8
  have q_9 := HX2.look 9
  have q_10 := HX2.look 10
  have fin : ∀ e, e = Ending.returned (.agg (resCells r (zeroM) none none 0 0 0 0)) → (LsaOut w (ageC l 3600) (ageM l 3600) e U3) := by rintro _ rfl; exact by rw [HC.out, HM.out]; exact ⟨none, none, 0, 0, 0, 0, rfl, LsaTwo.zero _ _ (by have := Z0.out; have := Z1.out; have := Z2.out; have := Z3.out; omega), by omega, by omega, HB.out⟩
  subst hU3
  exact bodyPost_ret (v := .agg (resCells r (zeroM) none none 0 0 0 0)) (by simp [results, Try.results34, go_sem, zeroM, q_0, q_1, q_2, q_3, q_4, q_5, q_6, q_7, q_8, q_9, q_10]) rfl (fin _ rfl)

set_option maxRecDepth 100000 in
set_option maxHeartbeats 3200000 in
theorem flush_3 (l : LsaM) (q : Bool) (lo hi : Nat) (A B : Option Addr) (n c m d : Nat) (w : World) (hl : LsaAt q lo hi w A n B m l) (hn : n ≤ 1048576) (hm : m ≤ 1048576) (h : faultOf l = 0) :
    Calls Try.prog 34 #[.agg (lsaCells l A B n c m d)] w fun e w' => LsaOut w (ageC l 3600) (ageM l 3600) e w' := by
  have HB := Lib.hid (Below.refl w.heap.size w)
  have HL := hl.kept
  have Z0 := Lib.hid hl.le
  clear hl
  have HC : Hid (ageC l 3600 = 0) := Lib.hid (ageC_3 h (by decide))
  have HM : Hid (ageM l 3600 = { l with age := min (l.age + min 3600 3600) 3600 }) := Lib.hid (ageM_yes HC.out)
  have HF := Lib.hid h
  have HS := Lib.hid (sound_of l h)
  have hs1 : 0 ≤ l.age ∧ l.age ≤ 3600 := HS.out.age
  obtain ⟨hs1, hs2⟩ := hs1
  clear h
  have HM2 : Hid (min (l.age + min 3600 3600) 3600 = 3600) := Lib.hid (by omega)
  rw [HM2.out] at HM
  go_enter Try.func34, Try.ntmps34
  go_wp2_with fail
  refine Calls.name ?_
  intro U1 hU1
  have hb : Below w.heap.size w U1 := by rw [hU1]; exact (((Below.refl _ _).alloc (Nat.le_refl _) _).alloc (by simp <;> omega) _)
  have zz : Hid (w.heap.size + 2 = U1.heap.size) := Lib.hid (by rw [hU1]; simp)
  have HX1 : Kept w.heap.size (w.heap.size + 1) (BoxK w.heap.size 29 #[.int .i64 l.age, .int .i64 l.options, .int .i64 l.typ, .int .i64 l.id, .int .i64 l.adv, .int .i64 l.seq, .slice A n c, .slice B m d, .int .i64 l.mask, .int .i64 l.cost]) U1 := by rw [hU1]; exact Kept.box ((Box.made_at _ _ _ rfl).over _)
  have HX2 : Kept (w.heap.size + 1) (w.heap.size + 1 + 1) (BoxK (w.heap.size + 1) 36 #[.int .i64 0, .int .i64 0, .int .i64 0, .int .i64 0, .int .i64 0, .int .i64 0, .int .i64 0, .slice none 0 0, .slice none 0 0, .int .i64 0, .int .i64 0]) U1 := by rw [hU1]; exact Kept.box (Box.made_at _ _ _ (by simp <;> omega))
  replace HL := HL.below hb
  replace HB := Lib.hid (below_step HB.out hb)
  clear hb
  have Z1 := zz; clear zz
  clear hU1
  refine (lsaFault_any l q lo hi A B n c m d _ HL.lsa hn hm).mono ?_
  rw [HF.out]
  rintro e w2 ⟨rfl, hb⟩
  have Z2 := Lib.hid hb.size
  replace HL := HL.below hb
  replace HX1 := HX1.below hb
  replace HX2 := HX2.below hb
  replace HB := Lib.hid (below_step HB.out hb)
  clear hb
  have c2_0 := HX1.look 0
  have c2_1 := HX1.look 1
  have c2_2 := HX1.look 2
  have c2_3 := HX1.look 3
  have c2_4 := HX1.look 4
  have c2_5 := HX1.look 5
  have c2_6 := HX1.look 6
  have c2_7 := HX1.look 7
  have c2_8 := HX1.look 8
  have c2_9 := HX1.look 9
  have l2_0 := HX1.le
  have l2_1 := HX2.le
  go_wp2_with fail
  clear c2_0 c2_1 c2_2 c2_3 c2_4 c2_5 c2_6 c2_7 c2_8 c2_9 l2_0 l2_1
  refine (withAge_any l q lo hi A B n c m d 3600 _ HL.lsa hn hm).mono ?_
  rintro e w3 ⟨A', B', c', d', rfl, ht, hb⟩
  have Z3 := Lib.hid hb.size
  replace HL := HL.below hb
  replace HX1 := HX1.below hb
  replace HX2 := HX2.below hb
  replace HB := Lib.hid (below_step HB.out hb)
  clear hb
  have HT := ht.kept; clear ht
  have c3_0 := HX2.look 0
  have c3_1 := HX2.look 1
  have c3_2 := HX2.look 2
  have c3_3 := HX2.look 3
  have c3_4 := HX2.look 4
  have c3_5 := HX2.look 5
  have c3_6 := HX2.look 6
  have c3_7 := HX2.look 7
  have c3_8 := HX2.look 8
  have c3_9 := HX2.look 9
  have c3_10 := HX2.look 10
  have f3_0 := HX2.free 0
  have f3_1 := HX2.free 1
  have f3_2 := HX2.free 2
  have f3_3 := HX2.free 3
  have f3_4 := HX2.free 4
  have f3_5 := HX2.free 5
  have f3_6 := HX2.free 6
  have f3_7 := HX2.free 7
  have f3_8 := HX2.free 8
  have f3_9 := HX2.free 9
  have f3_10 := HX2.free 10
  have l3_0 := HX1.le
  have l3_1 := HX2.le
  go_wp2
  clear c3_0 c3_1 c3_2 c3_3 c3_4 c3_5 c3_6 c3_7 c3_8 c3_9 c3_10 f3_0 f3_1 f3_2 f3_3 f3_4 f3_5 f3_6 f3_7 f3_8 f3_9 f3_10 l3_0 l3_1
  obtain ⟨U4, hU4⟩ : ∃ W : World, W = (((((((((((w3.setCell ⟨w.heap.size + 1, 0, none⟩ (.int .i64 0)).setCell ⟨w.heap.size + 1, 1, none⟩ (.int .i64 (3600))).setCell ⟨w.heap.size + 1, 2, none⟩ (.int .i64 (l.options))).setCell ⟨w.heap.size + 1, 3, none⟩ (.int .i64 (l.typ))).setCell ⟨w.heap.size + 1, 4, none⟩ (.int .i64 (l.id))).setCell ⟨w.heap.size + 1, 5, none⟩ (.int .i64 (l.adv))).setCell ⟨w.heap.size + 1, 6, none⟩ (.int .i64 (l.seq))).setCell ⟨w.heap.size + 1, 7, none⟩ (.slice A' n c')).setCell ⟨w.heap.size + 1, 8, none⟩ (.slice B' m d')).setCell ⟨w.heap.size + 1, 9, none⟩ (.int .i64 (l.mask))).setCell ⟨w.heap.size + 1, 10, none⟩ (.int .i64 (l.cost))) := ⟨_, rfl⟩
  have ho : Only (w.heap.size + 1) (w.heap.size + 1 + 1) w3 U4 := by rw [hU4]; exact ((((((((((((Only.refl _ _ _).set (p := ⟨w.heap.size + 1, 0, none⟩) (Nat.le_refl _) (Nat.lt_succ_self _) _).set (p := ⟨w.heap.size + 1, 1, none⟩) (Nat.le_refl _) (Nat.lt_succ_self _) _).set (p := ⟨w.heap.size + 1, 2, none⟩) (Nat.le_refl _) (Nat.lt_succ_self _) _).set (p := ⟨w.heap.size + 1, 3, none⟩) (Nat.le_refl _) (Nat.lt_succ_self _) _).set (p := ⟨w.heap.size + 1, 4, none⟩) (Nat.le_refl _) (Nat.lt_succ_self _) _).set (p := ⟨w.heap.size + 1, 5, none⟩) (Nat.le_refl _) (Nat.lt_succ_self _) _).set (p := ⟨w.heap.size + 1, 6, none⟩) (Nat.le_refl _) (Nat.lt_succ_self _) _).set (p := ⟨w.heap.size + 1, 7, none⟩) (Nat.le_refl _) (Nat.lt_succ_self _) _).set (p := ⟨w.heap.size + 1, 8, none⟩) (Nat.le_refl _) (Nat.lt_succ_self _) _).set (p := ⟨w.heap.size + 1, 9, none⟩) (Nat.le_refl _) (Nat.lt_succ_self _) _).set (p := ⟨w.heap.size + 1, 10, none⟩) (Nat.le_refl _) (Nat.lt_succ_self _) _)
  replace HX2 : Kept (w.heap.size + 1) (w.heap.size + 1 + 1) (BoxK (w.heap.size + 1) 36 #[.int .i64 0, .int .i64 (3600), .int .i64 (l.options), .int .i64 (l.typ), .int .i64 (l.id), .int .i64 (l.adv), .int .i64 (l.seq), .slice A' n c', .slice B' m d', .int .i64 (l.mask), .int .i64 (l.cost)]) U4 := by rw [hU4]; exact Kept.box (((((((((((HX2.bx.puts 0 (.int .i64 0) (cs' := #[.int .i64 0, .int .i64 0, .int .i64 0, .int .i64 0, .int .i64 0, .int .i64 0, .int .i64 0, .slice none 0 0, .slice none 0 0, .int .i64 0, .int .i64 0]) rfl).puts 1 (.int .i64 (3600)) (cs' := #[.int .i64 0, .int .i64 (3600), .int .i64 0, .int .i64 0, .int .i64 0, .int .i64 0, .int .i64 0, .slice none 0 0, .slice none 0 0, .int .i64 0, .int .i64 0]) rfl).puts 2 (.int .i64 (l.options)) (cs' := #[.int .i64 0, .int .i64 (3600), .int .i64 (l.options), .int .i64 0, .int .i64 0, .int .i64 0, .int .i64 0, .slice none 0 0, .slice none 0 0, .int .i64 0, .int .i64 0]) rfl).puts 3 (.int .i64 (l.typ)) (cs' := #[.int .i64 0, .int .i64 (3600), .int .i64 (l.options), .int .i64 (l.typ), .int .i64 0, .int .i64 0, .int .i64 0, .slice none 0 0, .slice none 0 0, .int .i64 0, .int .i64 0]) rfl).puts 4 (.int .i64 (l.id)) (cs' := #[.int .i64 0, .int .i64 (3600), .int .i64 (l.options), .int .i64 (l.typ), .int .i64 (l.id), .int .i64 0, .int .i64 0, .slice none 0 0, .slice none 0 0, .int .i64 0, .int .i64 0]) rfl).puts 5 (.int .i64 (l.adv)) (cs' := #[.int .i64 0, .int .i64 (3600), .int .i64 (l.options), .int .i64 (l.typ), .int .i64 (l.id), .int .i64 (l.adv), .int .i64 0, .slice none 0 0, .slice none 0 0, .int .i64 0, .int .i64 0]) rfl).puts 6 (.int .i64 (l.seq)) (cs' := #[.int .i64 0, .int .i64 (3600), .int .i64 (l.options), .int .i64 (l.typ), .int .i64 (l.id), .int .i64 (l.adv), .int .i64 (l.seq), .slice none 0 0, .slice none 0 0, .int .i64 0, .int .i64 0]) rfl).puts 7 (.slice A' n c') (cs' := #[.int .i64 0, .int .i64 (3600), .int .i64 (l.options), .int .i64 (l.typ), .int .i64 (l.id), .int .i64 (l.adv), .int .i64 (l.seq), .slice A' n c', .slice none 0 0, .int .i64 0, .int .i64 0]) rfl).puts 8 (.slice B' m d') (cs' := #[.int .i64 0, .int .i64 (3600), .int .i64 (l.options), .int .i64 (l.typ), .int .i64 (l.id), .int .i64 (l.adv), .int .i64 (l.seq), .slice A' n c', .slice B' m d', .int .i64 0, .int .i64 0]) rfl).puts 9 (.int .i64 (l.mask)) (cs' := #[.int .i64 0, .int .i64 (3600), .int .i64 (l.options), .int .i64 (l.typ), .int .i64 (l.id), .int .i64 (l.adv), .int .i64 (l.seq), .slice A' n c', .slice B' m d', .int .i64 (l.mask), .int .i64 0]) rfl).puts 10 (.int .i64 (l.cost)) (cs' := #[.int .i64 0, .int .i64 (3600), .int .i64 (l.options), .int .i64 (l.typ), .int .i64 (l.id), .int .i64 (l.adv), .int .i64 (l.seq), .slice A' n c', .slice B' m d', .int .i64 (l.mask), .int .i64 (l.cost)]) rfl)
  replace HL := HL.only ho (by have := Z0.out; have := Z1.out; have := Z2.out; have := Z3.out; omega)
  replace HX1 := HX1.only ho (by have := Z0.out; have := Z1.out; have := Z2.out; have := Z3.out; omega)
  replace HT := HT.only ho (by have := Z0.out; have := Z1.out; have := Z2.out; have := Z3.out; omega)
  replace HB := Lib.hid (Below.only HB.out ho (by have := Z0.out; have := Z1.out; have := Z2.out; have := Z3.out; omega) HB.out.size)
  have Z4 := Lib.hid ho.size; clear ho
  have q_0 := HX2.look 0
  have q_1 := HX2.look 1
  have q_2 := HX2.look 2
  have q_3 := HX2.look 3
  have q_4 := HX2.look 4
  have q_5 := HX2.look 5
  have q_6 := HX2.look 6
  have q_7 := HX2.look 7
  have q_8 := HX2.look 8
  have q_9 := HX2.look 9
  have q_10 := HX2.look 10
  have fin : ∀ e, e = Ending.returned (.agg (resCells 0 ({ l with age := 3600 }) A' B' n c' m d')) → (LsaOut w (ageC l 3600) (ageM l 3600) e U4) := by rintro _ rfl; exact by rw [HC.out, HM.out]; exact ⟨A', B', n, c', m, d', rfl, LsaTwo.mono (lo' := w.heap.size) (hi' := U4.heap.size) HT.two (by have := Z0.out; have := Z1.out; have := Z2.out; have := Z3.out; have := Z4.out; omega) (by have := Z0.out; have := Z1.out; have := Z2.out; have := Z3.out; have := Z4.out; omega) (Nat.le_refl _), hn, hm, HB.out⟩
  subst hU4
  exact bodyPost_ret (v := .agg (resCells 0 ({ l with age := 3600 }) A' B' n c' m d')) (by simp [results, Try.results34, go_sem, q_0, q_1, q_2, q_3, q_4, q_5, q_6, q_7, q_8, q_9, q_10]) rfl (fin _ rfl)

theorem flush_any (l : LsaM) (q : Bool) (lo hi : Nat) (A B : Option Addr) (n c m d : Nat) (w : World) (hl : LsaAt q lo hi w A n B m l) (hn : n ≤ 1048576) (hm : m ≤ 1048576) :
    Calls Try.prog 34 #[.agg (lsaCells l A B n c m d)] w (LsaOut w (ageC l 3600) (ageM l 3600)) := by
  by_cases h : faultOf l = 0
  · exact flush_3 l q lo hi A B n c m d w hl hn hm h
  · exact flush_1 l q lo hi A B n c m d w hl hn hm h

set_option maxRecDepth 100000 in
set_option maxHeartbeats 3200000 in
theorem specFlush_any (l : LsaM) (q : Bool) (lo hi : Nat) (A B : Option Addr) (n c m d : Nat) (w : World) (hl : LsaAt q lo hi w A n B m l) (hn : n ≤ 1048576) (hm : m ≤ 1048576) :
    Calls Try.prog 39 #[.agg (lsaCells l A B n c m d)] w fun e w' => LsaOut w (ageC l 3600) (ageM l 3600) e w' := by
  have HB := Lib.hid (Below.refl w.heap.size w)
  have HL := hl.kept
  have Z0 := Lib.hid hl.le
  clear hl
  go_enter Try.func39, Try.ntmps39
  go_wp2_with fail
  refine Calls.name ?_
  intro U1 hU1
  have hb : Below w.heap.size w U1 := by rw [hU1]; exact (((Below.refl _ _).alloc (Nat.le_refl _) _).alloc (by simp <;> omega) _)
  have zz : Hid (w.heap.size + 2 = U1.heap.size) := Lib.hid (by rw [hU1]; simp)
  have HX1 : Kept w.heap.size (w.heap.size + 1) (BoxK w.heap.size 29 #[.int .i64 l.age, .int .i64 l.options, .int .i64 l.typ, .int .i64 l.id, .int .i64 l.adv, .int .i64 l.seq, .slice A n c, .slice B m d, .int .i64 l.mask, .int .i64 l.cost]) U1 := by rw [hU1]; exact Kept.box ((Box.made_at _ _ _ rfl).over _)
  have HX2 : Kept (w.heap.size + 1) (w.heap.size + 1 + 1) (BoxK (w.heap.size + 1) 36 #[.int .i64 0, .int .i64 0, .int .i64 0, .int .i64 0, .int .i64 0, .int .i64 0, .int .i64 0, .slice none 0 0, .slice none 0 0, .int .i64 0, .int .i64 0]) U1 := by rw [hU1]; exact Kept.box (Box.made_at _ _ _ (by simp <;> omega))
  replace HL := HL.below hb
  replace HB := Lib.hid (below_step HB.out hb)
  clear hb
  have Z1 := zz; clear zz
  clear hU1
  refine (specAge_any l q lo hi A B n c m d 3600 _ HL.lsa hn hm).mono ?_
  rintro e w2 ⟨A', B', n', c', m', d', rfl, ht, hn', hm', hb⟩
  have Z2 := Lib.hid hb.size
  replace HL := HL.below hb
  replace HX1 := HX1.below hb
  replace HX2 := HX2.below hb
  replace HB := Lib.hid (below_step HB.out hb)
  clear hb
  have HT := ht.kept; clear ht
  have c2_0 := HX2.look 0
  have c2_1 := HX2.look 1
  have c2_2 := HX2.look 2
  have c2_3 := HX2.look 3
  have c2_4 := HX2.look 4
  have c2_5 := HX2.look 5
  have c2_6 := HX2.look 6
  have c2_7 := HX2.look 7
  have c2_8 := HX2.look 8
  have c2_9 := HX2.look 9
  have c2_10 := HX2.look 10
  have f2_0 := HX2.free 0
  have f2_1 := HX2.free 1
  have f2_2 := HX2.free 2
  have f2_3 := HX2.free 3
  have f2_4 := HX2.free 4
  have f2_5 := HX2.free 5
  have f2_6 := HX2.free 6
  have f2_7 := HX2.free 7
  have f2_8 := HX2.free 8
  have f2_9 := HX2.free 9
  have f2_10 := HX2.free 10
  have l2_0 := HX1.le
  have l2_1 := HX2.le
  go_wp2
  clear c2_0 c2_1 c2_2 c2_3 c2_4 c2_5 c2_6 c2_7 c2_8 c2_9 c2_10 f2_0 f2_1 f2_2 f2_3 f2_4 f2_5 f2_6 f2_7 f2_8 f2_9 f2_10 l2_0 l2_1
  obtain ⟨U3, hU3⟩ : ∃ W : World, W = (((((((((((w2.setCell ⟨w.heap.size + 1, 0, none⟩ (.int .i64 (ageC l 3600))).setCell ⟨w.heap.size + 1, 1, none⟩ (.int .i64 ((ageM l 3600).age))).setCell ⟨w.heap.size + 1, 2, none⟩ (.int .i64 ((ageM l 3600).options))).setCell ⟨w.heap.size + 1, 3, none⟩ (.int .i64 ((ageM l 3600).typ))).setCell ⟨w.heap.size + 1, 4, none⟩ (.int .i64 ((ageM l 3600).id))).setCell ⟨w.heap.size + 1, 5, none⟩ (.int .i64 ((ageM l 3600).adv))).setCell ⟨w.heap.size + 1, 6, none⟩ (.int .i64 ((ageM l 3600).seq))).setCell ⟨w.heap.size + 1, 7, none⟩ (.slice A' n' c')).setCell ⟨w.heap.size + 1, 8, none⟩ (.slice B' m' d')).setCell ⟨w.heap.size + 1, 9, none⟩ (.int .i64 ((ageM l 3600).mask))).setCell ⟨w.heap.size + 1, 10, none⟩ (.int .i64 ((ageM l 3600).cost))) := ⟨_, rfl⟩
  have ho : Only (w.heap.size + 1) (w.heap.size + 1 + 1) w2 U3 := by rw [hU3]; exact ((((((((((((Only.refl _ _ _).set (p := ⟨w.heap.size + 1, 0, none⟩) (Nat.le_refl _) (Nat.lt_succ_self _) _).set (p := ⟨w.heap.size + 1, 1, none⟩) (Nat.le_refl _) (Nat.lt_succ_self _) _).set (p := ⟨w.heap.size + 1, 2, none⟩) (Nat.le_refl _) (Nat.lt_succ_self _) _).set (p := ⟨w.heap.size + 1, 3, none⟩) (Nat.le_refl _) (Nat.lt_succ_self _) _).set (p := ⟨w.heap.size + 1, 4, none⟩) (Nat.le_refl _) (Nat.lt_succ_self _) _).set (p := ⟨w.heap.size + 1, 5, none⟩) (Nat.le_refl _) (Nat.lt_succ_self _) _).set (p := ⟨w.heap.size + 1, 6, none⟩) (Nat.le_refl _) (Nat.lt_succ_self _) _).set (p := ⟨w.heap.size + 1, 7, none⟩) (Nat.le_refl _) (Nat.lt_succ_self _) _).set (p := ⟨w.heap.size + 1, 8, none⟩) (Nat.le_refl _) (Nat.lt_succ_self _) _).set (p := ⟨w.heap.size + 1, 9, none⟩) (Nat.le_refl _) (Nat.lt_succ_self _) _).set (p := ⟨w.heap.size + 1, 10, none⟩) (Nat.le_refl _) (Nat.lt_succ_self _) _)
  replace HX2 : Kept (w.heap.size + 1) (w.heap.size + 1 + 1) (BoxK (w.heap.size + 1) 36 #[.int .i64 (ageC l 3600), .int .i64 ((ageM l 3600).age), .int .i64 ((ageM l 3600).options), .int .i64 ((ageM l 3600).typ), .int .i64 ((ageM l 3600).id), .int .i64 ((ageM l 3600).adv), .int .i64 ((ageM l 3600).seq), .slice A' n' c', .slice B' m' d', .int .i64 ((ageM l 3600).mask), .int .i64 ((ageM l 3600).cost)]) U3 := by rw [hU3]; exact Kept.box (((((((((((HX2.bx.puts 0 (.int .i64 (ageC l 3600)) (cs' := #[.int .i64 (ageC l 3600), .int .i64 0, .int .i64 0, .int .i64 0, .int .i64 0, .int .i64 0, .int .i64 0, .slice none 0 0, .slice none 0 0, .int .i64 0, .int .i64 0]) rfl).puts 1 (.int .i64 ((ageM l 3600).age)) (cs' := #[.int .i64 (ageC l 3600), .int .i64 ((ageM l 3600).age), .int .i64 0, .int .i64 0, .int .i64 0, .int .i64 0, .int .i64 0, .slice none 0 0, .slice none 0 0, .int .i64 0, .int .i64 0]) rfl).puts 2 (.int .i64 ((ageM l 3600).options)) (cs' := #[.int .i64 (ageC l 3600), .int .i64 ((ageM l 3600).age), .int .i64 ((ageM l 3600).options), .int .i64 0, .int .i64 0, .int .i64 0, .int .i64 0, .slice none 0 0, .slice none 0 0, .int .i64 0, .int .i64 0]) rfl).puts 3 (.int .i64 ((ageM l 3600).typ)) (cs' := #[.int .i64 (ageC l 3600), .int .i64 ((ageM l 3600).age), .int .i64 ((ageM l 3600).options), .int .i64 ((ageM l 3600).typ), .int .i64 0, .int .i64 0, .int .i64 0, .slice none 0 0, .slice none 0 0, .int .i64 0, .int .i64 0]) rfl).puts 4 (.int .i64 ((ageM l 3600).id)) (cs' := #[.int .i64 (ageC l 3600), .int .i64 ((ageM l 3600).age), .int .i64 ((ageM l 3600).options), .int .i64 ((ageM l 3600).typ), .int .i64 ((ageM l 3600).id), .int .i64 0, .int .i64 0, .slice none 0 0, .slice none 0 0, .int .i64 0, .int .i64 0]) rfl).puts 5 (.int .i64 ((ageM l 3600).adv)) (cs' := #[.int .i64 (ageC l 3600), .int .i64 ((ageM l 3600).age), .int .i64 ((ageM l 3600).options), .int .i64 ((ageM l 3600).typ), .int .i64 ((ageM l 3600).id), .int .i64 ((ageM l 3600).adv), .int .i64 0, .slice none 0 0, .slice none 0 0, .int .i64 0, .int .i64 0]) rfl).puts 6 (.int .i64 ((ageM l 3600).seq)) (cs' := #[.int .i64 (ageC l 3600), .int .i64 ((ageM l 3600).age), .int .i64 ((ageM l 3600).options), .int .i64 ((ageM l 3600).typ), .int .i64 ((ageM l 3600).id), .int .i64 ((ageM l 3600).adv), .int .i64 ((ageM l 3600).seq), .slice none 0 0, .slice none 0 0, .int .i64 0, .int .i64 0]) rfl).puts 7 (.slice A' n' c') (cs' := #[.int .i64 (ageC l 3600), .int .i64 ((ageM l 3600).age), .int .i64 ((ageM l 3600).options), .int .i64 ((ageM l 3600).typ), .int .i64 ((ageM l 3600).id), .int .i64 ((ageM l 3600).adv), .int .i64 ((ageM l 3600).seq), .slice A' n' c', .slice none 0 0, .int .i64 0, .int .i64 0]) rfl).puts 8 (.slice B' m' d') (cs' := #[.int .i64 (ageC l 3600), .int .i64 ((ageM l 3600).age), .int .i64 ((ageM l 3600).options), .int .i64 ((ageM l 3600).typ), .int .i64 ((ageM l 3600).id), .int .i64 ((ageM l 3600).adv), .int .i64 ((ageM l 3600).seq), .slice A' n' c', .slice B' m' d', .int .i64 0, .int .i64 0]) rfl).puts 9 (.int .i64 ((ageM l 3600).mask)) (cs' := #[.int .i64 (ageC l 3600), .int .i64 ((ageM l 3600).age), .int .i64 ((ageM l 3600).options), .int .i64 ((ageM l 3600).typ), .int .i64 ((ageM l 3600).id), .int .i64 ((ageM l 3600).adv), .int .i64 ((ageM l 3600).seq), .slice A' n' c', .slice B' m' d', .int .i64 ((ageM l 3600).mask), .int .i64 0]) rfl).puts 10 (.int .i64 ((ageM l 3600).cost)) (cs' := #[.int .i64 (ageC l 3600), .int .i64 ((ageM l 3600).age), .int .i64 ((ageM l 3600).options), .int .i64 ((ageM l 3600).typ), .int .i64 ((ageM l 3600).id), .int .i64 ((ageM l 3600).adv), .int .i64 ((ageM l 3600).seq), .slice A' n' c', .slice B' m' d', .int .i64 ((ageM l 3600).mask), .int .i64 ((ageM l 3600).cost)]) rfl)
  replace HL := HL.only ho (by have := Z0.out; have := Z1.out; have := Z2.out; omega)
  replace HX1 := HX1.only ho (by have := Z0.out; have := Z1.out; have := Z2.out; omega)
  replace HT := HT.only ho (by have := Z0.out; have := Z1.out; have := Z2.out; omega)
  replace HB := Lib.hid (Below.only HB.out ho (by have := Z0.out; have := Z1.out; have := Z2.out; omega) HB.out.size)
  have Z3 := Lib.hid ho.size; clear ho
  have q_0 := HX2.look 0
  have q_1 := HX2.look 1
  have q_2 := HX2.look 2
  have q_3 := HX2.look 3
  have q_4 := HX2.look 4
  have q_5 := HX2.look 5
  have q_6 := HX2.look 6
  have q_7 := HX2.look 7
  have q_8 := HX2.look 8
  have q_9 := HX2.look 9
  have q_10 := HX2.look 10
  have fin : ∀ e, e = Ending.returned (.agg (resCells (ageC l 3600) (ageM l 3600) A' B' n' c' m' d')) → (LsaOut w (ageC l 3600) (ageM l 3600) e U3) := by rintro _ rfl; exact ⟨A', B', n', c', m', d', rfl, LsaTwo.mono (lo' := w.heap.size) (hi' := U3.heap.size) HT.two (by have := Z0.out; have := Z1.out; have := Z2.out; have := Z3.out; omega) (by have := Z0.out; have := Z1.out; have := Z2.out; have := Z3.out; omega) (Nat.le_refl _), hn', hm', HB.out⟩
  subst hU3
  exact bodyPost_ret (v := .agg (resCells (ageC l 3600) (ageM l 3600) A' B' n' c' m' d')) (by simp [results, Try.results39, go_sem, q_0, q_1, q_2, q_3, q_4, q_5, q_6, q_7, q_8, q_9, q_10]) rfl (fin _ rfl)


end Go.Proofs.Ytamclkjofojhmaa
