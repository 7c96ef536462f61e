/-
  What ShardOf wants of a key: isShardKey, l8Key. No statement is proved here.
-/
import Derived.Test.YtiffhjofabaflaaSum
import Derived.Test.YtiffhjofabaflaaFault
import Derived.Test.YtiffhjofabaflaaWalk
namespace Go.Proofs.Ytiffhjofabaflaa
open Go.RowKit
set_option linter.unusedVariables false

/-- Is a key as ShardOf wants it. -/
def sk (t i a : Int) : Bool := allIn 1 3 [t] && allIn 0 4294967295 [i, a]
theorem sk_iff {t i a : Int} : sk t i a = true ↔ (1 ≤ t ∧ t ≤ 3) ∧ (0 ≤ i ∧ i ≤ 4294967295) ∧ (0 ≤ a ∧ a ≤ 4294967295) := by
  simp [sk, allIn]
theorem sk_ids (t i a : Int) : sk t i a = (allIn 1 3 [t] && (idIn i && idIn a)) := by
  simp [sk, allIn, idIn]
set_option maxRecDepth 100000 in
set_option maxHeartbeats 1600000 in
theorem isShardKey_any (t i a : Int) (w : World)  :
    Calls Try.prog 154 #[.agg #[.int .i64 t, .int .i64 i, .int .i64 a]] w fun e w' => e = .returned (.bool (sk t i a)) ∧ Below w.heap.size w w' := by
  cases ht : allIn 1 3 [t] with
  | false =>
    have HB := Lib.hid (Below.refl w.heap.size w)
    have HT := Lib.hid ht
    have HQ : Hid (sk t i a = false) := Lib.hid (by unfold sk; rw [ht]; rfl)
    clear ht
    go_enter Try.func154, Try.ntmps154
    go_wp2_with fail
    refine Calls.name ?_
    intro U1 hU1
    have hb : Below w.heap.size w U1 := by rw [hU1]; exact (((Below.refl _ _).alloc (Nat.le_refl _) _).alloc (by simp <;> omega) _)
    have zz : Hid (w.heap.size + 2 = U1.heap.size) := Lib.hid (by rw [hU1]; simp)
    have HX1 : Kept w.heap.size (w.heap.size + 1) (BoxK w.heap.size 34 #[.int .i64 t, .int .i64 i, .int .i64 a]) U1 := by rw [hU1]; exact Kept.box ((Box.made_at _ _ _ rfl).over _)
    have HX2 : Kept (w.heap.size + 1) (w.heap.size + 1 + 1) (BoxK (w.heap.size + 1) 2 #[.int .i64 t]) U1 := by rw [hU1]; exact Kept.box (Box.made_at _ _ _ (by simp <;> omega))
    replace HB := Lib.hid (below_step HB.out hb)
    clear hb
    have Z1 := zz; clear zz
    clear hU1
    have HL := Lib.hid (HX2.look 0)
    refine (allWithin_one _ _ _ t _ HL.out).mono ?_
    rw [HT.out]
    rintro e w2 ⟨rfl, rfl⟩
    clear HL
    have l2_0 := HX1.bx.lt
    have l2_1 := HX2.bx.lt
    go_wp2
    clear l2_0 l2_1
    go_ret
    exact ⟨by rw [HQ.out]; try rfl, HB.out⟩
  | true =>
    have HB := Lib.hid (Below.refl w.heap.size w)
    have HT := Lib.hid ht
    obtain ⟨r, hr⟩ : ∃ r, allIn 0 4294967295 [i, a] = r := ⟨_, rfl⟩
    have HR := Lib.hid hr
    have HQ : Hid (sk t i a = r) := Lib.hid (by unfold sk; rw [ht, hr]; rfl)
    clear hr
    clear ht
    go_enter Try.func154, Try.ntmps154
    go_wp2_with fail
    refine Calls.name ?_
    intro U1 hU1
    have hb : Below w.heap.size w U1 := by rw [hU1]; exact (((Below.refl _ _).alloc (Nat.le_refl _) _).alloc (by simp <;> omega) _)
    have zz : Hid (w.heap.size + 2 = U1.heap.size) := Lib.hid (by rw [hU1]; simp)
    have HX1 : Kept w.heap.size (w.heap.size + 1) (BoxK w.heap.size 34 #[.int .i64 t, .int .i64 i, .int .i64 a]) U1 := by rw [hU1]; exact Kept.box ((Box.made_at _ _ _ rfl).over _)
    have HX2 : Kept (w.heap.size + 1) (w.heap.size + 1 + 1) (BoxK (w.heap.size + 1) 2 #[.int .i64 t]) U1 := by rw [hU1]; exact Kept.box (Box.made_at _ _ _ (by simp <;> omega))
    replace HB := Lib.hid (below_step HB.out hb)
    clear hb
    have Z1 := zz; clear zz
    clear hU1
    have HL := Lib.hid (HX2.look 0)
    refine (allWithin_one _ _ _ t _ HL.out).mono ?_
    rw [HT.out]
    rintro e w2 ⟨rfl, rfl⟩
    clear HL
    have c2_0 := HX1.look 1
    have c2_1 := HX1.look 2
    have l2_0 := HX1.bx.lt
    have l2_1 := HX2.bx.lt
    go_wp2_with fail
    clear c2_0 c2_1 l2_0 l2_1
    refine Calls.name ?_
    intro U3 hU3
    have hb : Below w2.heap.size w2 U3 := by rw [hU3]; exact ((Below.refl _ _).alloc (Nat.le_refl _) _)
    have zz : Hid (w2.heap.size + 1 = U3.heap.size) := Lib.hid (by rw [hU3]; simp)
    have HX3 : Kept w2.heap.size (w2.heap.size + 1) (BoxK w2.heap.size 2 #[.int .i64 i, .int .i64 a]) U3 := by rw [hU3]; exact Kept.box (Box.made_at _ _ _ rfl)
    replace HX1 := HX1.below hb
    replace HX2 := HX2.below hb
    replace HB := Lib.hid (below_step HB.out hb)
    clear hb
    have Z2 := zz; clear zz
    clear hU3
    have HL := Lib.hid HX3.bx
    refine (allWithin_any 0 4294967295 _ 0 2 2 [i, a] _ rfl (by omega) (fun j hj => by rcases (show j = 0 ∨ j = 1 by omega) with rfl | rfl; exact HL.out.look 0; exact HL.out.look 1)).mono ?_
    rw [HR.out]
    rintro e w4 ⟨rfl, rfl⟩
    clear HL
    have l3_0 := HX1.bx.lt
    have l3_1 := HX2.bx.lt
    have l3_2 := HX3.bx.lt
    go_wp2
    clear l3_0 l3_1 l3_2
    go_ret
    exact ⟨by rw [HQ.out]; try rfl, HB.out⟩

set_option maxRecDepth 100000 in
set_option maxHeartbeats 1600000 in
theorem l8Key_any (t i a : Int) (w : World)  :
    Calls Try.prog 144 #[.agg #[.int .i64 t, .int .i64 i, .int .i64 a]] w fun e w' => e = .returned (.bool (sk t i a)) ∧ Below w.heap.size w w' := by
  have hs := sk_ids t i a
  cases ht : allIn 1 3 [t] with
  | false =>
    have HB := Lib.hid (Below.refl w.heap.size w)
    have HT := Lib.hid ht
    have HQ : Hid (sk t i a = false) := Lib.hid (by rw [hs, ht]; rfl)
    clear ht hs
    go_enter Try.func144, Try.ntmps144
    go_wp2_with fail
    refine Calls.name ?_
    intro U1 hU1
    have hb : Below w.heap.size w U1 := by rw [hU1]; exact ((Below.refl _ _).alloc (Nat.le_refl _) _)
    have zz : Hid (w.heap.size + 1 = U1.heap.size) := Lib.hid (by rw [hU1]; simp)
    have HX1 : Kept w.heap.size (w.heap.size + 1) (BoxK w.heap.size 34 #[.int .i64 t, .int .i64 i, .int .i64 a]) U1 := by rw [hU1]; exact Kept.box (Box.made_at _ _ _ rfl)
    replace HB := Lib.hid (below_step HB.out hb)
    clear hb
    have Z1 := zz; clear zz
    clear hU1
    refine (l1In_any t 1 3 _).mono ?_
    rw [HT.out]
    rintro e w2 ⟨rfl, rfl⟩
    have l2_0 := HX1.bx.lt
    go_wp2
    clear l2_0
    go_ret
    exact ⟨by rw [HQ.out]; try rfl, HB.out⟩
  | true =>
    cases hi : idIn i with
    | false =>
      have HB := Lib.hid (Below.refl w.heap.size w)
      have HT := Lib.hid ht
      have HI := Lib.hid hi
      have HQ : Hid (sk t i a = false) := Lib.hid (by rw [hs, ht, hi]; rfl)
      clear hi
      clear ht hs
      go_enter Try.func144, Try.ntmps144
      go_wp2_with fail
      refine Calls.name ?_
      intro U1 hU1
      have hb : Below w.heap.size w U1 := by rw [hU1]; exact ((Below.refl _ _).alloc (Nat.le_refl _) _)
      have zz : Hid (w.heap.size + 1 = U1.heap.size) := Lib.hid (by rw [hU1]; simp)
      have HX1 : Kept w.heap.size (w.heap.size + 1) (BoxK w.heap.size 34 #[.int .i64 t, .int .i64 i, .int .i64 a]) U1 := by rw [hU1]; exact Kept.box (Box.made_at _ _ _ rfl)
      replace HB := Lib.hid (below_step HB.out hb)
      clear hb
      have Z1 := zz; clear zz
      clear hU1
      refine (l1In_any t 1 3 _).mono ?_
      rw [HT.out]
      rintro e w2 ⟨rfl, rfl⟩
      have c2_0 := HX1.look 1
      have l2_0 := HX1.bx.lt
      go_wp2_with fail
      clear c2_0 l2_0
      refine (l2Id_any i _).mono ?_
      rw [HI.out]
      rintro e w3 ⟨rfl, rfl⟩
      have l3_0 := HX1.bx.lt
      go_wp2
      clear l3_0
      go_ret
      exact ⟨by rw [HQ.out]; try rfl, HB.out⟩
    | true =>
      have HB := Lib.hid (Below.refl w.heap.size w)
      have HT := Lib.hid ht
      have HI := Lib.hid hi
      obtain ⟨r, hr⟩ : ∃ r, idIn a = r := ⟨_, rfl⟩
      have HR := Lib.hid hr
      have HQ : Hid (sk t i a = r) := Lib.hid (by rw [hs, ht, hi, hr]; rfl)
      clear hr hi
      clear ht hs
      go_enter Try.func144, Try.ntmps144
      go_wp2_with fail
      refine Calls.name ?_
      intro U1 hU1
      have hb : Below w.heap.size w U1 := by rw [hU1]; exact ((Below.refl _ _).alloc (Nat.le_refl _) _)
      have zz : Hid (w.heap.size + 1 = U1.heap.size) := Lib.hid (by rw [hU1]; simp)
      have HX1 : Kept w.heap.size (w.heap.size + 1) (BoxK w.heap.size 34 #[.int .i64 t, .int .i64 i, .int .i64 a]) U1 := by rw [hU1]; exact Kept.box (Box.made_at _ _ _ rfl)
      replace HB := Lib.hid (below_step HB.out hb)
      clear hb
      have Z1 := zz; clear zz
      clear hU1
      refine (l1In_any t 1 3 _).mono ?_
      rw [HT.out]
      rintro e w2 ⟨rfl, rfl⟩
      have c2_0 := HX1.look 1
      have l2_0 := HX1.bx.lt
      go_wp2_with fail
      clear c2_0 l2_0
      refine (l2Id_any i _).mono ?_
      rw [HI.out]
      rintro e w3 ⟨rfl, rfl⟩
      have c3_0 := HX1.look 2
      have l3_0 := HX1.bx.lt
      go_wp2_with fail
      clear c3_0 l3_0
      refine (l2Id_any a _).mono ?_
      rw [HR.out]
      rintro e w4 ⟨rfl, rfl⟩
      have l4_0 := HX1.bx.lt
      go_wp2
      clear l4_0
      go_ret
      exact ⟨by rw [HQ.out]; try rfl, HB.out⟩

end Go.Proofs.Ytiffhjofabaflaa
