/-
  The walk of the law FnExactPlaceOf: the program's PlaceOf answers as the model's.
-/
import Derived.Test.YtfgbjjaipakpaaaPlace
import Derived.Test.YtfgbjjaipakpaaaHelp
import Derived.Test.YtfgbjjaipakpaaaWalk
namespace Go.Proofs.Ytfgbjjaipakpaaa
open Go.RowKit
set_option linter.unusedVariables false

set_option maxRecDepth 100000 in
set_option maxHeartbeats 3200000 in
theorem law_PlaceOf (a0 : Int) (a1 : Int) (w : World)  :
    Calls Try.prog 5 #[.int .i64 a0, .int .i64 a1] w fun e w' => e = .returned (.bool true) ∧ Below w.heap.size w w' := by
  have HB := Lib.hid (Below.refl w.heap.size w)
  obtain ⟨r0, hr⟩ : ∃ z, poC a0 a1 = z := ⟨_, rfl⟩
  have HRr0 := Lib.hid hr
  clear hr
  obtain ⟨r1, hr⟩ : ∃ z, poV a0 a1 = z := ⟨_, rfl⟩
  have HRr1 := Lib.hid hr
  clear hr
  go_enter Try.func5, Try.ntmps5
  go_wp2_with fail
  refine (specPlaceOf_any a0 a1 _).mono ?_
  rw [HRr0.out, HRr1.out]
  rintro e w1 ⟨rfl, hb⟩
  have Z1 := Lib.hid hb.size
  replace HB := Lib.hid (below_step HB.out hb)
  clear hb
  go_wp2_with fail
  refine Calls.name ?_
  intro U2 hU2
  have hb : Below w1.heap.size w1 U2 := by rw [hU2]; exact ((Below.refl _ _).alloc (Nat.le_refl _) _)
  have zz : Hid (w1.heap.size + 1 = U2.heap.size) := Lib.hid (by rw [hU2]; simp)
  have HX1 : Kept w1.heap.size (w1.heap.size + 1) (BoxK w1.heap.size 52 #[.int .i64 r0, .int .i64 r1]) U2 := by rw [hU2]; exact Kept.box (Box.made_at _ _ _ rfl)
  replace HB := Lib.hid (below_step HB.out hb)
  clear hb
  have Z2 := zz; clear zz
  clear hU2
  refine (placeOf_any a0 a1 _).mono ?_
  rw [HRr0.out, HRr1.out]
  rintro e w3 ⟨rfl, hb⟩
  have Z3 := Lib.hid hb.size
  replace HX1 := HX1.below hb
  replace HB := Lib.hid (below_step HB.out hb)
  clear hb
  have c3_0 := HX1.look 0
  have c3_1 := HX1.look 1
  have l3_0 := HX1.bx.lt
  go_wp2_with fail
  clear c3_0 c3_1 l3_0
  refine Calls.name ?_
  intro U4 hU4
  have hb : Below w3.heap.size w3 U4 := by rw [hU4]; exact ((Below.refl _ _).alloc (Nat.le_refl _) _)
  have zz : Hid (w3.heap.size + 1 = U4.heap.size) := Lib.hid (by rw [hU4]; simp)
  have HX2 : Kept w3.heap.size (w3.heap.size + 1) (BoxK w3.heap.size 52 #[.int .i64 r0, .int .i64 r1]) U4 := by rw [hU4]; exact Kept.box (Box.made_at _ _ _ rfl)
  replace HX1 := HX1.below hb
  replace HB := Lib.hid (below_step HB.out hb)
  clear hb
  have Z4 := zz; clear zz
  clear hU4
  refine (eqIntResult_yes r0 r1 _).mono ?_
  rintro e w5 ⟨rfl, hb⟩
  have Z5 := Lib.hid hb.size
  replace HX1 := HX1.below hb
  replace HX2 := HX2.below hb
  replace HB := Lib.hid (below_step HB.out hb)
  clear hb
  have l4_0 := HX1.bx.lt
  have l4_1 := HX2.bx.lt
  go_wp2
  clear l4_0 l4_1
  go_ret
  exact ⟨rfl, HB.out⟩

end Go.Proofs.Ytfgbjjaipakpaaa
