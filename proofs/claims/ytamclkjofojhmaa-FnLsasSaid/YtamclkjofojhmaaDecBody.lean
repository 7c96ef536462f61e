/-
  The program's readBody. No statement is proved here.
-/
import Derived.Test.YtamclkjofojhmaaDecHead
namespace Go.Proofs.Ytamclkjofojhmaa
open Go.RowKit
set_option linter.unusedVariables false

set_option maxRecDepth 100000 in
set_option maxHeartbeats 1600000 in
theorem readBody_1 (A : Option Addr) (n c : Nat) (xs : List Int) (w : World) (ha : BIn w A n xs) (hb : Bytes xs) (hn : n ≤ 400) (hnc : n ≤ c) (ht : rval n xs 3 1 = 1) :
    Calls Try.prog 70 #[.slice A n c] w fun e w' => ∃ E d, e = .returned (.iface 133 (.agg #[.slice E ((n - 24) / 12) d])) ∧ OwnF 101 4 lcell w' w.heap.size E ((n - 24) / 12) d (linksR n xs ((n - 24) / 12)) ∧ Below w.heap.size w w' := by
  have HA := Lib.hid ha
  have HBY := Lib.hid hb
  have HT := Lib.hid ht
  clear ha hb ht
  go_enter Try.func70, Try.ntmps70
  go_wp2_with fail
  refine (wordAt_any A n c xs _ _ _ HA.out HBY.out (by omega) hnc).mono ?_
  rintro e w1 ⟨rfl, hb⟩
  have HA1 := Lib.hid (HA.out.below hb)
  have HB1 := Lib.hid hb
  clear hb HA
  go_wp2_with fail
  refine (wordAt_any A n c xs _ _ _ HA1.out HBY.out (by omega) hnc).mono ?_
  rw [HT.out]
  rintro e w2 ⟨rfl, hb⟩
  have HA2 := Lib.hid (HA1.out.below hb)
  have HB2 := Lib.hid (below_step HB1.out hb)
  clear hb HA1 HB1
  go_wp2_with fail
  refine (readLinks_any A n c xs _ HA2.out HBY.out hn hnc).mono ?_
  rintro e w3 ⟨E, d, rfl, ho, hb⟩
  have HO := Lib.hid (ho.mono HB2.out.size)
  have HB3 := Lib.hid (below_step HB2.out hb)
  clear hb ho
  go_wp2
  go_ret
  exact ⟨E, d, rfl, HO.out, HB3.out⟩

set_option maxRecDepth 100000 in
set_option maxHeartbeats 1600000 in
theorem readBody_2 (A : Option Addr) (n c : Nat) (xs : List Int) (w : World) (ha : BIn w A n xs) (hb : Bytes xs) (hn : n ≤ 400) (hnc : n ≤ c) (ht : rval n xs 3 1 = 2) :
    Calls Try.prog 70 #[.slice A n c] w fun e w' => ∃ E d, e = .returned (.iface 135 (.agg #[.int .i64 (rval n xs 20 4), .slice E ((n - 24) / 4) d])) ∧ OwnF 2 1 icell w' w.heap.size E ((n - 24) / 4) d (routersR n xs ((n - 24) / 4)) ∧ Below w.heap.size w w' := by
  have HA := Lib.hid ha
  have HBY := Lib.hid hb
  have HT := Lib.hid ht
  clear ha hb ht
  go_enter Try.func70, Try.ntmps70
  go_wp2_with fail
  refine (wordAt_any A n c xs _ _ _ HA.out HBY.out (by omega) hnc).mono ?_
  rintro e w1 ⟨rfl, hb⟩
  have HA1 := Lib.hid (HA.out.below hb)
  have HB1 := Lib.hid hb
  clear hb HA
  go_wp2_with fail
  refine (wordAt_any A n c xs _ _ _ HA1.out HBY.out (by omega) hnc).mono ?_
  rw [HT.out]
  rintro e w2 ⟨rfl, hb⟩
  have HA2 := Lib.hid (HA1.out.below hb)
  have HB2 := Lib.hid (below_step HB1.out hb)
  clear hb HA1 HB1
  go_wp2_with fail
  refine (readRouters_any A n c xs _ HA2.out HBY.out hn hnc).mono ?_
  rintro e w3 ⟨E, d, rfl, ho, hb⟩
  have HO := Lib.hid (ho.mono HB2.out.size)
  have HB3 := Lib.hid (below_step HB2.out hb)
  clear hb ho
  go_wp2
  go_ret
  exact ⟨E, d, rfl, HO.out, HB3.out⟩

set_option maxRecDepth 100000 in
set_option maxHeartbeats 1600000 in
theorem readBody_3 (A : Option Addr) (n c : Nat) (xs : List Int) (w : World) (ha : BIn w A n xs) (hb : Bytes xs) (hn : n ≤ 400) (hnc : n ≤ c) (ht : rval n xs 3 1 = 3) :
    Calls Try.prog 70 #[.slice A n c] w fun e w' => e = .returned (.iface 137 (.agg #[.int .i64 (rval n xs 20 4), .int .i64 (rval n xs 25 3)])) ∧ Below w.heap.size w w' := by
  have HA := Lib.hid ha
  have HBY := Lib.hid hb
  have HT := Lib.hid ht
  clear ha hb ht
  go_enter Try.func70, Try.ntmps70
  go_wp2_with fail
  refine (wordAt_any A n c xs _ _ _ HA.out HBY.out (by omega) hnc).mono ?_
  rintro e w1 ⟨rfl, hb⟩
  have HA1 := Lib.hid (HA.out.below hb)
  have HB1 := Lib.hid hb
  clear hb HA
  go_wp2_with fail
  refine (wordAt_any A n c xs _ _ _ HA1.out HBY.out (by omega) hnc).mono ?_
  rw [HT.out]
  rintro e w2 ⟨rfl, hb⟩
  have HA2 := Lib.hid (HA1.out.below hb)
  have HB2 := Lib.hid (below_step HB1.out hb)
  clear hb HA1 HB1
  go_wp2_with fail
  refine (wordAt_any A n c xs _ _ _ HA2.out HBY.out (by omega) hnc).mono ?_
  rintro e w3 ⟨rfl, hb⟩
  have HB3 := Lib.hid (below_step HB2.out hb)
  clear hb
  go_wp2
  go_ret
  exact ⟨rfl, HB3.out⟩

theorem readBody_0 (A : Option Addr) (n c : Nat) (xs : List Int) (w : World) (ha : BIn w A n xs) (hb : Bytes xs) (hn : n ≤ 400) (hnc : n ≤ c) (h1 : ¬ rval n xs 3 1 = 1) (h2 : ¬ rval n xs 3 1 = 2) (h3 : ¬ rval n xs 3 1 = 3) :
    Calls Try.prog 70 #[.slice A n c] w fun e w' => e = .returned .nilIface ∧ Below w.heap.size w w' := by
  have HA := Lib.hid ha
  have HBY := Lib.hid hb
  obtain ⟨t, ht⟩ : ∃ t, rval n xs 3 1 = t := ⟨_, rfl⟩
  rw [ht] at h1 h2 h3
  have HT := Lib.hid ht
  clear ha hb ht
  go_enter Try.func70, Try.ntmps70
  go_wp2_with fail
  refine (wordAt_any A n c xs _ _ _ HA.out HBY.out (by omega) hnc).mono ?_
  rintro e w1 ⟨rfl, hb⟩
  have HA1 := Lib.hid (HA.out.below hb)
  have HB1 := Lib.hid hb
  clear hb HA
  go_wp2_with fail
  refine (wordAt_any A n c xs _ _ _ HA1.out HBY.out (by omega) hnc).mono ?_
  rw [HT.out]
  rintro e w2 ⟨rfl, hb⟩
  have HB2 := Lib.hid (below_step HB1.out hb)
  clear hb HA1 HB1
  go_wp2
  go_ret
  exact ⟨rfl, HB2.out⟩

/-- What the program reads. -/
def readM (n : Nat) (xs : List Int) : LsaM :=
  if rval n xs 3 1 = 1 then { headR n xs with links := linksR n xs ((n - 24) / 12) }
  else if rval n xs 3 1 = 2 then { headR n xs with mask := rval n xs 20 4, routers := routersR n xs ((n - 24) / 4) }
  else if rval n xs 3 1 = 3 then { headR n xs with mask := rval n xs 20 4, cost := rval n xs 25 3 }
  else headR n xs

end Go.Proofs.Ytamclkjofojhmaa
