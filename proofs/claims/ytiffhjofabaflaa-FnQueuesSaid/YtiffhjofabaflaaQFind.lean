/-
  The place of a Key among a queue's items: l6Find. No statement is proved here.
-/
import Derived.Test.YtiffhjofabaflaaQueueLaws
namespace Go.Proofs.Ytiffhjofabaflaa
open Go.RowKit
set_option linter.unusedVariables false
attribute [local go_sem high] eql_keyT neq_keyT

set_option maxHeartbeats 1600000 in
theorem l6Find_any (q : Bool) (lo hi : Nat) (A : Option Addr) (n c : Nat) (ts : List Tmr) (k : Tmr) (w : World) (ha : Rep.timer.Sl q lo hi w A n ts) (hh : hi ≤ w.heap.size) (hn : n ≤ 1048576) :
    Calls Try.prog 138 #[.slice A n c, .agg #[.int .i64 k.typ, .int .i64 k.id, .int .i64 k.adv]] w fun e w' => e = .returned (.int .i64 (findV ts k)) ∧ Below w.heap.size w w' := by
  obtain ⟨V, hV⟩ : ∃ V : World, V = w.alloc (.cells #[.int .i64 k.typ, .int .i64 k.id, .int .i64 k.adv] 34) := ⟨_, rfl⟩
  have hbV : Below w.heap.size w V := by rw [hV]; exact (Below.refl _ _).alloc (Nat.le_refl _) _
  have HB := Lib.hid hbV
  have HX := Lib.hid (show Box V w.heap.size 34 #[.int .i64 k.typ, .int .i64 k.id, .int .i64 k.adv] by rw [hV]; exact Box.made _ _ _)
  have HA := Lib.hid (ha.below hbV hh)
  have hl := ha.1
  have c0 := HX.out.look 0
  have c1 := HX.out.look 1
  have c2 := HX.out.look 2
  clear ha hbV
  go_enter Try.func138, Try.ntmps138
  go_wp2
  rw [← hV]
  clear hV
  go_loopw [5] (fun i wr => ∃ j : Nat, j ≤ n ∧ i = .int .i64 j ∧ Hid (∀ i u, i < j → ts[i]? = some u → keyT u k = false) ∧ ∃ d, wr = V.drewN d) (fun i _ => n - (intOf i).toNat)
  case atStart => exact ⟨0, Nat.zero_le _, rfl, fun i u hi => absurd hi (by omega), 0, rfl⟩
  case round =>
    obtain ⟨j, hj, rfl, HN, d, rfl⟩ := hrel
    by_cases hlt : j < n
    · obtain ⟨b, o, t, rfl, hya, a0, a1, a2, a3⟩ := Rep.timer_at HA.out hlt
      have hlt' : (j : Int) < n := by omega
      by_cases hkt : keyT t k = true
      · have HF := Lib.hid (findIdx_at hya hkt HN.out)
        clear hya
        go_wp2
        go_quiet (fail)
        go_wp2
        go_ret
        exact ⟨by rw [HF.out]; rfl, below_drewN (below_drewN HB.out _) _⟩
      · have hkf : keyT t k = false := by simpa using hkt
        have HY := Lib.hid (And.intro hya hkf)
        clear hya hkt
        go_wp2
        go_quiet (fail)
        go_wp2
        go_roundw
        case rel => exact ⟨j + 1, by omega, by go_num, fun i u hi hu => by
          rcases Nat.lt_succ_iff_lt_or_eq.1 hi with h | rfl
          · exact HN.out i u h hu
          · have := HY.out.1; rw [hu] at this; injection this with this; subst this; exact HY.out.2, _, rfl⟩
        case measure => simp [intOf]; omega
    · have HF : Hid (findV ts k = -1) := Lib.hid (find_none fun i u hu => HN.out i u (by have := (List.getElem?_eq_some_iff.1 hu).1; omega) hu)
      go_wp2
      go_ret
      exact ⟨by rw [HF.out]; rfl, below_drewN HB.out _⟩

end Go.Proofs.Ytiffhjofabaflaa
