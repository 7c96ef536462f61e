/-
  Walks of both IsSealed. No statement is proved here.
-/
import Derived.Test.YtamclkjofojhmaaHelp
import Derived.Test.YtamclkjofojhmaaSum
namespace Go.Proofs.Ytamclkjofojhmaa
open Go.RowKit

/-- What both IsSealed answer. -/
def sealedB (xs : List Int) : Bool := decide (0 < xs.length) && (decide (xs.length ≤ 400) && (((sums xs).1 % 255 == 0) && ((sums xs).2 % 255 == 0)))

theorem l1Sealed_any (A : Option Addr) (n c : Nat) (xs : List Int) (w : World) (ha : BIn w A n xs) (hb : Bytes xs) (hn : n ≤ 1048576) :
    Calls Try.prog 76 #[.slice A n c] w fun e w' => e = .returned (.bool (((sums xs).1 % 255 == 0) && ((sums xs).2 % 255 == 0))) ∧ w' = w := by
  by_cases h1 : ((sums xs).1 % 255 == 0) = true
  · by_cases h2 : ((sums xs).2 % 255 == 0) = true
    all_goals
      try simp only [Bool.not_eq_true] at h2
      go_enter Try.func76, Try.ntmps76
      go_wp2_with (go_at_call 113; refine (l1Sum_any _ _ _ xs _ ha hb hn).mono ?_; rintro e w1 ⟨rfl, rfl⟩)
      go_ret
      exact ⟨by simp [h1, h2], rfl⟩
  · simp only [Bool.not_eq_true] at h1
    go_enter Try.func76, Try.ntmps76
    go_wp2_with (go_at_call 113; refine (l1Sum_any _ _ _ xs _ ha hb hn).mono ?_; rintro e w1 ⟨rfl, rfl⟩)
    go_ret
    exact ⟨by simp [h1], rfl⟩

theorem isSealed_any (A : Option Addr) (n c : Nat) (xs : List Int) (w : World) (ha : BIn w A n xs) (hb : Bytes xs) (hn : n ≤ 1048576) :
    Calls Try.prog 67 #[.slice A n c] w fun e w' => e = .returned (.bool (sealedB xs)) ∧ Below w.heap.size w w' := by
  have hl := ha.1
  have HF : Hid (sealedB xs = (decide (0 < (n : Int)) && ((fcode xs == 0) && ((flow xs == 0) && (fhigh xs == 0))))) := by
    unfold Hid sealedB fcode flow fhigh
    by_cases h4 : n ≤ 400
    · rw [if_pos (by omega), if_pos (by omega), if_pos (by omega), decide_eq_true (show xs.length ≤ 400 by omega)]
      rw [show decide (0 < xs.length) = decide (0 < (n : Int)) by rw [Bool.eq_iff_iff]; simp; omega]
      simp
    · rw [if_neg (by omega), if_neg (by omega), if_neg (by omega), decide_eq_false (show ¬ xs.length ≤ 400 by omega)]
      simp
  clear hl
  by_cases h0 : 0 < n
  · have h0' : (0 : Int) < n := by omega
    go_enter Try.func67, Try.ntmps67
    go_wp2_with (go_at_call 108; refine (fletcher_any _ _ _ xs _ ha hb hn).mono ?_; rintro e w1 ⟨rfl, hb1⟩)
    all_goals
      go_ret
      refine ⟨ret_bool ?_, below_step hb1 ((Below.refl _ _).alloc (Nat.le_refl _) _)⟩
      rw [HF.out, decide_eq_true h0']
      simp [*]
  · have h0' : ¬ (0 : Int) < n := by omega
    go_enter Try.func67, Try.ntmps67
    go_wp2_with (go_at_call 108; refine (fletcher_any _ _ _ xs _ ha hb hn).mono ?_; rintro e w1 ⟨rfl, hb1⟩)
    go_ret
    exact ⟨ret_bool (by rw [HF.out, decide_eq_false (by omega)]; rfl), below_step hb1 ((Below.refl _ _).alloc (Nat.le_refl _) _)⟩

end Go.Proofs.Ytamclkjofojhmaa
