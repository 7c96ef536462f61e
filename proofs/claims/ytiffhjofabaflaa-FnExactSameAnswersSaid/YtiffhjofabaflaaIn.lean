/-
  What lies between two bounds, and the walk of the model's l1In. No statement is proved here.
-/
import Derived.Test.YtiffhjofabaflaaBase
namespace Go.Proofs.Ytiffhjofabaflaa
open Go.RowKit

/-- Each lies within the bounds. -/
def allIn (lo hi : Int) (zs : List Int) : Bool := zs.all fun v => decide (lo ≤ v) && decide (v ≤ hi)
theorem allIn_one_yes {lo hi v : Int} (h1 : lo ≤ v) (h2 : v ≤ hi) : allIn lo hi [v] = true := by simp [allIn, h1, h2]
theorem allIn_one_no {lo hi v : Int} (h : ¬ (lo ≤ v ∧ v ≤ hi)) : allIn lo hi [v] = false := by
  simp only [allIn, List.all_cons, List.all_nil, Bool.and_true, Bool.and_eq_false_iff, decide_eq_false_iff_not]
  omega

theorem l1In_any (v lo hi : Int) (w : World) :
    Calls Try.prog 105 #[.int .i64 v, .int .i64 lo, .int .i64 hi] w fun e w' => e = .returned (.bool (allIn lo hi [v])) ∧ w' = w := by
  by_cases h1 : lo ≤ v
  · by_cases h2 : v ≤ hi
    · have HF := Lib.hid (allIn_one_yes h1 h2)
      go_enter Try.func105, Try.ntmps105
      go_wp2
      go_ret
      exact ⟨ret_bool HF.out.symm, rfl⟩
    · have HF : Hid _ := allIn_one_no (lo := lo) (hi := hi) (v := v) (by omega)
      go_enter Try.func105, Try.ntmps105
      go_wp2
      go_ret
      exact ⟨ret_bool HF.out.symm, rfl⟩
  · have HF : Hid _ := allIn_one_no (lo := lo) (hi := hi) (v := v) (by omega)
    go_enter Try.func105, Try.ntmps105
    go_wp2
    go_ret
    exact ⟨ret_bool HF.out.symm, rfl⟩

end Go.Proofs.Ytiffhjofabaflaa
