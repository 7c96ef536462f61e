/-
  What the laws' own helpers do with slices of bytes: toByteS copies, eqByteS compares, markByteS writes marks, heldByteS finds them. No statement is proved here.
-/
import Derived.Test.YtfgbjjaipakpaaaBase
namespace Go.Proofs.Ytfgbjjaipakpaaa
open Go.RowKit

/-- The marks that markByteS writes: from k on, one more each. -/
def marks (k : Int) (n : Nat) : List Int := (List.range n).map fun (i : Nat) => (k + (i : Int)) % 256

theorem marks_len (k : Int) (n : Nat) : (marks k n).length = n := by simp [marks]
theorem marks_at (k : Int) (n j : Nat) (h : j < n) : (marks k n).getD j 0 = (k + j) % 256 := by simp [marks, List.getD, h]

set_option maxHeartbeats 400000 in
theorem eqIntResult_yes (code v : Int) (w : World) :
    Calls Try.prog 42 #[.agg #[.int .i64 code, .int .i64 v], .agg #[.int .i64 code, .int .i64 v]] w fun e w' => e = .returned (.bool true) ∧ Below w.heap.size w w' := by
  go_enter Try.func42, Try.ntmps42
  go_wp2
  go_ret
  exact ⟨rfl, ((Below.refl _ _).alloc (Nat.le_refl _) _).alloc (by simp) _⟩

end Go.Proofs.Ytfgbjjaipakpaaa
