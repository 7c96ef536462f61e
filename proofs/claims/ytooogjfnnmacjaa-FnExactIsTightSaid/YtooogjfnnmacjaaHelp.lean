/-
  What the laws' own helpers do with slices of bytes: toByteS copies, eqByteS compares, markByteS writes marks, heldByteS finds them. No statement is proved here.
-/
import Derived.Test.YtooogjfnnmacjaaBase
namespace Go.Proofs.Ytooogjfnnmacjaa
open Go.RowKit

/-- The marks that markByteS writes: from k on, one more each. -/
def marks (k : Int) (n : Nat) : List Int := (List.range n).map fun (i : Nat) => (k + (i : Int)) % 256

theorem marks_len (k : Int) (n : Nat) : (marks k n).length = n := by simp [marks]
theorem marks_at (k : Int) (n j : Nat) (h : j < n) : (marks k n).getD j 0 = (k + j) % 256 := by simp [marks, List.getD, h]

end Go.Proofs.Ytooogjfnnmacjaa
