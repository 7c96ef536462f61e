/-
  Both SameBases, and slices.EqualFunc at entries. No statement is proved here.
-/
import Derived.Test.YtooogjfnnmacjaaEntSz
import Derived.Test.YtooogjfnnmacjaaSameWheel
import Derived.Test.YtooogjfnnmacjaaSameLsa
import Derived.Test.YtooogjfnnmacjaaSameSpec
namespace Go.Proofs.Ytooogjfnnmacjaa
open Go.RowKit
set_option linter.unusedVariables false

def entB (x y : Ent) : Bool := decide (x.at_ = y.at_) && decide (x.l = y.l)
theorem entB_iff (x y : Ent) : entB x y = true ↔ x = y := by
  cases x; cases y
  simp only [entB, Bool.and_eq_true, decide_eq_true_eq, Ent.mk.injEq]
  exact And.comm

end Go.Proofs.Ytooogjfnnmacjaa
