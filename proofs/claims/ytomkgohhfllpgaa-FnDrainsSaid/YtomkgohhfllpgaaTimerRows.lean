/-
  What the laws' helpers do with slices of slices of timers. No statement is proved here.
-/
import Derived.Test.YtomkgohhfllpgaaTimer
import Derived.Test.YtomkgohhfllpgaaFoot
namespace Go.Proofs.Ytomkgohhfllpgaa
open Go.RowKit
set_option linter.unusedVariables false

theorem flat_snoc (fs : List (List Nat)) (f : List Nat) : (fs ++ [f]).flatten = fs.flatten ++ f := by simp

end Go.Proofs.Ytomkgohhfllpgaa
