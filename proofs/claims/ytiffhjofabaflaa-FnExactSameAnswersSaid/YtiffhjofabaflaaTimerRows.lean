/-
  What the laws' helpers do with slices of slices of timers. No statement is proved here.
-/
import Derived.Test.YtiffhjofabaflaaTimer
import Derived.Test.YtiffhjofabaflaaFoot
namespace Go.Proofs.Ytiffhjofabaflaa
open Go.RowKit
set_option linter.unusedVariables false

theorem rowsInfo : (Try.prog.info? 29).map (fun i => (i.zero, i.size, i.bytes)) = some (some (.slice none 0 0), 1, 24) := by kernel_rfl

theorem flat_snoc (fs : List (List Nat)) (f : List Nat) : (fs ++ [f]).flatten = fs.flatten ++ f := by simp

end Go.Proofs.Ytiffhjofabaflaa
