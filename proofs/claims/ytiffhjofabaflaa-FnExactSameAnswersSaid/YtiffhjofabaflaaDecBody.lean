/-
  The program's readBody. No statement is proved here.
-/
import Derived.Test.YtiffhjofabaflaaDecHead
namespace Go.Proofs.Ytiffhjofabaflaa
open Go.RowKit
set_option linter.unusedVariables false

/-- What the program reads. -/
def readM (n : Nat) (xs : List Int) : LsaM :=
  if rval n xs 3 1 = 1 then { headR n xs with links := linksR n xs ((n - 24) / 12) }
  else if rval n xs 3 1 = 2 then { headR n xs with mask := rval n xs 20 4, routers := routersR n xs ((n - 24) / 4) }
  else if rval n xs 3 1 = 3 then { headR n xs with mask := rval n xs 20 4, cost := rval n xs 25 3 }
  else headR n xs

end Go.Proofs.Ytiffhjofabaflaa
