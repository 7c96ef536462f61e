/-
  What an advertisement has beside its head: bodyOf, headOf, withBody. No statement is proved here.
-/
import Derived.Test.YtiffhjofabaflaaAt
import Derived.Deep.RegionHeld3
namespace Go.Proofs.Ytiffhjofabaflaa
open Go.RowKit

/-- The head alone. -/
def headM (l : LsaM) : LsaM := { l with links := [], routers := [], mask := 0, cost := 0 }

end Go.Proofs.Ytiffhjofabaflaa
