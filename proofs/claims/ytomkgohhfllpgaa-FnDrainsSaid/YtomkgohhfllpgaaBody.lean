/-
  What an advertisement has beside its head: bodyOf, headOf, withBody. No statement is proved here.
-/
import Derived.Test.YtomkgohhfllpgaaAt
import Derived.Deep.RegionHeld3
namespace Go.Proofs.Ytomkgohhfllpgaa
open Go.RowKit

/-- The head alone. -/
def headM (l : LsaM) : LsaM := { l with links := [], routers := [], mask := 0, cost := 0 }

end Go.Proofs.Ytomkgohhfllpgaa
