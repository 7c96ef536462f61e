/-
  eqLsa finds two like advertisements alike. No statement is proved here.
-/
import Derived.Test.YtomkgohhfllpgaaLsa
namespace Go.Proofs.Ytomkgohhfllpgaa
open Go.RowKit

end Go.Proofs.Ytomkgohhfllpgaa
