/-
  eqLsa finds two like advertisements alike. No statement is proved here.
-/
import Derived.Test.YtfgbjjaipakpaaaLsa
namespace Go.Proofs.Ytfgbjjaipakpaaa
open Go.RowKit

end Go.Proofs.Ytfgbjjaipakpaaa
