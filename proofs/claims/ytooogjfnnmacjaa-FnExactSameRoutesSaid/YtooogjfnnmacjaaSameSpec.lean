/-
  The model's SameLsas tells whether two advertisements are the same. No statement is proved here.
-/
import Derived.Test.YtooogjfnnmacjaaSameLsa
namespace Go.Proofs.Ytooogjfnnmacjaa
open Go.RowKit

end Go.Proofs.Ytooogjfnnmacjaa
