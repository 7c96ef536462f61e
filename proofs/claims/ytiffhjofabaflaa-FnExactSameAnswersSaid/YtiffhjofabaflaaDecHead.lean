/-
  The program's readHead and readBody. No statement is proved here.
-/
import Derived.Test.YtiffhjofabaflaaDec
import Derived.Test.YtiffhjofabaflaaBody
import Derived.Test.YtiffhjofabaflaaMarkLsa
namespace Go.Proofs.Ytiffhjofabaflaa
open Go.RowKit
set_option linter.unusedVariables false

def seqR (n : Nat) (xs : List Int) : Int := if 2147483647 < rval n xs 12 4 then rval n xs 12 4 - 4294967296 else rval n xs 12 4
def headR (n : Nat) (xs : List Int) : LsaM := ⟨rval n xs 0 2, rval n xs 2 1, rval n xs 3 1, rval n xs 4 4, rval n xs 8 4, seqR n xs, [], [], 0, 0⟩

end Go.Proofs.Ytiffhjofabaflaa
