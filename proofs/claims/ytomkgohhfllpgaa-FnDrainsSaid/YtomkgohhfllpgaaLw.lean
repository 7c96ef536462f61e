/-
  Walks of the laws' own small functions lwSame and lwAt. No statement is proved here.
-/
import Derived.Test.YtomkgohhfllpgaaSame
import Derived.Test.YtomkgohhfllpgaaDraw
namespace Go.Proofs.Ytomkgohhfllpgaa
open Go.RowKit

theorem lwBig_no (A : Option Addr) (n c : Nat) (w : World) (hn : n ≤ 1048576) :
    Calls Try.prog 12 #[.slice A n c] w fun e w' => e = .returned (.bool false) ∧ w' = w := by
  have h1 : ¬ (1048576 : Int) < n := by omega
  go_enter Try.func12, Try.ntmps12
  go_wp2
  go_ret
  exact ⟨rfl, rfl⟩

theorem modlt (x m : Int) (h : 0 < m) : 0 ≤ x % m ∧ x % m < m := ⟨Int.emod_nonneg _ (by omega), Int.emod_lt_of_pos _ h⟩

end Go.Proofs.Ytomkgohhfllpgaa
