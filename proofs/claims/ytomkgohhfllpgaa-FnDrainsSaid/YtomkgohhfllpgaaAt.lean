/-
  Advertisements that lie in blocks which are there: the facts that the walks of the laws carry from world to world. No statement is proved here.
-/
import Derived.Test.YtomkgohhfllpgaaLsaEq
import Derived.Deep.RegionHeld3
namespace Go.Proofs.Ytomkgohhfllpgaa
open Go.RowKit

abbrev lsaCells (l : LsaM) (A B : Option Addr) (n c m d : Nat) : Array Value :=
  #[.int .i64 l.age, .int .i64 l.options, .int .i64 l.typ, .int .i64 l.id, .int .i64 l.adv, .int .i64 l.seq, .slice A n c, .slice B m d, .int .i64 l.mask, .int .i64 l.cost]

structure LsaAt (q : Bool) (lo hi : Nat) (w : World) (A : Option Addr) (n : Nat) (B : Option Addr) (m : Nat) (l : LsaM) : Prop where
  in_ : LsaIn q lo hi w A n B m l
  le : hi ≤ w.heap.size

section
variable {q : Bool} {lo hi : Nat} {w w' : World} {A B : Option Addr} {n m : Nat} {l : LsaM}
theorem LsaAt.below (h : LsaAt q lo hi w A n B m l) (hb : Below w.heap.size w w') : LsaAt q lo hi w' A n B m l := ⟨h.in_.below hb h.le, Nat.le_trans h.le hb.size⟩
theorem LsaAt.drewN (h : LsaAt q lo hi w A n B m l) (k : Nat) : LsaAt q lo hi (w.drewN k) A n B m l := ⟨h.in_.keep fun _ _ _ => rfl, h.le⟩
end

end Go.Proofs.Ytomkgohhfllpgaa
