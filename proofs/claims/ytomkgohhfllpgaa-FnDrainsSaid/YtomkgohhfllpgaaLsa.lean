/-
  What the laws' helpers do with an advertisement: szLsa counts, toLsa copies, eqLsa finds like ones alike. No statement is proved here.
-/
import Derived.Test.YtomkgohhfllpgaaLinks
namespace Go.Proofs.Ytomkgohhfllpgaa
open Go.RowKit

/-- An advertisement, told by its numbers. -/
structure LsaM where
  age : Int
  options : Int
  typ : Int
  id : Int
  adv : Int
  seq : Int
  links : List Lnk
  routers : List Int
  mask : Int
  cost : Int

/-- Both slices of an advertisement lie in a range of blocks. -/
structure LsaIn (q : Bool) (lo hi : Nat) (w : World) (A : Option Addr) (n : Nat) (B : Option Addr) (m : Nat) (l : LsaM) : Prop where
  links : Rep.link.Sl q lo hi w A n l.links
  routers : Rep.int.Sl q lo hi w B m l.routers

section
variable {q : Bool} {lo hi lo' hi' : Nat} {w w' : World} {A B : Option Addr} {n m : Nat} {l : LsaM}
theorem LsaIn.below (h : LsaIn q lo hi w A n B m l) (hb : Below w.heap.size w w') (hh : hi ≤ w.heap.size) : LsaIn q lo hi w' A n B m l := ⟨h.links.below hb hh, h.routers.below hb hh⟩
theorem LsaIn.keep (h : LsaIn q lo hi w A n B m l) (k : SameIn lo hi w w') : LsaIn q lo hi w' A n B m l := ⟨h.links.keep k, h.routers.keep k⟩
theorem LsaIn.mono (h : LsaIn q lo hi w A n B m l) (h1 : lo' ≤ lo) (h2 : hi ≤ hi') : LsaIn q lo' hi' w A n B m l := ⟨h.links.mono h1 h2, h.routers.mono h1 h2⟩
end

theorem SameIn.refl (lo hi : Nat) (w : World) : SameIn lo hi w w := fun _ _ _ => rfl
theorem SameIn.set {lo hi : Nat} {a w : World} (h : SameIn lo hi a w) {p : Addr} (hp : p.block < lo) (u : Value) : SameIn lo hi a (w.setCell p u) :=
  fun b h1 h2 => (Below.heap_setCell w p u b (by omega)).trans (h b h1 h2)
theorem Box.put {w : World} {g : Nat} {t : TypeId} {cs : Array Value} (h : Box w g t cs) (i : Nat) (u : Value) : Box (w.setCell ⟨g, i, none⟩ u) g t (cs.setIfInBounds i u) := heap_setCell_same w g i cs t u h

end Go.Proofs.Ytomkgohhfllpgaa
