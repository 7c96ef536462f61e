/-
  markLsa, heldInt64S, heldLinkS, heldLsa. No statement is proved here.
-/
import Derived.Test.YtiffhjofabaflaaMark
namespace Go.Proofs.Ytiffhjofabaflaa
open Go.RowKit
set_option linter.unusedVariables false

section
variable {lo hi l h : Nat} {w w' : World}
theorem Only.size_le (ho : Only lo hi w w') : w.heap.size ≤ w'.heap.size := ho.size
theorem Box.only {g : Nat} {t : TypeId} {cs : Array Value} (hb : Box w g t cs) (ho : Only lo hi w w') (hd : g < lo ∨ hi ≤ g) : Box w' g t cs := (ho.block g hb.lt hd).trans hb
theorem Own.only {B : Nat} {A : Option Addr} {n c : Nat} {zs : List Int} (h : Own w B A n c zs) (ho : Only lo hi w w') (hd : ∀ r, A.map (·.block) = some r → r < lo ∨ hi ≤ r) : Own w' B A n c zs := by
  refine ⟨h.1, ?_⟩
  rcases h.2 with h' | ⟨g, cap, cur, h1, h2, h3, h4⟩
  · exact .inl h'
  · refine .inr ⟨g, cap, cur, h1, h2, ?_, h4⟩
    have hA : A.map (·.block) = some g := by
      simp only [Value.slice.injEq] at h1
      rw [h1.1]; rfl
    have hlt : g < w.heap.size := (h.block g hA).2
    rw [ho.block g hlt (hd g hA)]
    exact h3
theorem LsaIn.only {q : Bool} {A : Option Addr} {n : Nat} {B : Option Addr} {m : Nat} {x : LsaM} (h' : LsaIn q l h w A n B m x) (ho : Only lo hi w w') (hd : h ≤ lo ∨ hi ≤ l) (hs : h ≤ w.heap.size) : LsaIn q l h w' A n B m x := h'.keep (ho.same hd hs)
theorem LsaAt.only {q : Bool} {A : Option Addr} {n : Nat} {B : Option Addr} {m : Nat} {x : LsaM} (h' : LsaAt q l h w A n B m x) (ho : Only lo hi w w') (hd : h ≤ lo ∨ hi ≤ l) : LsaAt q l h w' A n B m x := ⟨h'.in_.only ho hd h'.le, Nat.le_trans h'.le ho.size⟩
end

def mLsa (l : LsaM) (k0 : Int) : LsaM := { l with links := mLinks k0 l.links.length, routers := mInts (k0 + 4 * (l.links.length : Int)) l.routers.length }

end Go.Proofs.Ytiffhjofabaflaa
