/-
  Marks in wheels and in what is answered with a wheel. No statement is proved here.
-/
import Derived.Test.YtooogjfnnmacjaaWheelLaws
namespace Go.Proofs.Ytooogjfnnmacjaa
open Go.RowKit
set_option linter.unusedVariables false

theorem OnlyB.of_below {bs : List Nat} {w w' : World} (h : Below w.heap.size w w') : OnlyB bs w w' := ⟨h.os, h.tape, h.output, h.size, fun b hb _ => h.block b hb⟩
theorem OnlyB.mono {bs cs : List Nat} {w w' : World} (h : OnlyB bs w w') (k : ∀ b ∈ bs, b ∈ cs) : OnlyB cs w w' := ⟨h.os, h.tape, h.output, h.size, fun b hb hn => h.block b hb fun hx => hn (k b hx)⟩
theorem SameB.of_onlyB {bs cs : List Nat} {w w' : World} (h : OnlyB bs w w') (hd : ∀ b ∈ cs, b ∉ bs) (hl : ∀ b ∈ cs, b < w.heap.size) : SameB cs w w' := fun b hb => h.block b (hl b hb) (hd b hb)
theorem SameB.of_below {cs : List Nat} {w w' : World} (h : Below w.heap.size w w') (hl : ∀ b ∈ cs, b < w.heap.size) : SameB cs w w' := fun b hb => h.block b (hl b hb)
theorem Box.onlyB {w w' : World} {g : Nat} {t : TypeId} {cs : Array Value} {bs : List Nat} (hb : Box w g t cs) (ho : OnlyB bs w w') (hd : g ∉ bs) : Box w' g t cs := (ho.block g hb.lt hd).trans hb

end Go.Proofs.Ytooogjfnnmacjaa
