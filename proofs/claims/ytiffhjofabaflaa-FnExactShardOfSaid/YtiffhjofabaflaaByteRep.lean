/-
  Bytes as items: a slice of bytes in a range of blocks. No statement is proved here.
-/
import Derived.Test.YtiffhjofabaflaaWalk
import Derived.Test.YtiffhjofabaflaaHelp
import Derived.Test.YtiffhjofabaflaaOpen
namespace Go.Proofs.Ytiffhjofabaflaa
open Go.RowKit Go.ChangeShapes Go.WideShapes Go.ChangeAt Go.Deep
set_option linter.unusedVariables false

def Rep.u8 : Rep Int where
  size := 1
  rel _ _ _ _ cs a := cs = [.int .u8 a] ∧ 0 ≤ a ∧ a < 256
  len h := by rw [h.1]; rfl
  keep h _ := h
  mono h _ _ := h
theorem opens_u8 {P : Program} {t : TypeId} (ht : P.underlying t = some (.int .u8)) : Opens P t Rep.u8 := fun H enc w fuel cs x h => by
  obtain ⟨n, rfl, _, hw⟩ := DataW.trod_int ht h
  have lo : IntKind.u8.min = 0 := rfl
  have up : IntKind.u8.max = 255 := rfl
  simp only [Lit.wf, Bool.and_eq_true, decide_eq_true_eq] at hw
  exact ⟨n, rfl, by omega, by omega⟩
section
variable {q : Bool} {lo hi : Nat} {w w' : World} {A : Option Addr} {n : Nat} {ys : List Int}
theorem Rep.Sl.bytes (h : Rep.u8.Sl q lo hi w A n ys) : Bytes ys := fun z hz => by
  obtain ⟨i, hi', rfl⟩ := List.getElem_of_mem hz
  have hl := h.1
  obtain ⟨b, o, a, cs, _, ha, hr, _⟩ := h.at_ (k := i) (by omega)
  rw [List.getElem?_eq_getElem hi'] at ha
  injection ha with ha
  rw [ha]; exact hr.2
theorem Rep.Sl.bin (h : Rep.u8.Sl q lo hi w A n ys) : BIn w A n ys := ⟨h.1, fun hn => by
  obtain ⟨b, o, e, _, _, _, hr⟩ := h.2 hn
  refine ⟨b, o, e, fun i hi' => ?_⟩
  have hl : i < ys.length := by have := h.1; omega
  obtain ⟨cs, ⟨rfl, _⟩, hc⟩ := hr i ys[i] (List.getElem?_eq_getElem hl)
  have := hc 0 _ rfl
  rw [show o + i * Rep.u8.size + 0 = o + i by simp [Rep.u8]] at this
  rw [this]
  simp [List.getD, hl]⟩
theorem Own.u8 {B c : Nat} (h : Own w B A n c ys) (hb : Bytes ys) : Rep.u8.Sl true B w.heap.size w A n ys := ⟨h.len, fun hn => by
  obtain ⟨g, rfl, h1, h2⟩ := h.form hn
  refine ⟨g, 0, rfl, h1, h2, fun _ i => h.frozen i, fun i a ha => ⟨[.int .u8 a], ⟨rfl, hb a (List.mem_of_getElem? ha)⟩, fun j u hj => ?_⟩⟩
  have hil := (List.getElem?_eq_some_iff.1 ha).1
  have hl := h.len
  rcases j with _ | j
  · simp at hj
    subst hj
    have := h.cell (j := i) (by omega)
    rw [show 0 + i * Rep.u8.size + 0 = i by simp [Rep.u8], this]
    simp [List.getD, ha]
  · simp at hj⟩
end
theorem toByteS_sl (q : Bool) (lo hi : Nat) (A : Option Addr) (n c : Nat) (ys : List Int) (w : World) (ha : Rep.u8.Sl q lo hi w A n ys) (hn : n ≤ 1048576) :
    Calls Try.prog 145 #[.slice A n c] w fun e w' => ∃ P, e = .returned (.slice P n n) ∧ Kept w.heap.size w'.heap.size (SlK Rep.u8 true w.heap.size w'.heap.size P n ys) w' ∧ Below w.heap.size w w' :=
  (toByteS_any A n c ys w ha.bin hn).mono fun e w' ⟨h1, h2, h3⟩ => ⟨_, h1, Rep.Sl.kept (h2.u8 ha.bytes) (Nat.le_refl _), h3⟩
theorem eqByteS_sl (q1 q2 : Bool) (l1 h1 l2 h2 : Nat) (A B : Option Addr) (n c d : Nat) (ys : List Int) (w : World) (ha : Rep.u8.Sl q1 l1 h1 w A n ys) (hb : Rep.u8.Sl q2 l2 h2 w B n ys) (hn : n ≤ 1048576) :
    Calls Try.prog 149 #[.slice A n c, .slice B n d] w fun e w' => e = .returned (.bool true) ∧ Below w.heap.size w w' :=
  eqByteS_yes A B n n c d ys w ha.bin hb.bin hn hn

end Go.Proofs.Ytiffhjofabaflaa
