/-
  Advertisements whose two slices lie apart: marks written into both and found again; answers that hold an advertisement. No statement is proved here.
-/
import Derived.Test.YtiffhjofabaflaaMarkLsa
namespace Go.Proofs.Ytiffhjofabaflaa
open Go.RowKit
set_option linter.unusedVariables false

/-- Both slices of an advertisement lie in blocks lo to hi - 1, apart from each other, and may be written. -/
structure LsaTwo (lo hi : Nat) (w : World) (A : Option Addr) (n : Nat) (B : Option Addr) (m : Nat) (l : LsaM) : Prop where
  two : ∃ l1 h1 l2 h2, lo ≤ l1 ∧ h1 ≤ hi ∧ lo ≤ l2 ∧ h2 ≤ hi ∧ (h1 ≤ l2 ∨ h2 ≤ l1) ∧ Rep.link.Sl true l1 h1 w A n l.links ∧ Rep.int.Sl true l2 h2 w B m l.routers
  le : hi ≤ w.heap.size

section
variable {lo hi lo' hi' : Nat} {w w' : World} {A B : Option Addr} {n m : Nat} {l : LsaM}
theorem LsaTwo.at_ (h : LsaTwo lo hi w A n B m l) : LsaAt true lo hi w A n B m l := by
  obtain ⟨⟨l1, h1, l2, h2, a1, a2, a3, a4, _, s1, s2⟩, hl⟩ := h
  exact ⟨⟨s1.mono a1 a2, s2.mono a3 a4⟩, hl⟩
theorem LsaTwo.same (h : LsaTwo lo hi w A n B m l) (k : SameIn lo hi w w') (hs : w.heap.size ≤ w'.heap.size) : LsaTwo lo hi w' A n B m l := by
  obtain ⟨⟨l1, h1, l2, h2, a1, a2, a3, a4, d, s1, s2⟩, hl⟩ := h
  exact ⟨⟨l1, h1, l2, h2, a1, a2, a3, a4, d, s1.keep (fun b b1 b2 => k b (by omega) (by omega)), s2.keep (fun b b1 b2 => k b (by omega) (by omega))⟩, Nat.le_trans hl hs⟩
theorem LsaTwo.below (h : LsaTwo lo hi w A n B m l) (hb : Below w.heap.size w w') : LsaTwo lo hi w' A n B m l := h.same (SameIn.of_below hb h.le) hb.size
theorem LsaTwo.only (h : LsaTwo lo hi w A n B m l) (ho : Only lo' hi' w w') (hd : hi ≤ lo' ∨ hi' ≤ lo) : LsaTwo lo hi w' A n B m l := h.same (ho.same hd h.le) ho.size
theorem LsaTwo.mono (h : LsaTwo lo hi w A n B m l) (h1 : lo' ≤ lo) (h2 : hi ≤ hi') (h3 : hi' ≤ w.heap.size) : LsaTwo lo' hi' w A n B m l := by
  obtain ⟨⟨l1, k1, l2, k2, a1, a2, a3, a4, d, s1, s2⟩, hl⟩ := h
  exact ⟨⟨l1, k1, l2, k2, by omega, by omega, by omega, by omega, d, s1, s2⟩, h3⟩
end

theorem mInts_at (k0 : Int) (n k : Nat) (h : k < n) : (mInts k0 n).getD k 0 = k0 + k := by simp [mInts, List.getD, h]
theorem mLinks_at (k0 : Int) (n k : Nat) (h : k < n) : (mLinks k0 n)[k]? = some ⟨k0 + 4 * (k : Int), k0 + 4 * (k : Int) + 1, k0 + 4 * (k : Int) + 2, k0 + 4 * (k : Int) + 3⟩ := by simp [mLinks, h]

abbrev resCells (r : Int) (l : LsaM) (A B : Option Addr) (n c m d : Nat) : Array Value :=
  #[.int .i64 r, .int .i64 l.age, .int .i64 l.options, .int .i64 l.typ, .int .i64 l.id, .int .i64 l.adv, .int .i64 l.seq, .slice A n c, .slice B m d, .int .i64 l.mask, .int .i64 l.cost]

end Go.Proofs.Ytiffhjofabaflaa
