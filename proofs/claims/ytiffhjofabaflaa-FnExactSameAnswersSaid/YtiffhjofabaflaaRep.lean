/-
  How data of any depth lies in memory: a 'Rep' tells which cells an item takes and what they say, within a range of blocks; ranges that do not meet keep each other. No statement is proved here.
-/
import Derived.Test.YtiffhjofabaflaaBase
namespace Go.Proofs.Ytiffhjofabaflaa
open Go.RowKit

/-- The blocks of a range are as they were. -/
def SameIn (lo hi : Nat) (w w' : World) : Prop := ∀ b, lo ≤ b → b < hi → w'.heap[b]? = w.heap[b]?
/-- What lies outside of a range of blocks, and was there, is as it was. -/
structure Only (lo hi : Nat) (w w' : World) : Prop where
  os : w'.os = w.os
  tape : w'.tape = w.tape
  output : w'.output = w.output
  size : w.heap.size ≤ w'.heap.size
  block : ∀ b, b < w.heap.size → (b < lo ∨ hi ≤ b) → w'.heap[b]? = w.heap[b]?

theorem Only.of_below {w w' : World} (h : Below w.heap.size w w') (lo hi : Nat) : Only lo hi w w' := ⟨h.os, h.tape, h.output, h.size, fun b hb _ => h.block b hb⟩
theorem Only.trans {lo hi : Nat} {a b c : World} (h : Only lo hi a b) (k : Only lo hi b c) : Only lo hi a c :=
  ⟨k.os.trans h.os, k.tape.trans h.tape, k.output.trans h.output, Nat.le_trans h.size k.size, fun i hi' ho => (k.block i (Nat.lt_of_lt_of_le hi' h.size) ho).trans (h.block i hi' ho)⟩
theorem Only.mono {lo hi lo' hi' : Nat} {w w' : World} (h : Only lo hi w w') (h1 : lo' ≤ lo) (h2 : hi ≤ hi') : Only lo' hi' w w' :=
  ⟨h.os, h.tape, h.output, h.size, fun b hb ho => h.block b hb (by omega)⟩
theorem Only.below {lo hi B : Nat} {w w' : World} (h : Only lo hi w w') (hB : B ≤ lo) (hs : B ≤ w.heap.size) : Below B w w' :=
  ⟨h.os, h.tape, h.output, h.size, fun b hb => h.block b (by omega) (.inl (by omega))⟩
theorem Only.same {lo hi l h : Nat} {w w' : World} (ho : Only lo hi w w') (hd : h ≤ lo ∨ hi ≤ l) (hs : h ≤ w.heap.size) : SameIn l h w w' :=
  fun b h1 h2 => ho.block b (by omega) (by omega)
theorem SameIn.of_below {w w' : World} (h : Below w.heap.size w w') {lo hi : Nat} (hh : hi ≤ w.heap.size) : SameIn lo hi w w' := fun b _ h2 => h.block b (by omega)

/-- How items of a type lie in cells: 'size' cells each; 'rel q lo hi w cs a': the cells cs tell a, and all that they lead to lies in blocks lo to hi - 1 of the world w (q: and may be written). -/
structure Rep (α : Type) where
  size : Nat
  rel : Bool → Nat → Nat → World → List Value → α → Prop
  len : ∀ {q lo hi w cs a}, rel q lo hi w cs a → cs.length = size
  keep : ∀ {q lo hi w w' cs a}, rel q lo hi w cs a → SameIn lo hi w w' → rel q lo hi w' cs a
  mono : ∀ {q lo hi lo' hi' w cs a}, rel q lo hi w cs a → lo' ≤ lo → hi ≤ hi' → rel q lo' hi' w cs a

def Rep.int : Rep Int where
  size := 1
  rel _ _ _ _ cs a := cs = [.int .i64 a]
  len h := by rw [h]; rfl
  keep h _ := h
  mono h _ _ := h
def Rep.byte : Rep Int where
  size := 1
  rel _ _ _ _ cs a := cs = [.int .u8 a]
  len h := by rw [h]; rfl
  keep h _ := h
  mono h _ _ := h
def Rep.bool : Rep Bool where
  size := 1
  rel _ _ _ _ cs a := cs = [.bool a]
  len h := by rw [h]; rfl
  keep h _ := h
  mono h _ _ := h

/-- Two items, one behind the other. -/
def Rep.prod {α β : Type} (r : Rep α) (s : Rep β) : Rep (α × β) where
  size := r.size + s.size
  rel q lo hi w cs a := ∃ c1 c2, cs = c1 ++ c2 ∧ r.rel q lo hi w c1 a.1 ∧ s.rel q lo hi w c2 a.2
  len h := by obtain ⟨c1, c2, rfl, h1, h2⟩ := h; rw [List.length_append, r.len h1, s.len h2]
  keep h k := by obtain ⟨c1, c2, e, h1, h2⟩ := h; exact ⟨c1, c2, e, r.keep h1 k, s.keep h2 k⟩
  mono h l u := by obtain ⟨c1, c2, e, h1, h2⟩ := h; exact ⟨c1, c2, e, r.mono h1 l u, s.mono h2 l u⟩

/-- An item that is told by another one. -/
def Rep.map {α β : Type} (r : Rep α) (f : β → α) : Rep β where
  size := r.size
  rel q lo hi w cs b := r.rel q lo hi w cs (f b)
  len h := r.len h
  keep h k := r.keep h k
  mono h l u := r.mono h l u

/-- The cells of a row: from offset o of block b on, item by item. -/
def Rep.row {α : Type} (r : Rep α) (q : Bool) (lo hi : Nat) (w : World) (b o : Nat) (ys : List α) : Prop :=
  ∀ i a, ys[i]? = some a → ∃ cs, r.rel q lo hi w cs a ∧ ∀ j u, cs[j]? = some u → w.cell? ⟨b, o + i * r.size + j, none⟩ = some u

theorem Rep.row_keep {α : Type} (r : Rep α) {q : Bool} {lo hi : Nat} {w w' : World} {b o : Nat} {ys : List α} (h : r.row q lo hi w b o ys) (k : SameIn lo hi w w') (h1 : lo ≤ b) (h2 : b < hi) : r.row q lo hi w' b o ys := by
  intro i a ha
  obtain ⟨cs, hr, hc⟩ := h i a ha
  exact ⟨cs, r.keep hr k, fun j u hu => (World.cell?_of_block (k b h1 h2)).trans (hc j u hu)⟩
theorem Rep.row_mono {α : Type} (r : Rep α) {q : Bool} {lo hi lo' hi' : Nat} {w : World} {b o : Nat} {ys : List α} (h : r.row q lo hi w b o ys) (l : lo' ≤ lo) (u : hi ≤ hi') : r.row q lo' hi' w b o ys := by
  intro i a ha
  obtain ⟨cs, hr, hc⟩ := h i a ha
  exact ⟨cs, r.mono hr l u, hc⟩

/-- A slice value that tells the items. -/
def Rep.Sl {α : Type} (r : Rep α) (q : Bool) (lo hi : Nat) (w : World) (A : Option Addr) (n : Nat) (ys : List α) : Prop :=
  ys.length = n ∧ (0 < n → ∃ b o, A = some ⟨b, o, none⟩ ∧ lo ≤ b ∧ b < hi ∧ (q = true → ∀ i, w.frozen? ⟨b, i, none⟩ = false) ∧ r.row q lo hi w b o ys)

theorem Rep.Sl_nil {α : Type} (r : Rep α) (q : Bool) (lo hi : Nat) (w : World) (A : Option Addr) : r.Sl q lo hi w A 0 [] := ⟨rfl, fun h => absurd h (by omega)⟩

def Rep.slice {α : Type} (r : Rep α) : Rep (List α) where
  size := 1
  rel q lo hi w cs ys := ∃ A n c, cs = [.slice A n c] ∧ n ≤ c ∧ c ≤ maxLen ∧ r.Sl q lo hi w A n ys
  len h := by obtain ⟨A, n, c, rfl, _⟩ := h; rfl
  keep h k := by
    obtain ⟨A, n, c, e, hc, hcm, hl, h1⟩ := h
    refine ⟨A, n, c, e, hc, hcm, hl, fun hn => ?_⟩
    obtain ⟨b, o, e1, l, u, f, hr⟩ := h1 hn
    exact ⟨b, o, e1, l, u, fun hq i => (World.frozen?_of_block (a := ⟨b, i, none⟩) (k b l u)).trans (f hq i), r.row_keep hr k l u⟩
  mono h l u := by
    obtain ⟨A, n, c, e, hc, hcm, hl, h1⟩ := h
    refine ⟨A, n, c, e, hc, hcm, hl, fun hn => ?_⟩
    obtain ⟨b, o, e1, l1, u1, f, hr⟩ := h1 hn
    exact ⟨b, o, e1, by omega, by omega, f, r.row_mono hr l u⟩

section
variable {α : Type} {r : Rep α} {q : Bool} {lo hi lo' hi' : Nat} {w w' : World} {A : Option Addr} {n : Nat} {ys : List α}
theorem Rep.Sl.keep (h : r.Sl q lo hi w A n ys) (k : SameIn lo hi w w') : r.Sl q lo hi w' A n ys :=
  ⟨h.1, fun hn => by obtain ⟨b, o, e, l, u, f, hr⟩ := h.2 hn; exact ⟨b, o, e, l, u, fun hq i => (World.frozen?_of_block (a := ⟨b, i, none⟩) (k b l u)).trans (f hq i), r.row_keep hr k l u⟩⟩
theorem Rep.Sl.mono (h : r.Sl q lo hi w A n ys) (l : lo' ≤ lo) (u : hi ≤ hi') : r.Sl q lo' hi' w A n ys :=
  ⟨h.1, fun hn => by obtain ⟨b, o, e, l1, u1, f, hr⟩ := h.2 hn; exact ⟨b, o, e, by omega, by omega, f, r.row_mono hr l u⟩⟩
theorem Rep.Sl.below (h : r.Sl q lo hi w A n ys) (hb : Below w.heap.size w w') (hh : hi ≤ w.heap.size) : r.Sl q lo hi w' A n ys := h.keep (SameIn.of_below hb hh)
theorem Rep.Sl.at_ (h : r.Sl q lo hi w A n ys) {k : Nat} (hk : k < n) : ∃ b o a cs, A = some ⟨b, o, none⟩ ∧ ys[k]? = some a ∧ r.rel q lo hi w cs a ∧ ∀ j u, cs[j]? = some u → w.cell? ⟨b, o + k * r.size + j, none⟩ = some u := by
  obtain ⟨b, o, e, _, _, _, hr⟩ := h.2 (by omega)
  have hl : k < ys.length := by have := h.1; omega
  obtain ⟨cs, h1, h2⟩ := hr k ys[k] (List.getElem?_eq_getElem hl)
  exact ⟨b, o, ys[k], cs, e, List.getElem?_eq_getElem hl, h1, h2⟩
theorem Rep.Sl.drewN (h : r.Sl q lo hi w A n ys) (k : Nat) : r.Sl q lo hi (w.drewN k) A n ys := h.keep fun _ _ _ => rfl
end

end Go.Proofs.Ytiffhjofabaflaa
