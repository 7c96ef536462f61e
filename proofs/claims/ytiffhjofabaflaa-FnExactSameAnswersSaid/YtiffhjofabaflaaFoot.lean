/-
  Slices, and slices of slices, with the blocks that they take ('footprints'): what lies apart is told by a list without repeats. No statement is proved here.
-/
import Derived.Test.YtiffhjofabaflaaNest
import Derived.Test.YtiffhjofabaflaaWalk
namespace Go.Proofs.Ytiffhjofabaflaa
open Go.RowKit
set_option linter.unusedVariables false

/-- These blocks are as they were. -/
def SameB (bs : List Nat) (w w' : World) : Prop := ∀ b ∈ bs, w'.heap[b]? = w.heap[b]?
/-- What is none of these blocks, and was there, is as it was. -/
structure OnlyB (bs : List Nat) (w w' : World) : Prop where
  os : w'.os = w.os
  tape : w'.tape = w.tape
  output : w'.output = w.output
  size : w.heap.size ≤ w'.heap.size
  block : ∀ b, b < w.heap.size → b ∉ bs → w'.heap[b]? = w.heap[b]?
theorem OnlyB.refl (bs : List Nat) (w : World) : OnlyB bs w w := ⟨rfl, rfl, rfl, Nat.le_refl _, fun _ _ _ => rfl⟩
theorem OnlyB.trans {bs : List Nat} {a b c : World} (h : OnlyB bs a b) (k : OnlyB bs b c) : OnlyB bs a c :=
  ⟨k.os.trans h.os, k.tape.trans h.tape, k.output.trans h.output, Nat.le_trans h.size k.size, fun i hi ho => (k.block i (Nat.lt_of_lt_of_le hi h.size) ho).trans (h.block i hi ho)⟩
theorem OnlyB.of_only {bs : List Nat} {w w' : World} {b : Nat} (h : Only b (b + 1) w w') (hb : b ∈ bs) : OnlyB bs w w' :=
  ⟨h.os, h.tape, h.output, h.size, fun i hi ho => h.block i hi (by
    rcases Nat.lt_trichotomy i b with h1 | h1 | h1
    · exact .inl h1
    · subst h1; exact absurd hb ho
    · exact .inr h1)⟩
theorem OnlyB.of_same {bs : List Nat} {w w' : World} (h : Only 0 0 w w') : OnlyB bs w w' := ⟨h.os, h.tape, h.output, h.size, fun i hi _ => h.block i hi (.inr (Nat.zero_le _))⟩
theorem OnlyB.drewN {bs : List Nat} {a w : World} (h : OnlyB bs a w) (k : Nat) : OnlyB bs a (w.drewN k) := ⟨h.os, h.tape, h.output, h.size, h.block⟩
theorem OnlyB.only {bs : List Nat} {w w' : World} {lo hi : Nat} (h : OnlyB bs w w') (hb : ∀ b ∈ bs, lo ≤ b ∧ b < hi) : Only lo hi w w' :=
  ⟨h.os, h.tape, h.output, h.size, fun i hi ho => h.block i hi (fun hm => by have := hb i hm; omega)⟩

/-- A slice of items, and the blocks that it takes: one, or none. -/
def Rep.FSl {α : Type} (r : Rep α) (w : World) (A : Option Addr) (n : Nat) (ys : List α) (bs : List Nat) : Prop :=
  (n = 0 ∧ ys = [] ∧ bs = []) ∨ (0 < n ∧ ∃ b, bs = [b] ∧ r.Sl true b (b + 1) w A n ys)
section
variable {α : Type} {r : Rep α} {w w' : World} {A : Option Addr} {n : Nat} {ys : List α} {bs : List Nat} {lo hi : Nat}
theorem Rep.FSl.len (h : r.FSl w A n ys bs) : ys.length = n := by
  rcases h with ⟨rfl, rfl, _⟩ | ⟨_, b, _, h⟩
  · rfl
  · exact h.1
theorem Rep.FSl.keep (h : r.FSl w A n ys bs) (k : SameB bs w w') : r.FSl w' A n ys bs := by
  rcases h with h | ⟨h0, b, rfl, h⟩
  · exact .inl h
  · refine .inr ⟨h0, b, rfl, h.keep fun i h1 h2 => ?_⟩
    obtain rfl : i = b := by omega
    exact k i (by simp)
theorem Rep.FSl.sl (h : r.FSl w A n ys bs) (hb : ∀ b ∈ bs, lo ≤ b ∧ b < hi) : r.Sl true lo hi w A n ys := by
  rcases h with ⟨rfl, rfl, _⟩ | ⟨_, b, rfl, h⟩
  · exact r.Sl_nil _ _ _ _ _
  · have := hb b (by simp)
    exact h.mono (by omega) (by omega)
theorem Rep.FSl.of_sl {b : Nat} (h : r.Sl true b (b + 1) w A n ys) : ∃ bs, r.FSl w A n ys bs ∧ bs.Nodup ∧ ∀ x ∈ bs, x = b := by
  rcases Nat.eq_zero_or_pos n with h0 | h0
  · subst h0
    exact ⟨[], .inl ⟨rfl, List.eq_nil_of_length_eq_zero h.1, rfl⟩, List.nodup_nil, fun x hx => by cases hx⟩
  · exact ⟨[b], .inr ⟨h0, b, rfl, h⟩, by simp, fun x hx => by simpa using hx⟩
theorem Rep.FSl.nil (r : Rep α) (w : World) (A : Option Addr) : r.FSl w A 0 [] [] := .inl ⟨rfl, rfl, rfl⟩
end

/-- Slices of slices, and the blocks that they take: first the outer one's, then those of each row. -/
def Rep.FRows {α : Type} (r : Rep α) (w : World) (A : Option Addr) (n : Nat) (ys : List (List α)) (bs : List Nat) : Prop :=
  ys.length = n ∧ ((n = 0 ∧ bs = []) ∨ (0 < n ∧ ∃ (b o : Nat) (fs : List (List Nat)), A = some ⟨b, o, none⟩ ∧ bs = b :: fs.flatten ∧ fs.length = n ∧
    ∀ i y f, ys[i]? = some y → fs[i]? = some f → ∃ E m c, w.cell? ⟨b, o + i, none⟩ = some (.slice E m c) ∧ r.FSl w E m y f))
section
variable {α : Type} {r : Rep α} {w w' : World} {A : Option Addr} {n : Nat} {ys : List (List α)} {bs : List Nat} {lo hi : Nat}
theorem mem_flat_of_get {fs : List (List Nat)} {i : Nat} {f : List Nat} (h : fs[i]? = some f) {x : Nat} (hx : x ∈ f) : x ∈ fs.flatten :=
  List.mem_flatten.2 ⟨f, List.mem_of_getElem? h, hx⟩
theorem Rep.FRows.keep (h : r.FRows w A n ys bs) (k : SameB bs w w') : r.FRows w' A n ys bs := by
  refine ⟨h.1, ?_⟩
  rcases h.2 with h | ⟨h0, b, o, fs, e, rfl, hl, hr⟩
  · exact .inl h
  · refine .inr ⟨h0, b, o, fs, e, rfl, hl, fun i y f hy hf => ?_⟩
    obtain ⟨E, m, c, hc, hs⟩ := hr i y f hy hf
    exact ⟨E, m, c, (World.cell?_of_block (k b (by simp))).trans hc, hs.keep fun x hx => k x (by simp only [List.mem_cons]; exact .inr (mem_flat_of_get hf hx))⟩
theorem Rep.FRows.sl (h : r.FRows w A n ys bs) (hq : ∀ lo hi w cs a, r.rel true lo hi w cs a → r.rel false lo hi w cs a) (hb : ∀ b ∈ bs, lo ≤ b ∧ b < hi) : r.rows.Sl false lo hi w A n ys := by
  refine ⟨h.1, fun hn => ?_⟩
  rcases h.2 with ⟨h0, _⟩ | ⟨_, b, o, fs, e, rfl, hl, hr⟩
  · omega
  · have h1 := hb b (by simp)
    refine ⟨b, o, e, h1.1, h1.2, fun hf => (by cases hf), fun i y hy => ?_⟩
    have hil : i < fs.length := by
      have := (List.getElem?_eq_some_iff.1 hy).1
      rw [h.1] at this; omega
    obtain ⟨E, m, c, hc, hs⟩ := hr i y fs[i] hy (List.getElem?_eq_getElem hil)
    refine ⟨[.slice E m c], ⟨E, m, c, rfl, ?_⟩, fun j u hj => ?_⟩
    · have hs2 := hs.sl (lo := lo) (hi := hi) fun x hx => hb x (by simp only [List.mem_cons]; exact .inr (mem_flat_of_get (List.getElem?_eq_getElem hil) hx))
      refine ⟨hs2.1, fun hm => ?_⟩
      obtain ⟨b', o', e', l1, u1, _, hrow⟩ := hs2.2 hm
      refine ⟨b', o', e', l1, u1, fun hf => (by cases hf), fun i a ha => ?_⟩
      obtain ⟨cs, h1, h2⟩ := hrow i a ha
      exact ⟨cs, hq _ _ _ _ _ h1, h2⟩
    · obtain rfl : j = 0 := by
        rcases j with _ | j
        · rfl
        · simp at hj
      simp only [List.getElem?_cons_zero, Option.some.injEq] at hj
      subst hj
      show w.cell? ⟨b, o + i * 1 + 0, none⟩ = _
      rw [Nat.mul_one, Nat.add_zero]; exact hc
/-- A row, and what it means to put other items there. -/
theorem Rep.FRows.at_ (h : r.FRows w A n ys bs) (hd : bs.Nodup) {k : Nat} (hk : k < n) :
    ∃ b o y E m c f, A = some ⟨b, o, none⟩ ∧ b ∈ bs ∧ b ∉ f ∧ ys[k]? = some y ∧ w.cell? ⟨b, o + k, none⟩ = some (.slice E m c) ∧ r.FSl w E m y f ∧ (∀ x ∈ f, x ∈ bs) ∧
      ∀ w' z, (∀ x ∈ bs, x ∉ f → w'.heap[x]? = w.heap[x]?) → r.FSl w' E m z f → r.FRows w' A n (ys.set k z) bs := by
  rcases h.2 with ⟨h0, _⟩ | ⟨h0, b, o, fs, e, rfl, hl, hr⟩
  · omega
  · have hky : k < ys.length := by rw [h.1]; exact hk
    have hkf : k < fs.length := by omega
    obtain ⟨E, m, c, hc, hs⟩ := hr k ys[k] fs[k] (List.getElem?_eq_getElem hky) (List.getElem?_eq_getElem hkf)
    have hsub : ∀ x ∈ fs[k], x ∈ fs.flatten := fun x hx => mem_flat_of_get (List.getElem?_eq_getElem hkf) hx
    have hd1 := List.nodup_cons.1 hd
    refine ⟨b, o, ys[k], E, m, c, fs[k], e, by simp, fun hx => hd1.1 (hsub b hx), List.getElem?_eq_getElem hky, hc, hs, fun x hx => List.mem_cons_of_mem _ (hsub x hx), fun w' z hw hz => ?_⟩
    refine ⟨by rw [List.length_set]; exact h.1, .inr ⟨h0, b, o, fs, e, rfl, hl, fun i y f hy hf => ?_⟩⟩
    have hbs : w'.heap[b]? = w.heap[b]? := hw b (by simp) (fun hx => hd1.1 (hsub b hx))
    by_cases hi : i = k
    · subst hi
      rw [List.getElem?_set_self hky] at hy
      rw [List.getElem?_eq_getElem hkf] at hf
      injection hy with hy; injection hf with hf
      subst hy hf
      exact ⟨E, m, c, (World.cell?_of_block hbs).trans hc, hz⟩
    · rw [List.getElem?_set_ne (fun h => hi h.symm)] at hy
      obtain ⟨E', m', c', hc', hs'⟩ := hr i y f hy hf
      refine ⟨E', m', c', (World.cell?_of_block hbs).trans hc', hs'.keep fun x hx => hw x (List.mem_cons_of_mem _ (mem_flat_of_get hf hx)) fun hx' => ?_⟩
      -- the rows' blocks are apart
      have hil : i < fs.length := (List.getElem?_eq_some_iff.1 hf).1
      have hfi : fs[i] = f := (List.getElem?_eq_some_iff.1 hf).2
      have hp : fs.Pairwise (fun a b => ∀ x ∈ a, ∀ y ∈ b, x ≠ y) := (List.pairwise_flatten.1 hd1.2).2
      rcases Nat.lt_or_gt_of_ne hi with hlt | hgt
      · exact (List.pairwise_iff_getElem.1 hp i k hil hkf hlt) x (hfi ▸ hx) x hx' rfl
      · exact (List.pairwise_iff_getElem.1 hp k i hkf hil hgt) x hx' x (hfi ▸ hx) rfl
end

end Go.Proofs.Ytiffhjofabaflaa
