/-
  Items in cells with the blocks that each of them takes besides ('feet'), and slices of such items: what lies apart is told by a list without repeats. No statement is proved here.
-/
import Derived.Test.YtiffhjofabaflaaFoot
import Derived.Test.YtiffhjofabaflaaAt
namespace Go.Proofs.Ytiffhjofabaflaa
open Go.RowKit
set_option linter.unusedVariables false

/-- How items lie in cells, and the blocks that each of them takes besides. -/
structure FRep (α : Type) where
  rep : Rep α
  rel : World → List Value → α → List Nat → Prop
  len : ∀ {w cs a bs}, rel w cs a bs → cs.length = rep.size
  keep : ∀ {w w' cs a bs}, rel w cs a bs → SameB bs w w' → rel w' cs a bs
  plain : ∀ {w cs a bs lo hi}, rel w cs a bs → (∀ b ∈ bs, lo ≤ b ∧ b < hi) → rep.rel true lo hi w cs a

/-- A slice of such items, and the blocks that it takes: first its own, then those of each item. -/
def FRep.Sl {α : Type} (r : FRep α) (w : World) (A : Option Addr) (n : Nat) (ys : List α) (bs : List Nat) : Prop :=
  ys.length = n ∧ ((n = 0 ∧ bs = []) ∨ (0 < n ∧ ∃ (b : Nat) (fs : List (List Nat)), A = some ⟨b, 0, none⟩ ∧ bs = b :: fs.flatten ∧ fs.length = n ∧ (∀ i, w.frozen? ⟨b, i, none⟩ = false) ∧
    ∀ i y f, ys[i]? = some y → fs[i]? = some f → ∃ cs, r.rel w cs y f ∧ ∀ j u, cs[j]? = some u → w.cell? ⟨b, i * r.rep.size + j, none⟩ = some u))

section
variable {α : Type} {r : FRep α} {w w' : World} {A : Option Addr} {n : Nat} {ys : List α} {bs : List Nat} {lo hi : Nat}
theorem FRep.Sl.nil (r : FRep α) (w : World) (A : Option Addr) : r.Sl w A 0 [] [] := ⟨rfl, .inl ⟨rfl, rfl⟩⟩
theorem FRep.Sl.keep (h : r.Sl w A n ys bs) (k : SameB bs w w') : r.Sl w' A n ys bs := by
  refine ⟨h.1, ?_⟩
  rcases h.2 with h | ⟨h0, b, fs, e, rfl, hl, hz, hr⟩
  · exact .inl h
  · refine .inr ⟨h0, b, fs, e, rfl, hl, fun i => (World.frozen?_of_block (a := ⟨b, i, none⟩) (k b (by simp))).trans (hz i), fun i y f hy hf => ?_⟩
    obtain ⟨cs, hc, hs⟩ := hr i y f hy hf
    exact ⟨cs, r.keep hc fun x hx => k x (by simp only [List.mem_cons]; exact .inr (mem_flat_of_get hf hx)), fun j u hj => (World.cell?_of_block (k b (by simp))).trans (hs j u hj)⟩
theorem FRep.Sl.plain (h : r.Sl w A n ys bs) (hb : ∀ b ∈ bs, lo ≤ b ∧ b < hi) : r.rep.Sl true lo hi w A n ys := by
  refine ⟨h.1, fun hn => ?_⟩
  rcases h.2 with ⟨h0, _⟩ | ⟨_, b, fs, e, rfl, hl, hz, hr⟩
  · omega
  · have h1 := hb b (by simp)
    refine ⟨b, 0, e, h1.1, h1.2, fun _ => hz, fun i y hy => ?_⟩
    have hil : i < fs.length := by
      have := (List.getElem?_eq_some_iff.1 hy).1
      rw [h.1] at this; omega
    obtain ⟨cs, hc, hs⟩ := hr i y fs[i] hy (List.getElem?_eq_getElem hil)
    refine ⟨cs, r.plain hc fun x hx => hb x (by simp only [List.mem_cons]; exact .inr (mem_flat_of_get (List.getElem?_eq_getElem hil) hx)), fun j u hj => ?_⟩
    rw [Nat.zero_add]; exact hs j u hj
/-- An item, and what it means to put another one there. -/
theorem FRep.Sl.at_ (h : r.Sl w A n ys bs) (hd : bs.Nodup) {k : Nat} (hk : k < n) :
    ∃ b y cs f, A = some ⟨b, 0, none⟩ ∧ b ∈ bs ∧ b ∉ f ∧ ys[k]? = some y ∧ (∀ i, w.frozen? ⟨b, i, none⟩ = false) ∧ r.rel w cs y f ∧ (∀ j u, cs[j]? = some u → w.cell? ⟨b, k * r.rep.size + j, none⟩ = some u) ∧ f.Nodup ∧ (∀ x ∈ f, x ∈ bs) ∧
      ∀ w' z cs', (∀ x ∈ bs, x ≠ b → x ∉ f → w'.heap[x]? = w.heap[x]?) → (∀ i, w'.frozen? ⟨b, i, none⟩ = false) → (∀ i, i < k * r.rep.size ∨ (k + 1) * r.rep.size ≤ i → w'.cell? ⟨b, i, none⟩ = w.cell? ⟨b, i, none⟩) →
        r.rel w' cs' z f → (∀ j u, cs'[j]? = some u → w'.cell? ⟨b, k * r.rep.size + j, none⟩ = some u) → r.Sl w' A n (ys.set k z) bs := by
  rcases h.2 with ⟨h0, _⟩ | ⟨h0, b, fs, e, rfl, hl, hz, hr⟩
  · omega
  · have hky : k < ys.length := by rw [h.1]; exact hk
    have hkf : k < fs.length := by omega
    obtain ⟨cs, hc, hs⟩ := hr k ys[k] fs[k] (List.getElem?_eq_getElem hky) (List.getElem?_eq_getElem hkf)
    have hsub : ∀ x ∈ fs[k], x ∈ fs.flatten := fun x hx => mem_flat_of_get (List.getElem?_eq_getElem hkf) hx
    have hd1 := List.nodup_cons.1 hd
    refine ⟨b, ys[k], cs, fs[k], e, by simp, fun hx => hd1.1 (hsub b hx), List.getElem?_eq_getElem hky, hz, hc, hs, (List.pairwise_flatten.1 hd1.2).1 _ (List.getElem_mem hkf), fun x hx => List.mem_cons_of_mem _ (hsub x hx), fun w' z cs' hw hz' hcl hcz hsz => ?_⟩
    refine ⟨by rw [List.length_set]; exact h.1, .inr ⟨h0, b, fs, e, rfl, hl, hz', fun i y f hy hf => ?_⟩⟩
    by_cases hi : i = k
    · subst hi
      rw [List.getElem?_set_self hky] at hy
      rw [List.getElem?_eq_getElem hkf] at hf
      injection hy with hy; injection hf with hf
      subst hy hf
      exact ⟨cs', hcz, hsz⟩
    · rw [List.getElem?_set_ne (fun h => hi h.symm)] at hy
      obtain ⟨cs2, hc2, hs2⟩ := hr i y f hy hf
      have hil : i < fs.length := (List.getElem?_eq_some_iff.1 hf).1
      have hfi : fs[i] = f := (List.getElem?_eq_some_iff.1 hf).2
      have hp : fs.Pairwise (fun a b => ∀ x ∈ a, ∀ y ∈ b, x ≠ y) := (List.pairwise_flatten.1 hd1.2).2
      refine ⟨cs2, r.keep hc2 fun x hx => hw x (List.mem_cons_of_mem _ (mem_flat_of_get hf hx)) (fun hxb => hd1.1 (hxb ▸ mem_flat_of_get hf hx)) fun hx' => ?_, fun j u hj => ?_⟩
      · rcases Nat.lt_or_gt_of_ne hi with hlt | hgt
        · exact (List.pairwise_iff_getElem.1 hp i k hil hkf hlt) x (hfi ▸ hx) x hx' rfl
        · exact (List.pairwise_iff_getElem.1 hp k i hkf hil hgt) x hx' x (hfi ▸ hx) rfl
      · have hjl : j < r.rep.size := by rw [← r.len hc2]; exact (List.getElem?_eq_some_iff.1 hj).1
        refine (hcl _ ?_).trans (hs2 j u hj)
        rcases Nat.lt_or_gt_of_ne hi with hlt | hgt
        · left
          have : (i + 1) * r.rep.size ≤ k * r.rep.size := Nat.mul_le_mul_right _ hlt
          rw [Nat.succ_mul] at this; omega
        · right
          have : (k + 1) * r.rep.size ≤ i * r.rep.size := Nat.mul_le_mul_right _ hgt
          omega
end

/-- Slices of such items in a range of blocks. -/
def FRepK {α : Type} (r : FRep α) (lo hi : Nat) (A : Option Addr) (n : Nat) (ys : List α) : World → Prop := fun w => ∃ bs, r.Sl w A n ys bs ∧ bs.Nodup ∧ ∀ b ∈ bs, lo ≤ b ∧ b < hi
theorem FRepK.kept {α : Type} {r : FRep α} {lo hi : Nat} {A : Option Addr} {n : Nat} {ys : List α} {w : World} (h : FRepK r lo hi A n ys w) (hs : hi ≤ w.heap.size) : Kept lo hi (FRepK r lo hi A n ys) w := by
  obtain ⟨bs, h1, h2, h3⟩ := h
  exact ⟨hs, fun w2 k => ⟨bs, h1.keep fun b hb => k b (h3 b hb).1 (h3 b hb).2, h2, h3⟩⟩
theorem FRepK.sl {α : Type} {r : FRep α} {lo hi : Nat} {A : Option Addr} {n : Nat} {ys : List α} {w : World} (h : FRepK r lo hi A n ys w) : r.rep.Sl true lo hi w A n ys := by
  obtain ⟨bs, h1, h2, h3⟩ := h
  exact h1.plain h3
theorem FRepK.mono {α : Type} {r : FRep α} {lo hi lo' hi' : Nat} {A : Option Addr} {n : Nat} {ys : List α} {w : World} (h : FRepK r lo hi A n ys w) (l : lo' ≤ lo) (u : hi ≤ hi') : FRepK r lo' hi' A n ys w := by
  obtain ⟨bs, h1, h2, h3⟩ := h
  exact ⟨bs, h1, h2, fun b hb => by have := h3 b hb; omega⟩

end Go.Proofs.Ytiffhjofabaflaa
