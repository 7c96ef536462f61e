/-
  Entries (an advertisement and a time) in cells. No statement is proved here.
-/
import Derived.Test.YtiffhjofabaflaaPuts
import Derived.Test.YtiffhjofabaflaaHeldLsa
namespace Go.Proofs.Ytiffhjofabaflaa
open Go.RowKit
set_option linter.unusedVariables false

/-- An entry. -/
structure Ent where
  l : LsaM
  at_ : Int

abbrev entCells (l : LsaM) (t : Int) (A B : Option Addr) (n c m d : Nat) : Array Value :=
  #[.int .i64 l.age, .int .i64 l.options, .int .i64 l.typ, .int .i64 l.id, .int .i64 l.adv, .int .i64 l.seq, .slice A n c, .slice B m d, .int .i64 l.mask, .int .i64 l.cost, .int .i64 t]

def Rep.ent : Rep Ent where
  size := 11
  rel q lo hi w cs e := ∃ A B n c m d, cs = (entCells e.l e.at_ A B n c m d).toList ∧ LsaIn q lo hi w A n B m e.l
  len h := by obtain ⟨A, B, n, c, m, d, rfl, _⟩ := h; rfl
  keep h k := by obtain ⟨A, B, n, c, m, d, e, h⟩ := h; exact ⟨A, B, n, c, m, d, e, h.keep k⟩
  mono h l u := by obtain ⟨A, B, n, c, m, d, e, h⟩ := h; exact ⟨A, B, n, c, m, d, e, h.mono l u⟩

theorem Rep.ent_at {q : Bool} {lo hi : Nat} {w : World} {A : Option Addr} {n : Nat} {ys : List Ent} (h : Rep.ent.Sl q lo hi w A n ys) {k : Nat} (hk : k < n) :
    ∃ b o e E F m c m' d, A = some ⟨b, o, none⟩ ∧ ys[k]? = some e ∧ LsaIn q lo hi w E m F m' e.l ∧
      w.cell? ⟨b, o + k * 11, none⟩ = some (.int .i64 e.l.age) ∧ w.cell? ⟨b, o + k * 11 + 1, none⟩ = some (.int .i64 e.l.options) ∧ w.cell? ⟨b, o + k * 11 + 2, none⟩ = some (.int .i64 e.l.typ) ∧
      w.cell? ⟨b, o + k * 11 + 3, none⟩ = some (.int .i64 e.l.id) ∧ w.cell? ⟨b, o + k * 11 + 4, none⟩ = some (.int .i64 e.l.adv) ∧ w.cell? ⟨b, o + k * 11 + 5, none⟩ = some (.int .i64 e.l.seq) ∧
      w.cell? ⟨b, o + k * 11 + 6, none⟩ = some (.slice E m c) ∧ w.cell? ⟨b, o + k * 11 + 7, none⟩ = some (.slice F m' d) ∧ w.cell? ⟨b, o + k * 11 + 8, none⟩ = some (.int .i64 e.l.mask) ∧
      w.cell? ⟨b, o + k * 11 + 9, none⟩ = some (.int .i64 e.l.cost) ∧ w.cell? ⟨b, o + k * 11 + 10, none⟩ = some (.int .i64 e.at_) := by
  obtain ⟨b, o, e, cs, e1, he, hr, hc⟩ := h.at_ hk
  obtain ⟨E, F, m, c, m', d, rfl, hl⟩ := hr
  exact ⟨b, o, e, E, F, m, c, m', d, e1, he, hl, hc 0 _ rfl, hc 1 _ rfl, hc 2 _ rfl, hc 3 _ rfl, hc 4 _ rfl, hc 5 _ rfl, hc 6 _ rfl, hc 7 _ rfl, hc 8 _ rfl, hc 9 _ rfl, hc 10 _ rfl⟩

/-- An entry with the blocks of its slices. -/
def FRep.ent : FRep Ent where
  rep := Rep.ent
  rel w cs e bs := ∃ A B n c m d f g, cs = (entCells e.l e.at_ A B n c m d).toList ∧ bs = f ++ g ∧ Rep.link.FSl w A n e.l.links f ∧ Rep.int.FSl w B m e.l.routers g
  len h := by obtain ⟨A, B, n, c, m, d, f, g, rfl, _⟩ := h; rfl
  keep h k := by
    obtain ⟨A, B, n, c, m, d, f, g, e, rfl, h1, h2⟩ := h
    exact ⟨A, B, n, c, m, d, f, g, e, rfl, h1.keep fun b hb => k b (List.mem_append_left _ hb), h2.keep fun b hb => k b (List.mem_append_right _ hb)⟩
  plain h hb := by
    obtain ⟨A, B, n, c, m, d, f, g, e, rfl, h1, h2⟩ := h
    exact ⟨A, B, n, c, m, d, e, h1.sl fun b hx => hb b (List.mem_append_left _ hx), h2.sl fun b hx => hb b (List.mem_append_right _ hx)⟩

theorem Rep.FSl.of_flat {α : Type} {r : Rep α} (hf : ∀ {q lo hi lo' hi' w w' cs a}, r.rel q lo hi w cs a → r.rel true lo' hi' w' cs a) {l k : Nat} {w : World} {A : Option Addr} {n : Nat} {ys : List α} (s : r.Sl true l k w A n ys) :
    ∃ f, r.FSl w A n ys f ∧ f.Nodup ∧ ∀ b ∈ f, l ≤ b ∧ b < k := by
  rcases Nat.eq_zero_or_pos n with h0 | h0
  · subst h0
    exact ⟨[], .inl ⟨rfl, List.eq_nil_of_length_eq_zero s.1, rfl⟩, List.nodup_nil, fun x hx => by cases hx⟩
  · obtain ⟨b, o, e, h1, h2, h3, h4⟩ := s.2 h0
    refine ⟨[b], .inr ⟨h0, b, rfl, s.1, fun _ => ⟨b, o, e, Nat.le_refl _, Nat.lt_succ_self _, h3, fun i a ha => ?_⟩⟩, by simp, fun x hx => by simp at hx; subst hx; exact ⟨h1, h2⟩⟩
    obtain ⟨cs, hc, hs⟩ := h4 i a ha
    exact ⟨cs, hf hc, hs⟩
/-- Two slices that lie apart, as blocks. -/
theorem LsaTwo.feet {lo hi : Nat} {w : World} {A B : Option Addr} {n m : Nat} {l : LsaM} (h : LsaTwo lo hi w A n B m l) :
    ∃ f g, Rep.link.FSl w A n l.links f ∧ Rep.int.FSl w B m l.routers g ∧ (f ++ g).Nodup ∧ ∀ b ∈ f ++ g, lo ≤ b ∧ b < hi := by
  obtain ⟨l1, k1, l2, k2, a1, a2, a3, a4, d, s1, s2⟩ := h.two
  obtain ⟨f, f1, f2, f3⟩ := Rep.FSl.of_flat (r := Rep.link) (fun h => h) s1
  obtain ⟨g, g1, g2, g3⟩ := Rep.FSl.of_flat (r := Rep.int) (fun h => h) s2
  refine ⟨f, g, f1, g1, List.nodup_append.2 ⟨f2, g2, fun x hx y hy e => ?_⟩, fun b hb => ?_⟩
  · have := f3 x hx; have := g3 y hy; omega
  · rcases List.mem_append.1 hb with hb | hb
    · have := f3 b hb; omega
    · have := g3 b hb; omega
theorem LsaTwo.of_feet {w : World} {A B : Option Addr} {n m : Nat} {l : LsaM} {f g : List Nat} {lo hi : Nat} (h1 : Rep.link.FSl w A n l.links f) (h2 : Rep.int.FSl w B m l.routers g) (hb : ∀ b ∈ f ++ g, lo ≤ b ∧ b < hi) (hh : hi ≤ w.heap.size) : LsaIn true lo hi w A n B m l :=
  ⟨h1.sl fun b hx => hb b (List.mem_append_left _ hx), h2.sl fun b hx => hb b (List.mem_append_right _ hx)⟩

end Go.Proofs.Ytiffhjofabaflaa
