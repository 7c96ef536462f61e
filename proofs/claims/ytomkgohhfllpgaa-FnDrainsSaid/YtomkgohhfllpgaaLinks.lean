/-
  What the laws' helpers do with slices of int64 and of links: toInt64S, toLinkS copy; eqInt64S, eqLinkS find like ones alike. No statement is proved here.
-/
import Derived.Test.YtomkgohhfllpgaaRep
import Derived.Deep.RegionHeld3
namespace Go.Proofs.Ytomkgohhfllpgaa
open Go.RowKit

theorem wordInfo : (Try.prog.info? 2).map (fun i => (i.zero, i.size, i.bytes)) = some (some (.int .i64 0), 1, 8) := by kernel_rfl
/-- A link, as its four numbers. -/
structure Lnk where
  kind : Int
  to_ : Int
  own : Int
  cost : Int
def Rep.link : Rep Lnk where
  size := 4
  rel _ _ _ _ cs a := cs = [.int .i64 a.kind, .int .i64 a.to_, .int .i64 a.own, .int .i64 a.cost]
  len h := by rw [h]; rfl
  keep h _ := h
  mono h _ _ := h

theorem Rep.int_at {q : Bool} {lo hi : Nat} {w : World} {A : Option Addr} {n : Nat} {ys : List Int} (h : Rep.int.Sl q lo hi w A n ys) {k : Nat} (hk : k < n) :
    ∃ b o, A = some ⟨b, o, none⟩ ∧ w.cell? ⟨b, o + k, none⟩ = some (.int .i64 (ys.getD k 0)) := by
  obtain ⟨b, o, a, cs, e, ha, hr, hc⟩ := h.at_ hk
  have hr : cs = [.int .i64 a] := hr
  subst hr
  have := hc 0 _ rfl
  refine ⟨b, o, e, ?_⟩
  rw [show ys.getD k 0 = a by simp [List.getD, ha]]
  simpa [Rep.int] using this

theorem Rep.int_of_own {w : World} {B b n c : Nat} {ys : List Int} (h : w.ownsRow B 2 1 (.slice (some ⟨b, 0, none⟩) n c) n (ys.map (Value.int .i64))) (lo hi : Nat) (hlo : lo ≤ b) (hhi : b < hi) : Rep.int.Sl true lo hi w (some ⟨b, 0, none⟩) n ys := by
  have hl : ys.length = n := by simpa using h.1
  refine ⟨hl, fun hn => ⟨b, 0, rfl, hlo, hhi, fun _ i => World.ownsRow.frozenAt h i, fun i a ha => ⟨[.int .i64 a], rfl, fun j u hj => ?_⟩⟩⟩
  have hi' : i < n := by
    rcases Nat.lt_or_ge i ys.length with h' | h'
    · omega
    · rw [List.getElem?_eq_none h'] at ha; cases ha
  obtain rfl : j = 0 := by
    rcases j with _ | j
    · rfl
    · simp at hj
  have := World.ownsRow.cellAt h i (by omega)
  simp only [Rep.int, Nat.zero_add, Nat.mul_one, Nat.add_zero]
  rw [this, List.getElem?_map, ha]
  simpa using hj

theorem Rep.link_at {q : Bool} {lo hi : Nat} {w : World} {A : Option Addr} {n : Nat} {ys : List Lnk} (h : Rep.link.Sl q lo hi w A n ys) {k : Nat} (hk : k < n) :
    ∃ b o a, A = some ⟨b, o, none⟩ ∧ ys[k]? = some a ∧ w.cell? ⟨b, o + k * 4, none⟩ = some (.int .i64 a.kind) ∧ w.cell? ⟨b, o + k * 4 + 1, none⟩ = some (.int .i64 a.to_) ∧
      w.cell? ⟨b, o + k * 4 + 2, none⟩ = some (.int .i64 a.own) ∧ w.cell? ⟨b, o + k * 4 + 3, none⟩ = some (.int .i64 a.cost) := by
  obtain ⟨b, o, a, cs, e, ha, hr, hc⟩ := h.at_ hk
  have hr : cs = [.int .i64 a.kind, .int .i64 a.to_, .int .i64 a.own, .int .i64 a.cost] := hr
  subst hr
  exact ⟨b, o, a, e, ha, hc 0 _ rfl, hc 1 _ rfl, hc 2 _ rfl, hc 3 _ rfl⟩

theorem toKey_any (t i a : Int) (w : World) :
    Calls Try.prog 73 #[.agg #[.int .i64 t, .int .i64 i, .int .i64 a]] w fun e w' => e = .returned (.agg #[.int .i64 t, .int .i64 i, .int .i64 a]) ∧ Below w.heap.size w w' := by
  go_enter Try.func73, Try.ntmps73
  go_wp2
  exact bodyPost_ret (v := .agg #[.int .i64 t, .int .i64 i, .int .i64 a]) (by simp [results, Try.results73, go_sem]) rfl ⟨rfl, (((Below.refl _ _).alloc (Nat.le_refl _) _).alloc (by simp) _).alloc (by simp; omega) _⟩

theorem own_some {w : World} {B g n c size j : Nat} {e : TypeId} {xs : List Value} (h : w.ownsRow B e size (.slice (some ⟨g, 0, none⟩) n c) n xs) (hj : j < n * size) : ∃ v, w.cell? ⟨g, j, none⟩ = some v := by
  have hl := h.1
  exact ⟨xs[j]'(by omega), by rw [World.ownsRow.cellAt h j hj, List.getElem?_eq_getElem (by omega)]⟩

/-- The cells of links. -/
def linkCells (ys : List Lnk) : List Value := ys.flatMap fun a => [.int .i64 a.kind, .int .i64 a.to_, .int .i64 a.own, .int .i64 a.cost]

theorem eqKey_yes (t i a : Int) (w : World) :
    Calls Try.prog 80 #[.agg #[.int .i64 t, .int .i64 i, .int .i64 a], .agg #[.int .i64 t, .int .i64 i, .int .i64 a]] w fun e w' => e = .returned (.bool true) ∧ Below w.heap.size w w' := by
  go_enter Try.func80, Try.ntmps80
  go_wp2
  go_ret
  exact ⟨rfl, ((Below.refl _ _).alloc (Nat.le_refl _) _).alloc (by simp) _⟩

end Go.Proofs.Ytomkgohhfllpgaa
