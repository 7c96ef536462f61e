/-
  Rows of items of the call's own that are written in place: an item is put, the rest is cleared and cut off; clear at slices of items; slices.Clone at items. No statement is proved here.
-/
import Derived.Test.YtiffhjofabaflaaQueueFault
import Derived.Lib.SliceRun
import Derived.Deep.DeepCutAuto
namespace Go.Proofs.Ytiffhjofabaflaa
open Go.RowKit
set_option linter.unusedVariables false

/-- Rows, told by their cells, are cut. -/
theorem ownsRow_cut {w : World} {B g n c size : Nat} {e : TypeId} {xs : List Value} (h : w.ownsRow B e size (.slice (some ⟨g, 0, none⟩) n c) n xs) {i : Nat} (hi : i ≤ n) :
    w.ownsRow B e size (.slice (some ⟨g, 0, none⟩) i c) i (xs.take (i * size)) := by
  have hm : i * size ≤ n * size := Nat.mul_le_mul_right _ hi
  rcases h.2 with ⟨h', _⟩ | ⟨g', cap, cur, h1, h2, h3, h4, h5, h6, h7⟩
  · simp at h'
  · simp only [Value.slice.injEq, Option.some.injEq, Addr.mk.injEq, and_true, true_and] at h1
    obtain ⟨rfl, rfl⟩ := h1
    exact ⟨by rw [List.length_take, h.1]; omega, .inr ⟨g, c, cur, rfl, h2, h3, by omega, h5, h6, by rw [← h7, List.take_take, Nat.min_eq_left hm]⟩⟩
theorem ownsRow_sets {B g n c size : Nat} {e : TypeId} : ∀ (vs : List Value) (o : Nat) (w : World) (xs : List Value), w.ownsRow B e size (.slice (some ⟨g, 0, none⟩) n c) n xs →
    ∃ xs', (w.setCells g o vs).ownsRow B e size (.slice (some ⟨g, 0, none⟩) n c) n xs' ∧ xs'.take o = xs.take o ∧ w.grownBy (w.setCells g o vs) (some g)
  | [], o, w, xs, h => ⟨xs, h, rfl, World.grownBy.refl w _⟩
  | v :: r, o, w, xs, h => by
    obtain ⟨h1, h2⟩ := World.ownsRow.stored h o v
    obtain ⟨xs', k1, k2, k3⟩ := ownsRow_sets r (o + 1) _ _ h1
    refine ⟨xs', k1, ?_, grown_trans h2 k3⟩
    have := congrArg (List.take o) k2
    rw [List.take_take, List.take_take, Nat.min_eq_left (Nat.le_succ _), List.take_set] at this
    rw [this, List.set_eq_of_length_le (by rw [List.length_take]; omega)]
theorem flat_take4 (ys : List Tmr) : ∀ i, (ys.flatMap tcell).take (i * 4) = (ys.take i).flatMap tcell := by
  induction ys with
  | nil => intro i; simp
  | cons y t ih =>
    intro i
    cases i with
    | zero => simp
    | succ i =>
      rw [List.take_succ_cons, List.flatMap_cons, List.flatMap_cons, ← ih i, List.take_append, tcell_len, List.take_of_length_le (by rw [tcell_len]; omega), show (i + 1) * 4 - 4 = i * 4 by omega]
theorem flat_set4 (a : Tmr) : ∀ (ys : List Tmr) (i : Nat), i < ys.length → ((((ys.flatMap tcell).set (i * 4) (.int .i64 a.typ)).set (i * 4 + 1) (.int .i64 a.id)).set (i * 4 + 2) (.int .i64 a.adv)).set (i * 4 + 3) (.int .i64 a.due) = (ys.set i a).flatMap tcell
  | [], i, h => by simp at h
  | y :: t, 0, h => by simp [tcell]
  | y :: t, i + 1, h => by
    have := flat_set4 a t i (by simpa using h)
    rw [List.set_cons_succ, List.flatMap_cons, List.flatMap_cons, ← this]
    simp only [tcell, List.cons_append, List.nil_append, show (i + 1) * 4 = i * 4 + 1 + 1 + 1 + 1 by omega, show i * 4 + 1 + 1 + 1 + 1 + 1 = (i * 4 + 1) + 1 + 1 + 1 + 1 by omega, show i * 4 + 1 + 1 + 1 + 1 + 2 = (i * 4 + 2) + 1 + 1 + 1 + 1 by omega, show i * 4 + 1 + 1 + 1 + 1 + 3 = (i * 4 + 3) + 1 + 1 + 1 + 1 by omega, List.set_cons_succ]

section
variable {w : World} {B g n c : Nat} {zs : List Tmr} {t : TypeId}
/-- An item is put. -/
theorem OwnF.put4 (h : OwnF t 4 tcell w B (some ⟨g, 0, none⟩) n c zs) (i : Nat) (a : Tmr) (hi : i < n) :
    OwnF t 4 tcell ((((w.setCell ⟨g, i * 4, none⟩ (.int .i64 a.typ)).setCell ⟨g, i * 4 + 1, none⟩ (.int .i64 a.id)).setCell ⟨g, i * 4 + 2, none⟩ (.int .i64 a.adv)).setCell ⟨g, i * 4 + 3, none⟩ (.int .i64 a.due)) B (some ⟨g, 0, none⟩) n c (zs.set i a) ∧
      w.grownBy ((((w.setCell ⟨g, i * 4, none⟩ (.int .i64 a.typ)).setCell ⟨g, i * 4 + 1, none⟩ (.int .i64 a.id)).setCell ⟨g, i * 4 + 2, none⟩ (.int .i64 a.adv)).setCell ⟨g, i * 4 + 3, none⟩ (.int .i64 a.due)) (some g) := by
  obtain ⟨s1, g1⟩ := World.ownsRow.stored h.2 (i * 4) (.int .i64 a.typ)
  obtain ⟨s2, g2⟩ := World.ownsRow.stored s1 (i * 4 + 1) (.int .i64 a.id)
  obtain ⟨s3, g3⟩ := World.ownsRow.stored s2 (i * 4 + 2) (.int .i64 a.adv)
  obtain ⟨s4, g4⟩ := World.ownsRow.stored s3 (i * 4 + 3) (.int .i64 a.due)
  rw [flat_set4 a zs i (by rw [h.1]; exact hi)] at s4
  exact ⟨⟨by rw [List.length_set]; exact h.1, s4⟩, grown_trans g1 (grown_trans g2 (grown_trans g3 g4))⟩
/-- The head of a row. -/
theorem OwnF.cut4 (h : OwnF t 4 tcell w B (some ⟨g, 0, none⟩) n c zs) {i : Nat} (hi : i ≤ n) : OwnF t 4 tcell w B (some ⟨g, 0, none⟩) i c (zs.take i) :=
  ⟨by rw [List.length_take, h.1]; omega, by rw [← flat_take4]; exact ownsRow_cut h.2 hi⟩
/-- What lies behind i is written over, and cut off. -/
theorem OwnF.clear4 (h : OwnF t 4 tcell w B (some ⟨g, 0, none⟩) n c zs) {i : Nat} (hi : i ≤ n) (vs : List Value) :
    OwnF t 4 tcell (w.setCells g (i * 4) vs) B (some ⟨g, 0, none⟩) i c (zs.take i) ∧ w.grownBy (w.setCells g (i * 4) vs) (some g) := by
  obtain ⟨xs', k1, k2, k3⟩ := ownsRow_sets vs (i * 4) _ _ h.2
  refine ⟨⟨by rw [List.length_take, h.1]; omega, ?_⟩, k3⟩
  have := ownsRow_cut k1 hi
  rwa [k2, flat_take4] at this
/-- The cells of an item of a row. -/
theorem OwnF.at4 (h : OwnF t 4 tcell w B (some ⟨g, 0, none⟩) n c zs) {k : Nat} {a : Tmr} (ha : zs[k]? = some a) :
    w.cell? ⟨g, k * 4, none⟩ = some (.int .i64 a.typ) ∧ w.cell? ⟨g, k * 4 + 1, none⟩ = some (.int .i64 a.id) ∧ w.cell? ⟨g, k * 4 + 2, none⟩ = some (.int .i64 a.adv) ∧ w.cell? ⟨g, k * 4 + 3, none⟩ = some (.int .i64 a.due) := by
  have hk := (List.getElem?_eq_some_iff.1 ha).1
  have c : ∀ j, j < 4 → w.cell? ⟨g, k * 4 + j, none⟩ = (tcell a)[j]? := fun j hj => by
    rw [World.ownsRow.cellAt h.2 (k * 4 + j) (by have := h.1; omega), flat_get tcell_len zs k a ha j hj]
  exact ⟨c 0 (by omega), c 1 (by omega), c 2 (by omega), c 3 (by omega)⟩
end

/-- clear at a slice of items. -/
theorem run_clear_items (w : World) (ty : TypeId) (g o n c : Nat) (hn : 0 < n) (hc : ∀ j, j < n * 4 → (w.cell? ⟨g, o + j, none⟩).isSome = true) (hf : ∀ j, j < n * 4 → w.frozen? ⟨g, o + j, none⟩ = false) :
    (Builtin.clear_ #[57] ty #[.slice (some ⟨g, o, none⟩) n c]).run Try.prog w = .ok (.tuple #[]) (w.setCells g o (List.replicate (n * 4) (.int .i64 0))) := by
  obtain ⟨i0, hi, hz0, hz1, hz2⟩ := info_parts itemInfo
  have hv : (zeroValue 66).run Try.prog w = .ok (.agg #[.int .i64 0, .int .i64 0, .int .i64 0, .int .i64 0]) w := by simp [zeroValue, typeInfo, hi, hz0]
  have hzc : (Builtin.zeroCells (Value.agg #[.int .i64 0, .int .i64 0, .int .i64 0, .int .i64 0]).cells n).toList = List.replicate (n * 4) (.int .i64 0) := by
    simp only [Builtin.zeroCells, Value.cells]
    apply List.ext_getElem
    · simp
    · intro i h1 h2
      have : i % 4 = 0 ∨ i % 4 = 1 ∨ i % 4 = 2 ∨ i % 4 = 3 := by omega
      simp
      rcases this with e | e | e | e <;> simp [e]
  have hst := run_storeCells_cells (P := Try.prog) g o (List.replicate (n * 4) (Value.int .i64 0)) 0 w (by simpa using hc) (by simpa using hf) (by intro v hv'; rw [List.eq_of_mem_replicate hv']; rfl)
  simp only [Nat.add_zero] at hst
  obtain ⟨m, rfl⟩ : ∃ m, n = m + 1 := ⟨n - 1, by omega⟩
  simp [Builtin.clear_, run_underlying Try.underlying57, hv, hzc, hst]

theorem cloneItems_any (q : Bool) (lo hi : Nat) (A : Option Addr) (n c : Nat) (ys : List Tmr) (w : World) (ha : Rep.timer.Sl q lo hi w A n ys) (hh : hi ≤ w.heap.size) (hn : n ≤ 1048576) :
    Calls Try.prog 203 #[.slice A n c] w fun e w' => ∃ B d, e = .returned (.slice B n d) ∧ OwnF 66 4 tcell w' w.heap.size B n d ys ∧ Below w.heap.size w w' := by
  cases A with
  | none =>
    have hm : n = 0 := by
      rcases Nat.eq_zero_or_pos n with h0 | h0
      · exact h0
      · obtain ⟨b, o, h, _⟩ := ha.2 h0; cases h
    subst hm
    have hy : ys = [] := List.eq_nil_of_length_eq_zero ha.1
    subst hy
    have hnil := fun W => Lib.run_eql_slice_nil (P := Try.prog) W 57 66 none 0 c 0 0 Try.underlying57
    clear ha
    go_enter Try.func203, Try.ntmps203
    go_wp2
    go_ret
    exact ⟨none, 0, rfl, OwnF.nil_ _ _ _ _ _, Below.refl _ _⟩
  | some ad =>
    have hb0 : Below w.heap.size w (w.alloc (.cells #[] 66)) := (Below.refl _ _).alloc (Nat.le_refl _) _
    have HN := Lib.hid (Rep.timer_inF (ha.below hb0 hh))
    have HE := Lib.hid (emptyF 66 4 tcell w)
    have HB := Lib.hid hb0
    have hnil := fun W => Lib.run_eql_slice_nil (P := Try.prog) W 57 66 (some ad) n c 0 0 Try.underlying57
    clear ha hb0
    go_enter Try.func203, Try.ntmps203
    go_wp2_with (at_builtin; refine wpList_appF0 tcell_len tcell_one Try.underlying57 itemInfo rfl (by decide) (by decide) rfl (.tmp 5) (.tmp 6) rfl (B := w.heap.size) rfl HE.out rfl HN.out (by omega) (by simp) ?_; intro A' c' w1 ho hg)
    go_ret
    rw [Nat.zero_add, List.nil_append] at ho
    have hbw := HB.out.grown hg (by simp) (fun k hk => by injection hk with hk; simp at hk; omega)
    exact ⟨A', c', rfl, ho, hbw⟩

end Go.Proofs.Ytiffhjofabaflaa
