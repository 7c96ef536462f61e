/-
  Rows of the call's own: an outer list of slice values, and each row in a block of its own, all apart. No statement is proved here.
-/
import Derived.Test.YtakplomopbnekaaDialCount
import Derived.Test.YtakplomopbnekaaWheelMark
namespace Go.Proofs.Ytakplomopbnekaa
open Go.RowKit Go.Shelf
set_option linter.unusedVariables false

/-- A slice value, as its address, length and capacity. -/
abbrev SlV : Type := Option Addr × Nat × Nat
def scell (v : SlV) : List Value := [.slice v.1 v.2.1 v.2.2]
theorem scell_len (v : SlV) : (scell v).length = 1 := rfl
theorem scell_one : ∀ v : SlV, ∀ u ∈ scell v, u.oneCell' = true := by
  intro v u hu
  simp only [scell, List.mem_cons, List.not_mem_nil, or_false] at hu
  subst hu; rfl
def SlV.blk (v : SlV) : Option Nat := v.1.map (·.block)

/-- A row of timers of the call's own. -/
abbrev OwnT (w : World) (B : Nat) (v : SlV) (y : List Tmr) : Prop := OwnF 36 4 tcell w B v.1 v.2.1 v.2.2 y
/-- The rows, each in a block of its own. -/
structure RowsO (w : World) (B : Nat) (vs : List SlV) (ys : List (List Tmr)) : Prop where
  len : vs.length = ys.length
  row : ∀ (i : Nat) (v : SlV) (y : List Tmr), vs[i]? = some v → ys[i]? = some y → OwnT w B v y
  apart : ∀ (i j : Nat) (u v : SlV), i ≠ j → vs[i]? = some u → vs[j]? = some v → ∀ r, u.blk = some r → v.blk ≠ some r

section
variable {w w' : World} {B : Nat} {vs : List SlV} {ys : List (List Tmr)} {v : SlV} {y : List Tmr}
theorem OwnF.typ {α : Type} {t : TypeId} {size : Nat} {f : α → List Value} {A : Option Addr} {n c : Nat} {zs : List α} (h : OwnF t size f w B A n c zs) {r : Nat} (hr : A.map (·.block) = some r) : ∃ cs, w.heap[r]? = some (.cells cs t (0, 0)) := by
  rcases h.2.2 with ⟨h', _⟩ | ⟨g', cap, cur, h', _, hg, _⟩
  · simp only [Value.slice.injEq] at h'
    rw [h'.1] at hr
    cases hr
  · simp only [Value.slice.injEq] at h'
    rw [h'.1] at hr
    simp only [Option.map_some, Option.some.injEq] at hr
    subst hr
    exact ⟨_, hg⟩
theorem OwnF.same {α : Type} {t : TypeId} {size : Nat} {f : α → List Value} {A : Option Addr} {n c : Nat} {zs : List α} (h : OwnF t size f w B A n c zs) (k : ∀ r, A.map (·.block) = some r → w'.heap[r]? = w.heap[r]?) : OwnF t size f w' B A n c zs := by
  refine ⟨h.1, h.2.1, ?_⟩
  rcases h.2.2 with h' | ⟨g, cap, cur, h1, h2, h3, h4⟩
  · exact .inl h'
  · refine .inr ⟨g, cap, cur, h1, h2, (k g ?_).trans h3, h4⟩
    simp only [Value.slice.injEq] at h1
    rw [h1.1]; rfl
theorem RowsO.nil (w : World) (B : Nat) : RowsO w B [] [] := ⟨rfl, fun i v y h => by simp at h, fun i j u v _ h => by simp at h⟩
theorem RowsO.same (h : RowsO w B vs ys) (k : ∀ v ∈ vs, ∀ r, v.blk = some r → w'.heap[r]? = w.heap[r]?) : RowsO w' B vs ys :=
  ⟨h.len, fun i v y h1 h2 => (h.row i v y h1 h2).same fun r hr => k v (List.mem_of_getElem? h1) r hr, h.apart⟩
theorem RowsO.blk (h : RowsO w B vs ys) : ∀ v ∈ vs, ∀ r, v.blk = some r → B ≤ r ∧ r < w.heap.size ∧ ∃ cs, w.heap[r]? = some (.cells cs 36 (0, 0)) := fun v hv r hr => by
  obtain ⟨i, hi, rfl⟩ := List.getElem_of_mem hv
  have hy : i < ys.length := by rw [← h.len]; exact hi
  have ho := h.row i _ _ (List.getElem?_eq_getElem hi) (List.getElem?_eq_getElem hy)
  exact ⟨(ho.block r hr).1, (ho.block r hr).2, ho.typ hr⟩
theorem RowsO.below (h : RowsO w B vs ys) (hb : Below w.heap.size w w') : RowsO w' B vs ys := h.same fun v hv r hr => hb.block r (h.blk v hv r hr).2.1
/-- What turns a block of another type turns no row. -/
theorem RowsO.grown (h : RowsO w B vs ys) {row : Option Nat} (hg : w.grownBy w' row) (hr : ∀ r, row = some r → ∀ cs, w.heap[r]? ≠ some (.cells cs 36 (0, 0))) : RowsO w' B vs ys := h.same fun v hv r hr' => by
  obtain ⟨_, h2, cs, h3⟩ := h.blk v hv r hr'
  exact hg.block r h2 fun e => hr r e.symm cs h3
theorem RowsO.calm {B₀ : Nat} (h : RowsO w B vs ys) (k : Calm B₀ w w') : RowsO w' B vs ys := h.same fun v hv r hr => by
  obtain ⟨_, h2, cs, h3⟩ := h.blk v hv r hr
  exact k.block r h2 (.inr ⟨_, _, _, h3⟩)
theorem RowsO.snoc (h : RowsO w B vs ys) (ho : OwnT w B v y) (hf : ∀ u ∈ vs, ∀ r, u.blk = some r → v.blk ≠ some r) : RowsO w B (vs ++ [v]) (ys ++ [y]) := by
  refine ⟨by simp [h.len], fun i u z hu hz => ?_, fun i j a b hij ha hb r hr => ?_⟩
  · by_cases hi : i < vs.length
    · rw [List.getElem?_append_left hi] at hu
      rw [List.getElem?_append_left (by rw [← h.len]; exact hi)] at hz
      exact h.row i u z hu hz
    · have hie : i = vs.length := by
        have := (List.getElem?_eq_some_iff.1 hu).1
        simp at this; omega
      rw [List.getElem?_append_right (by omega)] at hu
      rw [List.getElem?_append_right (by rw [← h.len]; omega)] at hz
      simp [hie] at hu
      simp [hie, h.len] at hz
      subst hu hz
      exact ho
  · have last : ∀ {k : Nat} {x : SlV}, (vs ++ [v])[k]? = some x → (k < vs.length ∧ vs[k]? = some x) ∨ (k = vs.length ∧ x = v) := by
      intro k x hx
      by_cases hk : k < vs.length
      · exact .inl ⟨hk, by rwa [List.getElem?_append_left hk] at hx⟩
      · have hke : k = vs.length := by
          have := (List.getElem?_eq_some_iff.1 hx).1
          simp at this; omega
        rw [List.getElem?_append_right (by omega)] at hx
        simp [hke] at hx
        exact .inr ⟨hke, hx.symm⟩
    rcases last ha with ⟨ha1, ha2⟩ | ⟨ha1, rfl⟩
    · rcases last hb with ⟨hb1, hb2⟩ | ⟨hb1, rfl⟩
      · exact h.apart i j a b hij ha2 hb2 r hr
      · exact hf a (List.mem_of_getElem? ha2) r hr
    · rcases last hb with ⟨hb1, hb2⟩ | ⟨hb1, rfl⟩
      · intro e
        exact hf b (List.mem_of_getElem? hb2) r e hr
      · omega
/-- One row is put anew: in its own block, or in a fresh one. -/
theorem RowsO.set (h : RowsO w B vs ys) {i : Nat} {u : SlV} (hu : vs[i]? = some u) (ho : OwnT w' B v y) (hk : ∀ x ∈ vs, ∀ r, x.blk = some r → u.blk ≠ some r → w'.heap[r]? = w.heap[r]?) (hf : v.blk = u.blk ∨ ∀ x ∈ vs, ∀ r, x.blk = some r → v.blk ≠ some r) : RowsO w' B (vs.set i v) (ys.set i y) := by
  have hil := (List.getElem?_eq_some_iff.1 hu).1
  refine ⟨by simp [h.len], fun j x z hx hz => ?_, fun j k a b hjk ha hb r hr => ?_⟩
  · by_cases hj : j = i
    · subst hj
      rw [List.getElem?_set_self hil] at hx
      rw [List.getElem?_set_self (by rw [← h.len]; exact hil)] at hz
      injection hx with hx; injection hz with hz
      subst hx hz
      exact ho
    · rw [List.getElem?_set_ne (fun e => hj e.symm)] at hx hz
      refine (h.row j x z hx hz).same fun r hr => hk x (List.mem_of_getElem? hx) r hr ?_
      exact fun e => h.apart j i x u hj hx hu r hr e
  · by_cases hj : j = i
    · subst hj
      rw [List.getElem?_set_self hil] at ha
      rw [List.getElem?_set_ne (fun e => hjk e)] at hb
      injection ha with ha
      subst ha
      rcases hf with hf | hf
      · rw [hf] at hr
        exact h.apart j k u b hjk hu hb r hr
      · exact fun e => hf b (List.mem_of_getElem? hb) r e hr
    · rw [List.getElem?_set_ne (fun e => hj e.symm)] at ha
      by_cases hkk : k = i
      · subst hkk
        rw [List.getElem?_set_self hil] at hb
        injection hb with hb
        subst hb
        rcases hf with hf | hf
        · rw [hf]
          exact h.apart j k a u hjk ha hu r hr
        · exact hf a (List.mem_of_getElem? ha) r hr
      · rw [List.getElem?_set_ne (fun e => hkk e.symm)] at hb
        exact h.apart j k a b hjk ha hb r hr
end

theorem gatherL {α : Type} {Q : Nat → α → Prop} (len : Nat) (h : ∀ i, i < len → ∃ b, Q i b) : ∃ ys : List α, ys.length = len ∧ ∀ (i : Nat) (b : α), ys[i]? = some b → Q i b := by
  induction len with
  | zero => exact ⟨[], rfl, fun i b hb => by simp at hb⟩
  | succ k ih =>
    obtain ⟨ys, h1, h2⟩ := ih (fun i hi => h i (by omega))
    obtain ⟨b, hb⟩ := h k (by omega)
    refine ⟨ys ++ [b], by simp [h1], fun i b' hb' => ?_⟩
    by_cases hi : i < k
    · rw [List.getElem?_append_left (by omega)] at hb'
      exact h2 i b' hb'
    · have hik : i = k := by
        have := (List.getElem?_eq_some_iff.1 hb').1
        simp at this; omega
      subst hik
      rw [List.getElem?_append_right (by omega), h1, Nat.sub_self] at hb'
      simp at hb'
      subst hb'
      exact hb
theorem timers_of_own {w : World} {B n c : Nat} {A : Option Addr} {ys : List Tmr} (h : OwnF 36 4 tcell w B A n c ys) : ∃ bs, Rep.timer.FSl w A n ys bs ∧ bs.Nodup ∧ ∀ x ∈ bs, A.map (·.block) = some x := by
  rcases Nat.eq_zero_or_pos n with h0 | h0
  · subst h0
    exact ⟨[], .inl ⟨rfl, List.eq_nil_of_length_eq_zero h.1, rfl⟩, List.nodup_nil, fun x hx => by cases hx⟩
  · obtain ⟨g, rfl, hBg, hgs⟩ := h.form h0
    refine ⟨[g], .inr ⟨h0, g, rfl, h.1, fun _ => ⟨g, 0, rfl, Nat.le_refl _, Nat.lt_succ_self _, fun _ i => World.ownsRow.frozenAt h.2 i, fun i a ha => ⟨tcell a, rfl, fun j u hj => ?_⟩⟩⟩, by simp, fun x hx => by simp at hx; rw [hx]; rfl⟩
    have hj4 : j < 4 := by have := (List.getElem?_eq_some_iff.1 hj).1; simpa [tcell] using this
    have hil := (List.getElem?_eq_some_iff.1 ha).1
    have := World.ownsRow.cellAt h.2 (i * 4 + j) (by have := h.1; omega)
    show w.cell? ⟨g, 0 + i * 4 + j, none⟩ = some u
    rw [Nat.zero_add, this, flat_get tcell_len ys i a ha j hj4, hj]

/-- Rows of the call's own, with their outer list, as rows with their blocks. -/
theorem RowsO.frows {w : World} {B : Nat} {vs : List SlV} {ys : List (List Tmr)} (h : RowsO w B vs ys) {A : Option Addr} {n c : Nat} (ho : OwnF 29 1 scell w B A n c vs) :
    ∃ bs, Rep.timer.FRows w A n ys bs ∧ bs.Nodup ∧ ∀ b ∈ bs, B ≤ b ∧ b < w.heap.size ∧ (A.map (·.block) = some b ∨ ∃ v ∈ vs, v.blk = some b) := by
  have hvl : vs.length = n := ho.1
  -- the blocks of each row
  have each : ∀ i, i < n → ∃ f : List Nat, ∀ v y, vs[i]? = some v → ys[i]? = some y → Rep.timer.FSl w v.1 v.2.1 y f ∧ f.Nodup ∧ ∀ x ∈ f, v.blk = some x := fun i hi => by
    have hv := List.getElem?_eq_getElem (show i < vs.length by omega)
    have hy := List.getElem?_eq_getElem (show i < ys.length by rw [← h.len]; omega)
    obtain ⟨f, h1, h2, h3⟩ := timers_of_own (h.row i _ _ hv hy)
    refine ⟨f, fun v y hv' hy' => ?_⟩
    rw [hv] at hv'; rw [hy] at hy'
    injection hv' with hv'; injection hy' with hy'
    subst hv' hy'
    exact ⟨h1, h2, h3⟩
  obtain ⟨fs, hfl, hfs⟩ := gatherL (Q := fun i f => ∀ v y, vs[i]? = some v → ys[i]? = some y → Rep.timer.FSl w v.1 v.2.1 y f ∧ f.Nodup ∧ ∀ x ∈ f, v.blk = some x) n each
  rcases Nat.eq_zero_or_pos n with h0 | h0
  · subst h0
    refine ⟨[], ⟨by rw [← h.len, hvl], .inl ⟨rfl, rfl⟩⟩, List.nodup_nil, fun b hb => by cases hb⟩
  · obtain ⟨g, rfl, hBg, hgs⟩ := ho.form h0
    obtain ⟨gcs, hgt⟩ := ho.typ (r := g) rfl
    have rowof : ∀ i f, fs[i]? = some f → ∃ v y, vs[i]? = some v ∧ ys[i]? = some y := fun i f hf => by
      have hi := (List.getElem?_eq_some_iff.1 hf).1
      exact ⟨_, _, List.getElem?_eq_getElem (by omega), List.getElem?_eq_getElem (by rw [← h.len]; omega)⟩
    have inflat : ∀ x ∈ fs.flatten, ∃ v ∈ vs, v.blk = some x := fun x hx => by
      obtain ⟨f, hf, hxf⟩ := List.mem_flatten.1 hx
      obtain ⟨i, hi, rfl⟩ := List.getElem_of_mem hf
      obtain ⟨v, y, hv, hy⟩ := rowof i _ (List.getElem?_eq_getElem hi)
      exact ⟨v, List.mem_of_getElem? hv, (hfs i _ (List.getElem?_eq_getElem hi) v y hv hy).2.2 x hxf⟩
    refine ⟨g :: fs.flatten, ⟨by rw [← h.len, hvl], .inr ⟨h0, g, 0, fs, rfl, rfl, hfl, fun i y f hy hf => ?_⟩⟩, List.nodup_cons.2 ⟨fun hx => ?_, ?_⟩, fun b hb => ?_⟩
    · obtain ⟨v, y', hv, hy'⟩ := rowof i f hf
      rw [hy] at hy'; injection hy' with hy'; subst hy'
      refine ⟨v.1, v.2.1, v.2.2, ?_, (hfs i f hf v y hv hy).1⟩
      have hi := (List.getElem?_eq_some_iff.1 hf).1
      have := World.ownsRow.cellAt ho.2 i (by omega)
      rw [Nat.zero_add, this]
      have hg := flat_get scell_len vs i v hv 0 (by omega)
      rw [Nat.mul_one, Nat.add_zero] at hg
      rw [hg]; rfl
    · obtain ⟨v, hv, hb⟩ := inflat g hx
      obtain ⟨_, _, cs, hcs⟩ := h.blk v hv g hb
      rw [hgt] at hcs
      simp at hcs
    · refine List.pairwise_flatten.2 ⟨fun f hf => ?_, ?_⟩
      · obtain ⟨i, hi, rfl⟩ := List.getElem_of_mem hf
        obtain ⟨v, y, hv, hy⟩ := rowof i _ (List.getElem?_eq_getElem hi)
        exact (hfs i _ (List.getElem?_eq_getElem hi) v y hv hy).2.1
      · refine List.pairwise_iff_getElem.2 fun i j hi hj hij x hx y hy e => ?_
        subst e
        obtain ⟨v, y1, hv, hy1⟩ := rowof i _ (List.getElem?_eq_getElem hi)
        obtain ⟨v', y2, hv', hy2⟩ := rowof j _ (List.getElem?_eq_getElem hj)
        have e1 := (hfs i _ (List.getElem?_eq_getElem hi) v y1 hv hy1).2.2 x hx
        have e2 := (hfs j _ (List.getElem?_eq_getElem hj) v' y2 hv' hy2).2.2 x hy
        exact h.apart i j v v' (by omega) hv hv' x e1 e2
    · rcases List.mem_cons.1 hb with rfl | hb
      · exact ⟨hBg, hgs, .inl rfl⟩
      · obtain ⟨v, hv, e⟩ := inflat b hb
        obtain ⟨h1, h2, _⟩ := h.blk v hv b e
        exact ⟨h1, h2, .inr ⟨v, hv, e⟩⟩

end Go.Proofs.Ytakplomopbnekaa
