/-
  What the laws' helpers do with wheels. No statement is proved here.
-/
import Derived.Test.YtiffhjofabaflaaTimerSS
namespace Go.Proofs.Ytiffhjofabaflaa
open Go.RowKit
set_option linter.unusedVariables false

/-- Rows of items of the call's own, apart from each other, in a range of blocks. -/
def RowsK {α : Type} (r : Rep α) (lo hi : Nat) (A : Option Addr) (n : Nat) (ys : List (List α)) : World → Prop := fun w => ∃ bs, r.FRows w A n ys bs ∧ bs.Nodup ∧ ∀ b ∈ bs, lo ≤ b ∧ b < hi
theorem RowsK.kept {α : Type} {r : Rep α} {lo hi : Nat} {A : Option Addr} {n : Nat} {ys : List (List α)} {w : World} (h : RowsK r lo hi A n ys w) (hs : hi ≤ w.heap.size) : Kept lo hi (RowsK r lo hi A n ys) w := by
  obtain ⟨bs, h1, h2, h3⟩ := h
  exact ⟨hs, fun w2 k => ⟨bs, h1.keep fun b hb => k b (h3 b hb).1 (h3 b hb).2, h2, h3⟩⟩
theorem Kept.rows {lo hi : Nat} {A : Option Addr} {n : Nat} {ys : List (List Tmr)} {w : World} (h : Kept lo hi (RowsK Rep.timer lo hi A n ys) w) : Rep.timer.rows.Sl false lo hi w A n ys := by
  obtain ⟨bs, h1, h2, h3⟩ := h.out
  exact h1.sl (fun _ _ _ _ _ h => h) h3
/-- An answer's rows and its list beside them, all apart. -/
def ResK {α : Type} (r : Rep α) (lo hi : Nat) (A : Option Addr) (n : Nat) (ys : List (List α)) (E : Option Addr) (m : Nat) (zs : List α) : World → Prop := fun w =>
  ∃ bs cs, r.FRows w A n ys bs ∧ r.FSl w E m zs cs ∧ (bs ++ cs).Nodup ∧ ∀ b ∈ bs ++ cs, lo ≤ b ∧ b < hi
theorem ResK.kept {α : Type} {r : Rep α} {lo hi : Nat} {A E : Option Addr} {n m : Nat} {ys : List (List α)} {zs : List α} {w : World} (h : ResK r lo hi A n ys E m zs w) (hs : hi ≤ w.heap.size) : Kept lo hi (ResK r lo hi A n ys E m zs) w := by
  obtain ⟨bs, cs, h1, h2, h3, h4⟩ := h
  exact ⟨hs, fun w2 k => ⟨bs, cs, h1.keep fun b hb => k b (h4 b (by simp [hb])).1 (h4 b (by simp [hb])).2, h2.keep fun b hb => k b (h4 b (by simp [hb])).1 (h4 b (by simp [hb])).2, h3, h4⟩⟩
theorem Kept.res_rows {lo hi : Nat} {A E : Option Addr} {n m : Nat} {ys : List (List Tmr)} {zs : List Tmr} {w : World} (h : Kept lo hi (ResK Rep.timer lo hi A n ys E m zs) w) : Rep.timer.rows.Sl false lo hi w A n ys := by
  obtain ⟨bs, cs, h1, h2, h3, h4⟩ := h.out
  exact h1.sl (fun _ _ _ _ _ h => h) fun b hb => h4 b (by simp [hb])
theorem Kept.res_due {lo hi : Nat} {A E : Option Addr} {n m : Nat} {ys : List (List Tmr)} {zs : List Tmr} {w : World} (h : Kept lo hi (ResK Rep.timer lo hi A n ys E m zs) w) : Rep.timer.Sl true lo hi w E m zs := by
  obtain ⟨bs, cs, h1, h2, h3, h4⟩ := h.out
  exact h2.sl fun b hb => h4 b (by simp [hb])
theorem szSS_neg {α : Type} : ∀ (ys : List (List α)) (left : Int), szSS left ys < 0 → szSS left ys = -1 := by
  intro ys left h
  unfold szSS at h ⊢
  split
  · rfl
  · rename_i h1
    rw [if_neg h1] at h
    have go : ∀ (ys : List (List α)) (l : Int), 0 ≤ l → szRows l ys < 0 → szRows l ys = -1 := by
      intro ys
      induction ys with
      | nil => intro l h0 h; simp [szRows] at h; omega
      | cons y t ih =>
        intro l h0 h
        unfold szRows at h ⊢
        split
        · rfl
        · rename_i h2
          rw [if_neg h2] at h
          exact ih _ (by omega) h
    exact go _ _ (by omega) h
theorem szRows_le {α : Type} : ∀ (ys : List (List α)) (l : Int), 0 ≤ l → szRows l ys ≤ l
  | [], l, h => by simp [szRows]
  | y :: t, l, h => by
    unfold szRows
    split
    · omega
    · rename_i h2
      have := szRows_le t (l - y.length) (by omega)
      omega
theorem szSS_bd {α : Type} (ys : List (List α)) (l : Int) (h : 0 ≤ l) : szSS l ys ≤ l := by
  unfold szSS
  split
  · omega
  · have := szRows_le ys (l - ys.length) (by omega)
    omega

end Go.Proofs.Ytiffhjofabaflaa
