/-
  Lists in which no two bear the same Key. No statement is proved here.
-/
import Derived.Test.YtiffhjofabaflaaTcell
namespace Go.Proofs.Ytiffhjofabaflaa
open Go.RowKit
set_option linter.unusedVariables false

theorem keyT_iff {a b : Tmr} : keyT a b = true ↔ a.typ = b.typ ∧ a.id = b.id ∧ a.adv = b.adv := by simp [keyT]
/-- Do two bear the same Key. -/
def twinB : List Tmr → Bool
  | [] => false
  | t :: r => r.any (fun u => keyT t u) || twinB r
theorem keyT_comm (a b : Tmr) : keyT a b = keyT b a := by
  unfold keyT
  rw [decide_eq_decide.2 (eq_comm (a := a.typ)), decide_eq_decide.2 (eq_comm (a := a.id)), decide_eq_decide.2 (eq_comm (a := a.adv))]
theorem twinB_snoc (l : List Tmr) (t : Tmr) : twinB (l ++ [t]) = (twinB l || l.any fun u => keyT t u) := by
  induction l with
  | nil => simp [twinB]
  | cons x l ih =>
    simp only [List.cons_append, twinB, ih, List.any_append, List.any_cons, List.any_nil, Bool.or_false, keyT_comm x t]
    cases l.any (fun u => keyT x u) <;> cases keyT t x <;> cases twinB l <;> simp
theorem twinB_take {l : List Tmr} {k : Nat} {t : Tmr} (h : l[k]? = some t) : twinB (l.take (k + 1)) = (twinB (l.take k) || (l.take k).any fun u => keyT t u) := by
  have hk := (List.getElem?_eq_some_iff.1 h).1
  rw [List.take_succ_eq_append_getElem hk, (List.getElem?_eq_some_iff.1 h).2, twinB_snoc]
theorem twinB_more {l : List Tmr} {k : Nat} (h : twinB (l.take k) = true) : twinB l = true := by
  have go : ∀ (a b : List Tmr), twinB a = true → twinB (a ++ b) = true := by
    intro a
    induction a with
    | nil => intro b h; simp [twinB] at h
    | cons x a ih =>
      intro b h
      simp only [twinB, Bool.or_eq_true] at h
      simp only [List.cons_append, twinB, Bool.or_eq_true, List.any_append]
      rcases h with h | h
      · exact .inl (.inl h)
      · exact .inr (ih b h)
  have := go _ (l.drop k) h
  rwa [List.take_append_drop] at this

/-- Where two bear the same Key, the second one is not the first to be found. -/
theorem twin_find {ts : List Tmr} {k : Nat} {t : Tmr} (ht : ts[k]? = some t) : (findV ts t = k ↔ ((ts.take k).any fun u => keyT t u) = false) := by
  have self : keyT t t = true := by simp [keyT]
  have tk : ∀ (i : Nat), i < k → (ts.take k)[i]? = ts[i]? := fun i hi => by rw [List.getElem?_take, if_pos hi]
  constructor
  · intro h
    rw [Bool.eq_false_iff]
    intro ha
    obtain ⟨u, hu, hku⟩ := List.any_eq_true.1 ha
    obtain ⟨i, hi, rfl⟩ := List.getElem_of_mem hu
    have hik : i < k := by simp at hi; omega
    have hu' : ts[i]? = some (ts.take k)[i] := by rw [← tk i hik]; exact List.getElem?_eq_getElem hi
    -- the first one stands at i or ahead
    have hany : ts.any (fun u => keyT u t) = true := List.any_eq_true.2 ⟨t, List.mem_of_getElem? ht, self⟩
    unfold findV at h
    rw [if_pos hany] at h
    have hle : ts.findIdx (fun u => keyT u t) ≤ i := by
      have hil := (List.getElem?_eq_some_iff.1 hu').1
      have hie := (List.getElem?_eq_some_iff.1 hu').2
      by_cases hc : i < ts.findIdx (fun u => keyT u t)
      · have h0 := List.not_of_lt_findIdx hc
        rw [hie, keyT_comm] at h0
        exact absurd hku (by simpa using h0)
      · omega
    omega
  · intro h
    refine findIdx_at ht self fun i u hi hu => ?_
    have : u ∈ ts.take k := List.mem_of_getElem? (by rw [tk i hi]; exact hu)
    have := List.any_eq_false.1 h u this
    rw [keyT_comm]
    simpa using this

theorem twin_none {ts : List Tmr} (h : ∀ (k : Nat) t, ts[k]? = some t → findV ts t = k) : twinB ts = false := by
  have go : ∀ k, k ≤ ts.length → twinB (ts.take k) = false := by
    intro k
    induction k with
    | zero => intro _; simp [twinB]
    | succ k ih =>
      intro hk
      have ht := List.getElem?_eq_getElem (show k < ts.length by omega)
      rw [twinB_take ht, ih (by omega), Bool.false_or]
      exact (twin_find ht).1 (h k _ ht)
  have := go ts.length (Nat.le_refl _)
  rwa [List.take_of_length_le (Nat.le_refl _)] at this
theorem twin_some {ts : List Tmr} {k : Nat} {t : Tmr} (ht : ts[k]? = some t) (h : findV ts t ≠ k) : twinB ts = true := by
  have hn := fun h' => h ((twin_find ht).2 h')
  refine twinB_more (k := k + 1) ?_
  rw [twinB_take ht]
  simp only [Bool.or_eq_true]
  exact .inr (by simpa using hn)

end Go.Proofs.Ytiffhjofabaflaa
