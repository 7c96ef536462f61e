/-
  A wheel's timers lie where their places say. No statement is proved here.
-/
import Derived.Test.YtakplomopbnekaaDialWithout
namespace Go.Proofs.Ytakplomopbnekaa
open Go.RowKit Go.Shelf
set_option linter.unusedVariables false

theorem slotF_all {now p : Int} : ∀ {y : List Tmr}, slotF now p y = 0 → ∀ t ∈ y, poC now t.due = 0 ∧ poV now t.due = p
  | [], _, t, ht => by cases ht
  | a :: r, h, t, ht => by
    unfold slotF at h
    by_cases h1 : poC now a.due = 0
    · by_cases h2 : poV now a.due = p
      · rcases List.mem_cons.1 ht with rfl | hr
        · exact ⟨h1, h2⟩
        · refine slotF_all ?_ t hr
          simpa [h1, h2] using h
      · simp [h1, h2] at h
    · simp [h1] at h
theorem slotsF_each {now : Int} : ∀ {ys : List (List Tmr)} {i : Nat}, slotsF now i ys = 0 → ∀ j y, ys[j]? = some y → slotF now ((i + j : Nat) : Int) y = 0
  | [], _, _, j, y, hj => by simp at hj
  | a :: r, i, h, j, y, hj => by
    unfold slotsF at h
    by_cases h1 : slotF now i a = 0
    · rw [if_pos h1] at h
      cases j with
      | zero => simp at hj; subst hj; simpa using h1
      | succ j =>
        have := slotsF_each h j y (by simpa using hj)
        rwa [show i + 1 + j = i + (j + 1) by omega] at this
    · rw [if_neg h1] at h; exact absurd h h1
theorem fault_rows {now : Int} {ys : List (List Tmr)} (h : faultW now ys = 0) : (∀ j y, ys[j]? = some y → ∀ t ∈ y, poC now t.due = 0 ∧ poV now t.due = ((j : Nat) : Int)) ∧ twinB ys.flatten = false := by
  obtain ⟨h1, h2, h3⟩ := fault_ok h
  unfold faultW at h
  rw [if_neg (fun e => e h1), if_neg (by omega)] at h
  by_cases hs : slotsF now 0 ys = 0
  · rw [if_neg (fun e => e hs)] at h
    refine ⟨fun j y hj t ht => ?_, ?_⟩
    · have := slotF_all (slotsF_each hs j y hj) t ht
      rwa [Nat.zero_add] at this
    · cases ht : twinB ys.flatten with
      | false => rfl
      | true => rw [ht] at h; simp at h
  · rw [if_pos hs] at h; exact absurd h hs
theorem fault_in {now : Int} {ys : List (List Tmr)} (h : faultW now ys = 0) : ∀ t ∈ ys.flatten, poC now t.due = 0 := fun t ht => by
  obtain ⟨y, hy, hty⟩ := List.mem_flatten.1 ht
  obtain ⟨j, hj, rfl⟩ := List.getElem_of_mem hy
  exact ((fault_rows h).1 j _ (List.getElem?_eq_getElem hj) t hty).1
theorem places_at (now : Int) (p : Tmr → Bool) : ∀ (ys : List (List Tmr)) (i k : Nat), (∀ j y, ys[j]? = some y → ∀ t ∈ y, poV now t.due = ((i + j : Nat) : Int)) → ((ys.flatten.filter p).filter fun t => (poV now t.due).toNat == k) = if i ≤ k then (ys.getD (k - i) []).filter p else []
  | [], i, k, _ => by simp
  | a :: r, i, k, h => by
    have ih := places_at now p r (i + 1) k (fun j y hj t ht => by
      have := h (j + 1) y (by simpa using hj) t ht
      rwa [show i + 1 + j = i + (j + 1) by omega])
    have ha : ∀ t ∈ a.filter p, ((poV now t.due).toNat == k) = (i == k) := fun t ht => by
      have := h 0 a rfl t (List.mem_filter.1 ht).1
      rw [this]; simp
    rw [List.flatten_cons, List.filter_append, List.filter_append, ih]
    by_cases hik : i = k
    · subst hik
      rw [if_neg (by omega), if_pos (Nat.le_refl _), List.append_nil, Nat.sub_self, List.filter_eq_self.2 (fun t ht => by rw [ha t ht]; simp)]
      rfl
    · have he : (a.filter p).filter (fun t => (poV now t.due).toNat == k) = [] := List.filter_eq_nil_iff.2 fun t ht => by rw [ha t ht]; simpa using hik
      rw [he, List.nil_append]
      by_cases hlt : i + 1 ≤ k
      · rw [if_pos hlt, if_pos (by omega), show k - i = (k - (i + 1)) + 1 by omega]
        simp [List.getD]
      · rw [if_neg hlt, if_neg (by omega)]
/-- The rows of what a filter leaves. -/
theorem rows_filter {now : Int} {ys : List (List Tmr)} (h : faultW now ys = 0) (p : Tmr → Bool) : ((upto 24).map fun x => withAll now (ys.flatten.filter p) x.1) = ys.map fun y => y.filter p := by
  have hl := (fault_ok h).2.1
  have e : (ys.map fun y => y.filter p) = (upto 24).map fun x => (ys.getD x.1 []).filter p := by
    conv => lhs; rw [← map24 hl]
    rw [List.map_map]; rfl
  rw [e]
  refine List.map_congr_left fun x _ => ?_
  have := places_at now p ys 0 x.1 (fun j y hj t ht => by rw [Nat.zero_add]; exact ((fault_rows h).1 j y hj t ht).2)
  rw [if_pos (Nat.zero_le _), Nat.sub_zero] at this
  exact this

end Go.Proofs.Ytakplomopbnekaa
