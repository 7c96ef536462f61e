/-
  What follows of ages by parts, by arithmetic alone. No statement is proved here.
-/
import Derived.Test.YtamclkjofojhmaaAgeLsa
namespace Go.Proofs.Ytamclkjofojhmaa
open Go.RowKit
set_option linter.unusedVariables false

theorem fault_with (l : LsaM) (s t : Int) (h : faultOf l = 0) (hs : -2147483647 ≤ s ∧ s ≤ 2147483647) (ht : 0 ≤ t ∧ t ≤ 3600) : faultOf { l with seq := s, age := t } = 0 := by
  unfold faultOf at h
  split at h
  · cases h
  rename_i h1
  split at h
  · cases h
  rename_i h2
  split at h
  · cases h
  rename_i h3
  have h2' : (allIn 0 3600 [l.age] && allIn 0 255 [l.options] && idIn l.id && idIn l.adv && allIn (-2147483647) 2147483647 [l.seq] && idIn l.mask && allIn 0 16777215 [l.cost]) = true := by
    rwa [Bool.not_eq_false] at h2
  simp only [Bool.and_eq_true] at h2'
  obtain ⟨⟨⟨⟨⟨⟨_, a2⟩, a3⟩, a4⟩, _⟩, a6⟩, a7⟩ := h2'
  unfold faultOf
  rw [if_neg h1, if_neg (by rw [allIn_one_yes ht.1 ht.2, a2, a3, a4, allIn_one_yes hs.1 hs.2, a6, a7]; decide), if_neg h3]
  exact h
theorem fault_seq (l : LsaM) (s : Int) (h : faultOf l = 0) (hs : -2147483647 ≤ s ∧ s ≤ 2147483647) : faultOf { l with seq := s } = 0 := fault_with l s l.age h hs (sound_of l h).age
theorem fault_age (l : LsaM) (t : Int) (h : faultOf l = 0) (ht : 0 ≤ t ∧ t ≤ 3600) : faultOf { l with age := t } = 0 := fault_with l l.seq t h (sound_of l h).seq ht

theorem age_fault (l : LsaM) (t : Int) (h : ageC l t = 0) : faultOf l = 0 ∧ 0 ≤ t ∧ faultOf (ageM l t) = 0 ∧ l.age ≤ (ageM l t).age := by
  have h1 : faultOf l = 0 := by
    by_cases e : faultOf l = 0
    · exact e
    · rw [ageC_1 e] at h; exact absurd h e
  have h2 : ¬ t < 0 := fun e => by rw [ageC_2 h1 e] at h; cases h
  have hs := (sound_of l h1).age
  refine ⟨h1, by omega, ?_, ?_⟩
  · rw [ageM_yes h]; exact fault_age l _ h1 (by omega)
  · rw [ageM_yes h]; show l.age ≤ min (l.age + min t 3600) 3600; omega
theorem age_parts (l : LsaM) (t p : Int) (h : ageC l t = 0) (h0 : 0 ≤ p) (h1 : p ≤ t) : ageC l p = 0 ∧ ageC (ageM l p) (t - p) = 0 ∧ ageM (ageM l p) (t - p) = ageM l t := by
  obtain ⟨hf, ht, _, _⟩ := age_fault l t h
  have hs := (sound_of l hf).age
  have e1 : ageC l p = 0 := ageC_3 hf (by omega)
  obtain ⟨_, _, hf2, _⟩ := age_fault l p e1
  have e2 : ageC (ageM l p) (t - p) = 0 := ageC_3 hf2 (by omega)
  refine ⟨e1, e2, ?_⟩
  rw [ageM_yes e2, ageM_yes e1, ageM_yes h]
  show ({ l with age := min (min (l.age + min p 3600) 3600 + min (t - p) 3600) 3600 } : LsaM) = { l with age := min (l.age + min t 3600) 3600 }
  rw [show min (min (l.age + min p 3600) 3600 + min (t - p) 3600) 3600 = min (l.age + min t 3600) 3600 by omega]

end Go.Proofs.Ytamclkjofojhmaa
