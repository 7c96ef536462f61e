/-
  What follows of an advertisement's having no fault. No statement is proved here.
-/
import Derived.Test.YtooogjfnnmacjaaLsaFault
namespace Go.Proofs.Ytooogjfnnmacjaa
open Go.RowKit

/-- What follows of there being no fault. -/
structure Sound (l : LsaM) : Prop where
  typ : l.typ = 1 ∨ l.typ = 2 ∨ l.typ = 3
  age : 0 ≤ l.age ∧ l.age ≤ 3600
  options : 0 ≤ l.options ∧ l.options ≤ 255
  id : 0 ≤ l.id ∧ l.id ≤ 4294967295
  adv : 0 ≤ l.adv ∧ l.adv ≤ 4294967295
  seq : -2147483647 ≤ l.seq ∧ l.seq ≤ 2147483647
  mask : 0 ≤ l.mask ∧ l.mask ≤ 4294967295
  cost : 0 ≤ l.cost ∧ l.cost ≤ 16777215
  links : l.links.length ≤ 8
  routers : l.routers.length ≤ 8
  link : ∀ a ∈ l.links, linkOk a = true
  router : ∀ r ∈ l.routers, idIn r = true
  form : formOf l.typ l.links.length l.routers.length l.mask l.cost = true
  least : l.typ = 2 → 0 < l.routers.length
  up : ups l.routers
  key : l.typ = 1 → l.id = l.adv

theorem allIn_one {lo hi v : Int} (h : allIn lo hi [v] = true) : lo ≤ v ∧ v ≤ hi := by
  simp only [allIn, List.all_cons, List.all_nil, Bool.and_true, Bool.and_eq_true, decide_eq_true_eq] at h
  exact h

theorem sound_of (l : LsaM) (h : faultOf l = 0) : Sound l := by
  unfold faultOf at h
  split at h
  · cases h
  rename_i h1
  split at h
  · cases h
  rename_i h2
  split at h
  · cases h
  rename_i h3
  unfold partsOf at h
  split at h
  · cases h
  rename_i h4
  split at h
  · cases h
  rename_i h5
  split at h
  · cases h
  rename_i h6
  split at h
  · cases h
  rename_i h7
  simp only [Bool.not_eq_false, Bool.and_eq_true] at h1 h2 h4 h5
  obtain ⟨⟨⟨⟨⟨⟨a1, a2⟩, a3⟩, a4⟩, a5⟩, a6⟩, a7⟩ := h2
  have ht : l.typ = 1 ∨ l.typ = 2 ∨ l.typ = 3 := by
    unfold formOf at h1
    split at h1
    · exact .inl ‹_›
    split at h1
    · exact .inr (.inl ‹_›)
    split at h1
    · exact .inr (.inr ‹_›)
    · cases h1
  refine ⟨ht, allIn_one a1, allIn_one a2, allIn_one a3, allIn_one a4, allIn_one a5, allIn_one a6, allIn_one a7, by omega, by omega, fun a ha => List.all_eq_true.1 h4 a ha, fun r hr => List.all_eq_true.1 h5 r hr, h1, fun h => by omega, Decidable.not_not.1 h6, fun h => ?_⟩
  by_cases hid : l.id = l.adv
  · exact hid
  · exact absurd ⟨h, hid⟩ h7

end Go.Proofs.Ytooogjfnnmacjaa
