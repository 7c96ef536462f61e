/-
  The bytes of an advertisement, as the mathematics has them, and what follows of its having no fault. No statement is proved here.
-/
import Derived.Test.YtamclkjofojhmaaLsaFault
import Derived.Test.YtamclkjofojhmaaBodyWords
import Derived.Test.YtamclkjofojhmaaSeal
namespace Go.Proofs.Ytamclkjofojhmaa
open Go.RowKit

def seqN (l : LsaM) : Int := if l.seq < 0 then l.seq + 4294967296 else l.seq
def bodyW (l : LsaM) : List (Int × Int) := if l.typ = 1 then rWords l.links else if l.typ = 2 then nWords l.mask l.routers else sWords l.mask l.cost
def bodyN (l : LsaM) : List Int := packAll (bodyW l)
def headW (l : LsaM) : List (Int × Int) := [(l.age, 2), (l.options, 1), (l.typ, 1), (l.id, 4), (l.adv, 4), (seqN l, 4), (0, 2), (20 + ((bodyN l).length : Int), 2)]
def headN (l : LsaM) : List Int := packAll (headW l)
def rawN (l : LsaM) : List Int := headN l ++ bodyN l
/-- The bytes of an advertisement. -/
def encN (l : LsaM) : List Int := (rawN l).take 2 ++ sealN ((rawN l).drop 2) 14

theorem headN_len (l : LsaM) : (headN l).length = 20 := by simp [headN, headW, packAll, packN_len]
theorem rawN_len (l : LsaM) : (rawN l).length = 20 + (bodyN l).length := by rw [rawN, List.length_append, headN_len]
theorem encN_len (l : LsaM) : (encN l).length = 20 + (bodyN l).length := by
  rw [encN, List.length_append, sealN_len, List.length_take, List.length_drop, rawN_len]; omega
theorem rawN_bytes (l : LsaM) : Bytes (rawN l) := by
  intro z hz
  rcases List.mem_append.1 hz with h | h
  · exact packAll_bytes _ z h
  · exact packAll_bytes _ z h
theorem encN_bytes (l : LsaM) : Bytes (encN l) := by
  intro z hz
  rcases List.mem_append.1 hz with h | h
  · exact rawN_bytes l z (List.mem_of_mem_take h)
  · exact sealN_bytes (fun z h => rawN_bytes l z (List.mem_of_mem_drop h)) _ z h

/-- What follows of there being no fault. -/
structure Sound (l : LsaM) : Prop where
  typ : l.typ = 1 ∨ l.typ = 2 ∨ l.typ = 3
  age : 0 ≤ l.age ∧ l.age ≤ 3600
  options : 0 ≤ l.options ∧ l.options ≤ 255
  id : 0 ≤ l.id ∧ l.id ≤ 4294967295
  adv : 0 ≤ l.adv ∧ l.adv ≤ 4294967295
  seq : -2147483647 ≤ l.seq ∧ l.seq ≤ 2147483647
  mask : 0 ≤ l.mask ∧ l.mask ≤ 4294967295
  cost : 0 ≤ l.cost ∧ l.cost ≤ 16777215
  links : l.links.length ≤ 8
  routers : l.routers.length ≤ 8
  link : ∀ a ∈ l.links, linkOk a = true
  router : ∀ r ∈ l.routers, idIn r = true
  form : formOf l.typ l.links.length l.routers.length l.mask l.cost = true
  least : l.typ = 2 → 0 < l.routers.length
  up : ups l.routers
  key : l.typ = 1 → l.id = l.adv

theorem allIn_one {lo hi v : Int} (h : allIn lo hi [v] = true) : lo ≤ v ∧ v ≤ hi := by
  simp only [allIn, List.all_cons, List.all_nil, Bool.and_true, Bool.and_eq_true, decide_eq_true_eq] at h
  exact h

theorem sound_of (l : LsaM) (h : faultOf l = 0) : Sound l := by
  unfold faultOf at h
  split at h
  · cases h
  rename_i h1
  split at h
  · cases h
  rename_i h2
  split at h
  · cases h
  rename_i h3
  unfold partsOf at h
  split at h
  · cases h
  rename_i h4
  split at h
  · cases h
  rename_i h5
  split at h
  · cases h
  rename_i h6
  split at h
  · cases h
  rename_i h7
  simp only [Bool.not_eq_false, Bool.and_eq_true] at h1 h2 h4 h5
  obtain ⟨⟨⟨⟨⟨⟨a1, a2⟩, a3⟩, a4⟩, a5⟩, a6⟩, a7⟩ := h2
  have ht : l.typ = 1 ∨ l.typ = 2 ∨ l.typ = 3 := by
    unfold formOf at h1
    split at h1
    · exact .inl ‹_›
    split at h1
    · exact .inr (.inl ‹_›)
    split at h1
    · exact .inr (.inr ‹_›)
    · cases h1
  refine ⟨ht, allIn_one a1, allIn_one a2, allIn_one a3, allIn_one a4, allIn_one a5, allIn_one a6, allIn_one a7, by omega, by omega, fun a ha => List.all_eq_true.1 h4 a ha, fun r hr => List.all_eq_true.1 h5 r hr, h1, fun h => by omega, Decidable.not_not.1 h6, fun h => ?_⟩
  by_cases hid : l.id = l.adv
  · exact hid
  · exact absurd ⟨h, hid⟩ h7

theorem linkOk_bounds {a : Lnk} (h : linkOk a = true) : (1 ≤ a.kind ∧ a.kind ≤ 2) ∧ (0 ≤ a.to_ ∧ a.to_ ≤ 4294967295) ∧ (0 ≤ a.own ∧ a.own ≤ 4294967295) ∧ (0 ≤ a.cost ∧ a.cost ≤ 65535) := by
  simp only [linkOk, Bool.and_eq_true] at h
  exact ⟨allIn_one h.1.1.1, allIn_one h.1.1.2, allIn_one h.1.2, allIn_one h.2⟩

theorem wOK_1 {x : Int} (h0 : 0 ≤ x) (h1 : x ≤ 255) : wOK (x, 1) := ⟨by show (1 : Int) ≤ 1; omega, by show (1 : Int) ≤ 6; omega, h0, by show x < 256 ^ 1; omega⟩
theorem wOK_2 {x : Int} (h0 : 0 ≤ x) (h1 : x ≤ 65535) : wOK (x, 2) := ⟨by show (1 : Int) ≤ 2; omega, by show (2 : Int) ≤ 6; omega, h0, by show x < 256 ^ 2; omega⟩
theorem wOK_3 {x : Int} (h0 : 0 ≤ x) (h1 : x ≤ 16777215) : wOK (x, 3) := ⟨by show (1 : Int) ≤ 3; omega, by show (3 : Int) ≤ 6; omega, h0, by show x < 256 ^ 3; omega⟩
theorem wOK_4 {x : Int} (h0 : 0 ≤ x) (h1 : x ≤ 4294967295) : wOK (x, 4) := ⟨by show (1 : Int) ≤ 4; omega, by show (4 : Int) ≤ 6; omega, h0, by show x < 256 ^ 4; omega⟩

theorem bodyW_ok {l : LsaM} (h : Sound l) : ∀ x ∈ bodyW l, wOK x := by
  unfold bodyW
  split
  · intro x hx
    rcases List.mem_append.1 hx with hx | hx
    · simp only [List.mem_cons, List.not_mem_nil, or_false] at hx
      rcases hx with rfl | rfl
      · exact wOK_2 (by omega) (by omega)
      · exact wOK_2 (by omega) (by have := h.links; omega)
    · obtain ⟨a, ha, hx⟩ := List.mem_flatMap.1 hx
      obtain ⟨b1, b2, b3, b4⟩ := linkOk_bounds (h.link a ha)
      simp only [linkWords, List.mem_cons, List.not_mem_nil, or_false] at hx
      rcases hx with rfl | rfl | rfl | rfl | rfl
      · exact wOK_4 b2.1 b2.2
      · exact wOK_4 b3.1 b3.2
      · exact wOK_1 (by omega) (by omega)
      · exact wOK_1 (by omega) (by omega)
      · exact wOK_2 b4.1 b4.2
  · split
    · intro x hx
      rcases List.mem_append.1 hx with hx | hx
      · rw [List.mem_singleton] at hx; subst hx; exact wOK_4 h.mask.1 h.mask.2
      · obtain ⟨r, hr, rfl⟩ := List.mem_map.1 hx
        have := allIn_one (h.router r hr)
        exact wOK_4 this.1 this.2
    · intro x hx
      simp only [sWords, List.mem_cons, List.not_mem_nil, or_false] at hx
      rcases hx with rfl | rfl | rfl
      · exact wOK_4 h.mask.1 h.mask.2
      · exact wOK_1 (by omega) (by omega)
      · exact wOK_3 h.cost.1 h.cost.2

theorem bodyW_len {l : LsaM} (h : Sound l) : (bodyW l).length ≤ 42 := by
  unfold bodyW
  split
  · have hz : ∀ zs : List Lnk, (zs.flatMap linkWords).length = zs.length * 5 := by
      intro zs
      induction zs with
      | nil => rfl
      | cons a t ih => rw [List.flatMap_cons, List.length_append, ih]; simp [linkWords]; omega
    have := hz l.links
    have := h.links
    simp only [rWords, List.length_append, List.length_cons, List.length_nil]
    omega
  · split
    · have := h.routers
      simp only [nWords, List.length_append, List.length_cons, List.length_nil, List.length_map]
      omega
    · simp [sWords]

theorem packAll_app (a b : List (Int × Int)) : packAll (a ++ b) = packAll a ++ packAll b := by simp [packAll]
theorem bodyN_len_1 {l : LsaM} (ht : l.typ = 1) : (bodyN l).length = 4 + 12 * l.links.length := by
  have h : (packAll (l.links.flatMap linkWords)).length = 12 * l.links.length := by
    induction l.links with
    | nil => simp [packAll]
    | cons a t ih =>
      rw [List.flatMap_cons, packAll_app, List.length_append, ih]
      simp [packAll, linkWords, packN_len]; omega
  rw [bodyN, bodyW, if_pos ht, rWords, packAll_app, List.length_append, h]
  simp [packAll, packN_len]
theorem bodyN_len_2 {l : LsaM} (ht : l.typ = 2) : (bodyN l).length = 4 + 4 * l.routers.length := by
  have h : (packAll (l.routers.map fun r => (r, 4))).length = 4 * l.routers.length := by
    induction l.routers with
    | nil => simp [packAll]
    | cons a t ih =>
      rw [List.map_cons, show (((a, 4) : Int × Int) :: t.map fun r => (r, 4)) = [(a, 4)] ++ t.map fun r => (r, 4) from rfl, packAll_app, List.length_append, ih]
      simp [packAll, packN_len]; omega
  rw [bodyN, bodyW, if_neg (by omega), if_pos ht, nWords, packAll_app, List.length_append, h]
  simp [packAll, packN_len]
theorem bodyN_len_3 {l : LsaM} (ht : l.typ = 3) : (bodyN l).length = 8 := by
  rw [bodyN, bodyW, if_neg (by omega), if_neg (by omega)]
  simp [packAll, sWords, packN_len]
theorem bodyN_len {l : LsaM} (h : Sound l) : 4 ≤ (bodyN l).length ∧ (bodyN l).length ≤ 100 := by
  rcases h.typ with ht | ht | ht
  · rw [bodyN_len_1 ht]; have := h.links; omega
  · rw [bodyN_len_2 ht]; have := h.routers; omega
  · rw [bodyN_len_3 ht]; omega

theorem seqN_bd {l : LsaM} (h : Sound l) : 0 ≤ seqN l ∧ seqN l ≤ 4294967295 := by
  have := h.seq
  unfold seqN
  split <;> omega
theorem headW_ok {l : LsaM} (h : Sound l) : ∀ x ∈ headW l, wOK x := by
  intro x hx
  have hb := bodyN_len h
  have hs := seqN_bd h
  simp only [headW, List.mem_cons, List.not_mem_nil, or_false] at hx
  rcases hx with rfl | rfl | rfl | rfl | rfl | rfl | rfl | rfl
  · exact wOK_2 h.age.1 (by have := h.age.2; omega)
  · exact wOK_1 h.options.1 h.options.2
  · exact wOK_1 (by have := h.typ; omega) (by have := h.typ; omega)
  · exact wOK_4 h.id.1 h.id.2
  · exact wOK_4 h.adv.1 h.adv.2
  · exact wOK_4 hs.1 hs.2
  · exact wOK_2 (by omega) (by omega)
  · exact wOK_2 (by omega) (by omega)

end Go.Proofs.Ytamclkjofojhmaa
