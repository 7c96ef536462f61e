/-
  What is read of the bytes of an advertisement: the words that were packed. Plain lemmas on lists; no statement is proved here.
-/
import Derived.Test.YtamclkjofojhmaaMath
import Derived.Test.YtamclkjofojhmaaEnc
namespace Go.Proofs.Ytamclkjofojhmaa
open Go.RowKit
set_option linter.unusedVariables false

theorem pack_at (pre post : List (Int × Int)) (x : Int × Int) (hok : wOK x) : readN (((packAll (pre ++ x :: post)).drop (packAll pre).length).take x.2.toNat) = x.1 := by
  have e : packAll (x :: post) = packN x.1 x.2.toNat ++ packAll post := by simp [packAll]
  have h := hok
  unfold wOK pOK at h
  rw [packAll_app, e, List.drop_left, List.take_left' (packN_len _ _)]
  exact readN_packN _ _ h.2.2.1 h.2.2.2

theorem encN_at (l : LsaM) (i : Nat) (h : i ≠ 16 ∧ i ≠ 17) : (encN l).getD i 0 = (rawN l).getD i 0 := by
  have hl := rawN_len l
  have hsub : ∀ j, j ≠ 14 → j ≠ 15 → (sealN ((rawN l).drop 2) 14).getD j 0 = ((rawN l).drop 2).getD j 0 := by
    intro j h1 h2
    have hlen : 20 ≤ (rawN l).length := by omega
    unfold sealN
    rw [getD_set _ _ _ _ (by rw [List.length_set, zeroed_len, List.length_drop]; omega), if_neg (by omega), getD_set _ _ _ _ (by rw [zeroed_len, List.length_drop]; omega), if_neg (by omega)]
    unfold zeroed
    rw [getD_set _ _ _ _ (by rw [List.length_set, List.length_drop]; omega), if_neg (by omega), getD_set _ _ _ _ (by rw [List.length_drop]; omega), if_neg (by omega)]
  unfold encN
  by_cases h2 : i < 2
  · rw [List.getD_eq_getElem?_getD, List.getElem?_append_left (by rw [List.length_take]; omega), List.getElem?_take_of_lt h2, ← List.getD_eq_getElem?_getD]
  · rw [List.getD_eq_getElem?_getD, List.getElem?_append_right (by rw [List.length_take]; omega), List.length_take, show min 2 (rawN l).length = 2 by omega, ← List.getD_eq_getElem?_getD, hsub _ (by omega) (by omega)]
    rw [List.getD_eq_getElem?_getD, List.getElem?_drop, show 2 + (i - 2) = i by omega, ← List.getD_eq_getElem?_getD]

theorem encN_sub (l : LsaM) (a s : Nat) (h : a + s ≤ 16 ∨ 18 ≤ a) (hl : a + s ≤ (rawN l).length) : ((encN l).drop a).take s = ((rawN l).drop a).take s := by
  have h1 := encN_len l
  have h2 := rawN_len l
  refine take_eq_all (n := s) (by rw [List.length_take, List.length_drop]; omega) (by rw [List.length_take, List.length_drop]; omega) fun i hi => ?_
  rw [sub_at hi, sub_at hi, encN_at l _ (by omega)]

/-- A word is read back from where it was packed. -/
theorem raw_at (l : LsaM) (pre post : List (Int × Int)) (x : Int × Int) (a : Nat) (hw : headW l ++ bodyW l = pre ++ x :: post) (hok : wOK x) (ha : (packAll pre).length = a) (hs : a + x.2.toNat ≤ 16 ∨ 18 ≤ a) :
    rval (20 + (bodyN l).length) (encN l) a x.2 = x.1 := by
  have hr : rawN l = packAll (pre ++ x :: post) := by rw [← hw, packAll_app]; rfl
  have hlen : (rawN l).length = a + x.2.toNat + (packAll post).length := by
    rw [hr, packAll_app, List.length_append, ha, show packAll (x :: post) = packN x.1 x.2.toNat ++ packAll post by simp [packAll], List.length_append, packN_len]; omega
  have h2 := rawN_len l
  have h := hok
  unfold wOK pOK at h
  have hk : rOK (20 + (bodyN l).length) (a : Int) x.2 := by unfold rOK; omega
  unfold rval
  rw [if_pos hk, Int.toNat_natCast, encN_sub l a _ hs (by omega), hr, ← ha]
  exact pack_at pre post x hok

theorem count_of_enc {l : LsaM} (h : Sound l) (ht : l.typ = 1) : rval (20 + (bodyN l).length) (encN l) 22 2 = l.links.length := by
  have hb : bodyW l = [(0, 2)] ++ ((l.links.length : Int), 2) :: l.links.flatMap linkWords := by unfold bodyW; rw [if_pos ht]; rfl
  have hl := h.links
  exact raw_at l (headW l ++ [(0, 2)]) (l.links.flatMap linkWords) ((l.links.length : Int), 2) 22 (by rw [hb, List.append_assoc]) (wOK_2 (by omega) (by omega)) (by rw [packAll_app, List.length_append, show (packAll (headW l)).length = 20 from headN_len l]; simp [packAll, packN_len]) (.inr (by omega))

end Go.Proofs.Ytamclkjofojhmaa
