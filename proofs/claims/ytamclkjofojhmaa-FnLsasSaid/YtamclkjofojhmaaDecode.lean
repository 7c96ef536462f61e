/-
  The program's DecodeLsa. No statement is proved here.
-/
import Derived.Test.YtamclkjofojhmaaDecBody
import Derived.Test.YtamclkjofojhmaaEncBoth
import Derived.Test.YtamclkjofojhmaaHeldLsa
import Derived.Test.YtamclkjofojhmaaSealed
import Derived.Test.YtamclkjofojhmaaSame
namespace Go.Proofs.Ytamclkjofojhmaa
open Go.RowKit
set_option linter.unusedVariables false

def BodyOK (n : Nat) (xs : List Int) (v : Value) (E F : Option Addr) (k d m g : Nat) : Prop :=
  ∀ W : World, Calls Try.prog 68 #[.agg (lsaCells (headR n xs) none none 0 0 0 0), v] W fun e w' => e = .returned (.agg (lsaCells (readM n xs) E F k d m g)) ∧ Below W.heap.size W w'

theorem readBody_any (A : Option Addr) (n c : Nat) (xs : List Int) (w : World) (ha : BIn w A n xs) (hb : Bytes xs) (hn : n ≤ 400) (hnc : n ≤ c) :
    Calls Try.prog 70 #[.slice A n c] w fun e w' => ∃ v E F k d m g, e = .returned v ∧ BodyOK n xs v E F k d m g ∧ LsaTwo w.heap.size w'.heap.size w' E k F m (readM n xs) ∧ k ≤ 400 ∧ m ≤ 400 ∧ Below w.heap.size w w' := by
  by_cases h1 : rval n xs 3 1 = 1
  · have e1 : readM n xs = { headR n xs with links := linksR n xs ((n - 24) / 12) } := by unfold readM; rw [if_pos h1]
    refine (readBody_1 A n c xs w ha hb hn hnc h1).mono fun e w' ⟨E, d, h2, h3, h4⟩ => ⟨_, E, none, (n - 24) / 12, d, 0, 0, h2, fun W => ?_, ⟨⟨w.heap.size, w'.heap.size, w'.heap.size, w'.heap.size, Nat.le_refl _, Nat.le_refl _, h4.size, Nat.le_refl _, .inl (Nat.le_refl _), ?_, ?_⟩, Nat.le_refl _⟩, by omega, by omega, h4⟩
    · rw [e1]; exact withBody_1 (headR n xs) none none 0 0 0 0 E _ d W
    · rw [e1]; exact links_of_own h3
    · rw [e1]; exact Rep.Sl_nil _ _ _ _ _ _
  by_cases h2 : rval n xs 3 1 = 2
  · have e1 : readM n xs = { headR n xs with mask := rval n xs 20 4, routers := routersR n xs ((n - 24) / 4) } := by unfold readM; rw [if_neg h1, if_pos h2]
    refine (readBody_2 A n c xs w ha hb hn hnc h2).mono fun e w' ⟨E, d, h2, h3, h4⟩ => ⟨_, none, E, 0, 0, (n - 24) / 4, d, h2, fun W => ?_, ⟨⟨w'.heap.size, w'.heap.size, w.heap.size, w'.heap.size, h4.size, Nat.le_refl _, Nat.le_refl _, Nat.le_refl _, .inr (Nat.le_refl _), ?_, ?_⟩, Nat.le_refl _⟩, by omega, by omega, h4⟩
    · rw [e1]; exact withBody_2 (headR n xs) none none 0 0 0 0 _ E _ d W
    · rw [e1]; exact Rep.Sl_nil _ _ _ _ _ _
    · rw [e1]; exact ints_of_own h3
  by_cases h3 : rval n xs 3 1 = 3
  · have e1 : readM n xs = { headR n xs with mask := rval n xs 20 4, cost := rval n xs 25 3 } := by unfold readM; rw [if_neg h1, if_neg h2, if_pos h3]
    refine (readBody_3 A n c xs w ha hb hn hnc h3).mono fun e w' ⟨h2, h4⟩ => ⟨_, none, none, 0, 0, 0, 0, h2, fun W => ?_, ⟨⟨w'.heap.size, w'.heap.size, w.heap.size, w'.heap.size, h4.size, Nat.le_refl _, Nat.le_refl _, Nat.le_refl _, .inr (Nat.le_refl _), ?_, ?_⟩, Nat.le_refl _⟩, by omega, by omega, h4⟩
    · rw [e1]; exact withBody_3 (headR n xs) none none 0 0 0 0 _ _ W
    · rw [e1]; exact Rep.Sl_nil _ _ _ _ _ _
    · rw [e1]; exact Rep.Sl_nil _ _ _ _ _ _
  · have e1 : readM n xs = headR n xs := by unfold readM; rw [if_neg h1, if_neg h2, if_neg h3]
    refine (readBody_0 A n c xs w ha hb hn hnc h1 h2 h3).mono fun e w' ⟨h2, h4⟩ => ⟨_, none, none, 0, 0, 0, 0, h2, fun W => ?_, ⟨⟨w'.heap.size, w'.heap.size, w.heap.size, w'.heap.size, h4.size, Nat.le_refl _, Nat.le_refl _, Nat.le_refl _, .inr (Nat.le_refl _), ?_, ?_⟩, Nat.le_refl _⟩, by omega, by omega, h4⟩
    · rw [e1]; exact withBody_0 (headR n xs) none none 0 0 0 0 W
    · rw [e1]; exact Rep.Sl_nil _ _ _ _ _ _
    · rw [e1]; exact Rep.Sl_nil _ _ _ _ _ _

def zeroM : LsaM := ⟨0, 0, 0, 0, 0, 0, [], [], 0, 0⟩
/-- The code of bytes that are to be read. -/
def decCode (n : Nat) (xs : List Int) : Int :=
  if ¬ (20 ≤ n ∧ n ≤ 400) then 2 else if ¬ rval n xs 18 2 = n then 1 else if sealedB (xs.drop 2) = false then 6
  else if faultOf (readM n xs) = 0 ∧ encN (readM n xs) = xs then 0 else 5
def decM (n : Nat) (xs : List Int) : LsaM := if decCode n xs = 0 then readM n xs else zeroM

theorem LsaTwo.zero (lo : Nat) (w : World) (h : lo ≤ w.heap.size) : LsaTwo lo w.heap.size w none 0 none 0 zeroM :=
  ⟨⟨lo, lo, lo, lo, Nat.le_refl _, h, Nat.le_refl _, h, .inl (Nat.le_refl _), Rep.Sl_nil _ _ _ _ _ _, Rep.Sl_nil _ _ _ _ _ _⟩, Nat.le_refl _⟩

abbrev Zres : Array Value := resCells 0 zeroM none none 0 0 0 0

set_option maxRecDepth 100000 in
set_option maxHeartbeats 1600000 in
/-- A code alone: behind the answer's box. -/
theorem decode_many (A : Option Addr) (n c : Nat) (xs : List Int) (w : World) (ha : BIn w A n xs) (hn : n ≤ 1048576) (h : ¬ (20 ≤ n ∧ n ≤ 400)) :
    Calls Try.prog 16 #[.slice A n c] w fun e w' => e = .returned (.agg (resCells 2 zeroM none none 0 0 0 0)) ∧ Below w.heap.size w w' := by
  have hF := allIn_one_no (lo := 20) (hi := 400) (v := (n : Int)) (by omega)
  have HF := Lib.hid hF
  clear hF ha
  go_enter Try.func16, Try.ntmps16
  go_wp2_with fail
  refine (allWithin_one _ _ _ (n : Int) _ (by simp [go_sem])).mono ?_
  rw [HF.out]
  rintro e w1 ⟨rfl, rfl⟩
  go_wp2
  refine bodyPost_ret (v := .agg (resCells 2 zeroM none none 0 0 0 0)) (by simp [results, Try.results16, go_sem, zeroM]) rfl ⟨rfl, ?_⟩
  exact ((Below.refl _ _).alloc (Nat.le_refl _) _).alloc (by simp) _

end Go.Proofs.Ytamclkjofojhmaa
