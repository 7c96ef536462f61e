/-
  What the model's l2Read reads of the bytes behind a head: joined. No statement is proved here.
-/
import Derived.Test.YtamclkjofojhmaaSpecRead3
import Derived.Test.YtamclkjofojhmaaClone
import Derived.Test.YtamclkjofojhmaaDecode2
import Derived.Test.YtamclkjofojhmaaEncMath
namespace Go.Proofs.Ytamclkjofojhmaa
open Go.RowKit
set_option linter.unusedVariables false

/-- Does l2Read take the bytes. -/
def rdB (n : Nat) (xs : List Int) : Prop :=
  24 ≤ n ∧ (rval n xs 3 1 = 1 → (n : Int) = 24 + 12 * rval n xs 22 2) ∧ (rval n xs 3 1 = 3 → n = 28)
instance (n : Nat) (xs : List Int) : Decidable (rdB n xs) := by unfold rdB; infer_instance

theorem linksZ_eq {n : Nat} {xs : List Int} (hn : 20 ≤ n) (K : Nat) : linksZ (n - 20) (xs.drop 20) K = linksR n xs K := by
  unfold linksZ linksR
  refine List.map_congr_left fun i _ => ?_
  unfold linkZ linkR
  rw [rval_drop hn (by omega), rval_drop hn (by omega), rval_drop hn (by omega), rval_drop hn (by omega)]
  rw [show 20 + (4 + 12 * (i : Int) + 8) = 24 + 12 * (i : Int) + 8 by omega, show 20 + (4 + 12 * (i : Int)) = 24 + 12 * (i : Int) by omega, show 20 + (4 + 12 * (i : Int) + 4) = 24 + 12 * (i : Int) + 4 by omega, show 20 + (4 + 12 * (i : Int) + 10) = 24 + 12 * (i : Int) + 10 by omega]
theorem routersZ_eq {n : Nat} {xs : List Int} (hn : 20 ≤ n) (K : Nat) : routersZ (n - 20) (xs.drop 20) K = routersR n xs K := by
  unfold routersZ routersR
  refine List.map_congr_left fun i _ => ?_
  rw [rval_drop hn (by omega), show 20 + (4 + 4 * (i : Int)) = 24 + 4 * (i : Int) by omega]

/-- l2Read of what stands behind the head, at a variable that holds the head. -/
def ReadOut (w : World) (n : Nat) (xs : List Int) (g : Nat) (e : Ending) (w' : World) : Prop :=
  ∃ E F k d m d2, e = .returned (.bool true) ∧ Box w' g 29 (lsaCells (readM n xs) E F k d m d2) ∧ LsaTwo w.heap.size w'.heap.size w' E k F m (readM n xs) ∧ k ≤ 400 ∧ m ≤ 400 ∧ w.grownBy w' (some g)
theorem LsaTwo.none_ (lo : Nat) (w : World) (l : LsaM) (h : lo ≤ w.heap.size) (h1 : l.links = []) (h2 : l.routers = []) : LsaTwo lo w.heap.size w none 0 none 0 l :=
  ⟨⟨lo, lo, lo, lo, Nat.le_refl _, h, Nat.le_refl _, h, .inl (Nat.le_refl _), by rw [h1]; exact Rep.Sl_nil _ _ _ _ _ _, by rw [h2]; exact Rep.Sl_nil _ _ _ _ _ _⟩, Nat.le_refl _⟩
theorem headR_typ (n : Nat) (xs : List Int) : (headR n xs).typ = rval n xs 3 1 := rfl

theorem l2Read_yes (g : Nat) (A : Option Addr) (n c : Nat) (xs : List Int) (w : World) (hx : Box w g 29 (lsaCells (headR n xs) none none 0 0 0 0)) (ha : BIn w A (n - 20) (xs.drop 20)) (hl : xs.length = n) (hb : Bytes xs) (hn : n ≤ 400) (hne : ∀ r, A.map (·.block) = some r → r ≠ g) (h : rdB n xs) :
    Calls Try.prog 122 #[.pointer (some ⟨g, 0, none⟩), .slice A (n - 20) c] w (ReadOut w n xs g) := by
  have hb' : Bytes (xs.drop 20) := fun z hz => hb z (List.mem_of_mem_drop hz)
  obtain ⟨h24, hr1, hr3⟩ := h
  by_cases h1 : rval n xs 3 1 = 1
  · have hk := hr1 h1
    have hbd := rval_bd2 n xs 22 hb hl
    obtain ⟨K, hK⟩ := Int.eq_ofNat_of_zero_le hbd.1
    have hZ : rval (n - 20) (xs.drop 20) 2 2 = (K : Int) := by rw [rval_drop (by omega) (by omega)]; exact hK
    rw [hK] at hk
    refine (l2Read_1 (headR n xs) g A (n - 20) c K (xs.drop 20) w hx ha hb' (by omega) (by omega) h1 (by omega) hZ hne).mono ?_
    rintro e w' ⟨E, d, h2, h3, h4, h5⟩
    rw [linksZ_eq (by omega)] at h4
    have hM : readM n xs = { headR n xs with links := linksR n xs K } := by unfold readM; rw [if_pos h1, show (n - 24) / 12 = K by omega]
    refine ⟨E, none, K, d, 0, 0, h2, by rw [hM]; exact h3, ⟨⟨w.heap.size, w'.heap.size, w'.heap.size, w'.heap.size, Nat.le_refl _, Nat.le_refl _, h5.size, Nat.le_refl _, .inl (Nat.le_refl _), ?_, ?_⟩, Nat.le_refl _⟩, by omega, by omega, h5⟩
    · rw [hM]; exact links_of_own h4
    · rw [hM]; exact Rep.Sl_nil _ _ _ _ _ _
  by_cases h2 : rval n xs 3 1 = 2
  · refine (l2Read_2 (headR n xs) g A (n - 20) c (xs.drop 20) w hx ha hb' (by omega) (by omega) h2 hne).mono ?_
    rintro e w' ⟨E, d, h3, h4, h5, h6⟩
    rw [routersZ_eq (by omega)] at h5
    have hM : readM n xs = { headR n xs with mask := rval n xs 20 4, routers := routersR n xs ((n - 24) / 4) } := by unfold readM; rw [if_neg h1, if_pos h2]
    rw [show (n - 20 - 4) / 4 = (n - 24) / 4 by omega] at h4 h5
    rw [rval_drop (by omega) (by omega)] at h4
    refine ⟨none, E, 0, 0, (n - 24) / 4, d, h3, by rw [hM]; exact h4, ⟨⟨w'.heap.size, w'.heap.size, w.heap.size, w'.heap.size, h6.size, Nat.le_refl _, Nat.le_refl _, Nat.le_refl _, .inr (Nat.le_refl _), ?_, ?_⟩, Nat.le_refl _⟩, by omega, by omega, h6⟩
    · rw [hM]; exact Rep.Sl_nil _ _ _ _ _ _
    · rw [hM]; exact ints_of_own h5
  by_cases h3 : rval n xs 3 1 = 3
  · obtain rfl := hr3 h3
    have hM : readM 28 xs = { headR 28 xs with mask := rval 28 xs 20 4, cost := rval 28 xs 25 3 } := by unfold readM; rw [if_neg h1, if_neg h2, if_pos h3]
    refine (l2Read_3yes (headR 28 xs) g A c (xs.drop 20) w hx ha hb' h3 hne).mono ?_
    rintro e w' ⟨h4, h5, h6⟩
    rw [rval_drop (n := 28) (by omega) (by omega), rval_drop (n := 28) (by omega) (by omega)] at h5
    exact ⟨none, none, 0, 0, 0, 0, h4, by rw [hM]; exact h5, LsaTwo.none_ _ _ _ h6.size (by rw [hM]; rfl) (by rw [hM]; rfl), by omega, by omega, h6⟩
  · have hM : readM n xs = headR n xs := by unfold readM; rw [if_neg h1, if_neg h2, if_neg h3]
    refine (l2Read_none (headR n xs) g A (n - 20) c w hx (by omega) h1 h2 h3).mono ?_
    rintro e w' ⟨h4, rfl⟩
    exact ⟨none, none, 0, 0, 0, 0, h4, by rw [hM]; exact hx, LsaTwo.none_ _ _ _ (Nat.le_refl _) (by rw [hM]; rfl) (by rw [hM]; rfl), by omega, by omega, World.grownBy.refl _ _⟩

theorem l2Read_no (g : Nat) (A : Option Addr) (n c : Nat) (xs : List Int) (w : World) (hx : Box w g 29 (lsaCells (headR n xs) none none 0 0 0 0)) (ha : BIn w A (n - 20) (xs.drop 20)) (hl : xs.length = n) (hb : Bytes xs) (hn0 : 20 ≤ n) (hn : n ≤ 400) (h : ¬ rdB n xs) :
    Calls Try.prog 122 #[.pointer (some ⟨g, 0, none⟩), .slice A (n - 20) c] w fun e w' => e = .returned (.bool false) ∧ w' = w := by
  have hb' : Bytes (xs.drop 20) := fun z hz => hb z (List.mem_of_mem_drop hz)
  by_cases h24 : n < 24
  · exact l2Read_short (headR n xs) g A (n - 20) c w (by omega)
  by_cases h1 : rval n xs 3 1 = 1
  · refine l2Read_1no (headR n xs) g A (n - 20) c (xs.drop 20) w hx ha hb' (by omega) (by omega) h1 fun hk => h ⟨by omega, fun _ => ?_, fun h3 => absurd h3 (by omega)⟩
    rw [rval_drop (by omega) (by omega)] at hk
    rw [show (20 : Int) + 2 = 22 from rfl] at hk
    omega
  by_cases h3 : rval n xs 3 1 = 3
  · refine l2Read_3no (headR n xs) g A (n - 20) c w hx (by omega) h3 fun h8 => h ⟨by omega, fun h => absurd h h1, fun _ => by omega⟩
  · exact absurd ⟨by omega, fun h => absurd h h1, fun h => absurd h h3⟩ h

/-- Bytes that l2Read does not take are those of no advertisement. -/
theorem rd_of {n : Nat} {xs : List Int} (hl : xs.length = n) (hf : faultOf (readM n xs) = 0) (he : encN (readM n xs) = xs) : rdB n xs := by
  have hs := sound_of _ hf
  have hlen := encN_len (readM n xs)
  rw [he, hl] at hlen
  have hb := bodyN_len hs
  have ht : (readM n xs).typ = rval n xs 3 1 := by unfold readM; split; rfl; split; rfl; split; rfl; rfl
  refine ⟨by omega, fun h1 => ?_, fun h3 => ?_⟩
  · have hc := count_of_enc hs (by rw [ht]; exact h1)
    rw [← hlen, he] at hc
    have := bodyN_len_1 (l := readM n xs) (by rw [ht]; exact h1)
    omega
  · have := bodyN_len_3 (l := readM n xs) (by rw [ht]; exact h3)
    omega

end Go.Proofs.Ytamclkjofojhmaa
