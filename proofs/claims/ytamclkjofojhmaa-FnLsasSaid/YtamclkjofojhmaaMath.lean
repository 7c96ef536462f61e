/-
  The sums of a list whose bytes are set anew, a sealed list, a turned bit; numbers read back from their bytes. Plain lemmas on lists; no statement is proved here.
-/
import Derived.Test.YtamclkjofojhmaaSeal
import Derived.Test.YtamclkjofojhmaaPack
import Derived.Test.YtamclkjofojhmaaRead
import Derived.Test.YtamclkjofojhmaaSealed
namespace Go.Proofs.Ytamclkjofojhmaa
open Go.RowKit

theorem sums_from (zs : List Int) (a b : Int) : zs.foldl (fun p z => (p.1 + z, p.2 + (p.1 + z))) (a, b) = (a + (sums zs).1, b + a * zs.length + (sums zs).2) := by
  induction zs generalizing a b with
  | nil => simp [sums]
  | cons z t ih =>
    have h2 : sums (z :: t) = (0 + z + (sums t).1, 0 + (0 + z) + (0 + z) * t.length + (sums t).2) := by
      unfold sums
      rw [List.foldl_cons, ih]
      rfl
    rw [List.foldl_cons, ih, h2]
    simp only [List.length_cons]
    congr 1
    · omega
    · push_cast
      grind

theorem sums_cons (z : Int) (t : List Int) : sums (z :: t) = (z + (sums t).1, z * (t.length + 1) + (sums t).2) := by
  have h : sums (z :: t) = t.foldl (fun p z => (p.1 + z, p.2 + (p.1 + z))) (0 + z, 0 + (0 + z)) := rfl
  rw [h, sums_from]
  congr 1
  · omega
  · grind

theorem sums_set (zs : List Int) (p : Nat) (u : Int) (h : p < zs.length) :
    (sums (zs.set p u)).1 = (sums zs).1 - zs.getD p 0 + u ∧ (sums (zs.set p u)).2 = (sums zs).2 + ((zs.length : Int) - p) * (u - zs.getD p 0) := by
  induction zs generalizing p with
  | nil => simp at h
  | cons z t ih =>
    cases p with
    | zero =>
      rw [List.set_cons_zero, sums_cons, sums_cons]
      simp only [List.length_cons, List.getD_cons_zero]
      constructor
      · omega
      · push_cast
        grind
    | succ p =>
      have ih := ih p (by simpa using h)
      rw [List.set_cons_succ, sums_cons, sums_cons]
      simp only [List.length_cons, List.getD_cons_succ, List.length_set]
      constructor
      · omega
      · push_cast
        rw [ih.2]
        grind

theorem seal_zero (L H x y k : Int) (hx : x = ((k + 1) * (L % 255) - H % 255) % 255) (hy : y = (H % 255 - (k + 2) * (L % 255)) % 255) :
    (L + x + y) % 255 = 0 ∧ (H + (k + 2) * x + (k + 1) * y) % 255 = 0 := by
  have eL : L = L % 255 + 255 * (L / 255) := by omega
  have eH : H = H % 255 + 255 * (H / 255) := by omega
  obtain ⟨l, hl⟩ : ∃ l, L % 255 = l := ⟨_, rfl⟩
  obtain ⟨h, hh⟩ : ∃ h, H % 255 = h := ⟨_, rfl⟩
  obtain ⟨ql, hql⟩ : ∃ q, L / 255 = q := ⟨_, rfl⟩
  obtain ⟨qh, hqh⟩ : ∃ q, H / 255 = q := ⟨_, rfl⟩
  rw [hl, hql] at eL
  rw [hh, hqh] at eH
  rw [hl, hh] at hx hy
  have ex : ∃ q, x = (k + 1) * l - h + 255 * q := ⟨-(((k + 1) * l - h) / 255), by omega⟩
  have ey : ∃ q, y = h - (k + 2) * l + 255 * q := ⟨-((h - (k + 2) * l) / 255), by omega⟩
  obtain ⟨q1, e1⟩ := ex
  obtain ⟨q2, e2⟩ := ey
  constructor
  · apply Int.emod_eq_zero_of_dvd
    exact ⟨ql + q1 + q2, by grind⟩
  · apply Int.emod_eq_zero_of_dvd
    exact ⟨qh + (k + 2) * q1 + (k + 1) * q2, by grind⟩

theorem sealN_sums (zs : List Int) (p : Nat) (h : p + 2 ≤ zs.length) : (sums (sealN zs p)).1 % 255 = 0 ∧ (sums (sealN zs p)).2 % 255 = 0 := by
  have hl := zeroed_len zs p
  have z0 : (zeroed zs p).getD p 0 = 0 := by
    unfold zeroed
    rw [getD_set _ _ _ _ (by simp; omega), if_neg (by omega), getD_set _ _ _ _ (by omega), if_pos rfl]
  have z1 : ((zeroed zs p).set p (sealX zs p)).getD (p + 1) 0 = 0 := by
    rw [getD_set _ _ _ _ (by omega), if_neg (by omega)]
    unfold zeroed
    rw [getD_set _ _ _ _ (by simp; omega), if_pos rfl]
  have s1 := sums_set (zeroed zs p) p (sealX zs p) (by omega)
  have s2 := sums_set ((zeroed zs p).set p (sealX zs p)) (p + 1) (sealY zs p) (by simp; omega)
  rw [z0] at s1
  rw [z1, List.length_set, hl] at s2
  rw [hl] at s1
  have key := seal_zero (sums (zeroed zs p)).1 (sums (zeroed zs p)).2 (sealX zs p) (sealY zs p) ((zs.length : Int) - p - 2) rfl (by unfold sealY; rw [show (zs.length : Int) - p - 2 + 2 = zs.length - p by omega])
  unfold sealN
  rw [s2.1, s2.2, s1.1, s1.2]
  constructor
  · have e : (sums (zeroed zs p)).1 - 0 + sealX zs p - 0 + sealY zs p = (sums (zeroed zs p)).1 + sealX zs p + sealY zs p := by omega
    rw [e]; exact key.1
  · have e : (sums (zeroed zs p)).2 + ((zs.length : Int) - p) * (sealX zs p - 0) + ((zs.length : Int) - (p + 1 : Nat)) * (sealY zs p - 0) = (sums (zeroed zs p)).2 + ((zs.length : Int) - p - 2 + 2) * sealX zs p + ((zs.length : Int) - p - 2 + 1) * sealY zs p := by
      rw [show (zs.length : Int) - p - 2 + 2 = zs.length - p by omega, show (zs.length : Int) - p - 2 + 1 = zs.length - (p + 1 : Nat) by push_cast; omega, Int.sub_zero, Int.sub_zero]
    rw [e]; exact key.2

theorem sealN_sealed (zs : List Int) (p : Nat) (h : p + 2 ≤ zs.length) (h4 : zs.length ≤ 400) : sealedB (sealN zs p) = true := by
  have hs := sealN_sums zs p h
  unfold sealedB
  rw [sealN_len, hs.1, hs.2, decide_eq_true (by omega), decide_eq_true h4]
  rfl

theorem zeroed_sealN (zs : List Int) (p : Nat) (h : p + 2 ≤ zs.length) : zeroed (sealN zs p) p = zeroed zs p := by
  refine take_eq_all (n := zs.length) (by rw [zeroed_len, sealN_len]) (zeroed_len _ _) fun i hi => ?_
  have l1 : (sealN zs p).length = zs.length := sealN_len _ _
  have l2 : (zeroed zs p).length = zs.length := zeroed_len _ _
  have e1 : (zeroed (sealN zs p) p).getD i 0 = if i = p + 1 then 0 else if i = p then 0 else (sealN zs p).getD i 0 := by
    unfold zeroed
    rw [getD_set _ _ _ _ (by simp; omega), getD_set _ _ _ _ (by omega)]
  have e2 : (zeroed zs p).getD i 0 = if i = p + 1 then 0 else if i = p then 0 else zs.getD i 0 := by
    unfold zeroed
    rw [getD_set _ _ _ _ (by simp; omega), getD_set _ _ _ _ (by omega)]
  have e3 : (sealN zs p).getD i 0 = if i = p + 1 then sealY zs p else if i = p then sealX zs p else (zeroed zs p).getD i 0 := by
    unfold sealN
    rw [getD_set _ _ _ _ (by simp; omega), getD_set _ _ _ _ (by omega)]
  rw [e1, e3, e2]
  by_cases h1 : i = p + 1
  · rw [if_pos h1, if_pos h1]
  · by_cases h2 : i = p
    · rw [if_neg h1, if_pos h2, if_neg h1, if_pos h2]
    · simp only [if_neg h1, if_neg h2]

theorem sealN_again (zs : List Int) (p : Nat) (h : p + 2 ≤ zs.length) : sealN (sealN zs p) p = sealN zs p := by
  have hz := zeroed_sealN zs p h
  have hl : (sealN zs p).length = zs.length := sealN_len _ _
  have hx : sealX (sealN zs p) p = sealX zs p := by unfold sealX; rw [hz, hl]
  have hy : sealY (sealN zs p) p = sealY zs p := by unfold sealY; rw [hz, hl]
  unfold sealN at hx hy hz ⊢
  rw [hz, hx, hy]

/-- A byte of which one bit was turned is another one, and not by 255. -/
theorem turned (z b : Nat) (hz : z < 256) (hb : b < 8) : (z ^^^ 2 ^ b) < 256 ∧ ((z ^^^ 2 ^ b : Nat) : Int) - z ≠ 0 ∧ ((z ^^^ 2 ^ b : Nat) : Int) - z < 255 ∧ -255 < ((z ^^^ 2 ^ b : Nat) : Int) - z := by
  have key : ∀ z : Fin 256, ∀ b : Fin 8, (z.val ^^^ 2 ^ b.val) < 256 ∧ ((z.val ^^^ 2 ^ b.val : Nat) : Int) - z.val ≠ 0 ∧ ((z.val ^^^ 2 ^ b.val : Nat) : Int) - z.val < 255 ∧ -255 < ((z.val ^^^ 2 ^ b.val : Nat) : Int) - z.val := by decide +kernel
  exact key ⟨z, hz⟩ ⟨b, hb⟩

theorem turned_unsealed (zs : List Int) (j : Nat) (v : Int) (hj : j < zs.length) (hs : (sums zs).1 % 255 = 0) (h0 : v - zs.getD j 0 ≠ 0) (h1 : v - zs.getD j 0 < 255) (h2 : -255 < v - zs.getD j 0) : sealedB (zs.set j v) = false := by
  have s1 := (sums_set zs j v hj).1
  have : ((sums (zs.set j v)).1 % 255 == 0) = false := by
    rw [s1]
    apply beq_eq_false_iff_ne.2
    omega
  unfold sealedB
  rw [this]
  simp

theorem packN_succ (m : Int) (s : Nat) : packN m (s + 1) = packN (m / 256) s ++ [m % 256] := by
  unfold packN
  rw [List.range_succ, List.map_append]
  congr 1
  · apply List.map_congr_left
    intro j hj
    have hj := List.mem_range.1 hj
    rw [show s + 1 - 1 - j = (s - 1 - j) + 1 by omega, Int.pow_succ, Int.mul_comm, ← Int.ediv_ediv_of_nonneg (by omega)]
  · simp

theorem readN_packN (s : Nat) : ∀ m : Int, 0 ≤ m → m < 256 ^ s → readN (packN m s) = m := by
  induction s with
  | zero =>
    intro m h0 h1
    have : m = 0 := by simp at h1; omega
    subst this; rfl
  | succ s ih =>
    intro m h0 h1
    rw [packN_succ, readN_snoc, ih (m / 256) (by omega) (by rw [Int.pow_succ] at h1; omega)]
    omega

theorem packN_readN (zs : List Int) (hb : Bytes zs) (k : Nat) (hk : k ≤ zs.length) : packN (readN (zs.take k)) k = zs.take k := by
  induction k with
  | zero => rfl
  | succ k ih =>
    have ih := ih (by omega)
    have hz := hb.at_ k
    rw [take_snoc _ _ (by omega), readN_snoc, packN_succ]
    rw [show (readN (zs.take k) * 256 + zs.getD k 0) / 256 = readN (zs.take k) by omega, show (readN (zs.take k) * 256 + zs.getD k 0) % 256 = zs.getD k 0 by omega, ih]

end Go.Proofs.Ytamclkjofojhmaa
