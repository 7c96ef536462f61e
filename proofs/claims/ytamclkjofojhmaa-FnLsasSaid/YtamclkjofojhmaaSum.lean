/-
  Walks of the sums: allWithin, sumRest, l1In, l1Left, l1Sum, both FletcherOf. No statement is proved here.
-/
import Derived.Test.YtamclkjofojhmaaBase
import Derived.Test.YtamclkjofojhmaaIn
import Derived.Test.YtamclkjofojhmaaFloat
namespace Go.Proofs.Ytamclkjofojhmaa
open Go.RowKit

attribute [local go_sem] run_complex run_real run_imag

theorem Try.und_i64 : Try.prog.underlying 2 = some (.int .i64) := Try.underlying2

/-- Both sums over a list, as whole numbers. -/
def sums (zs : List Int) : Int × Int := zs.foldl (fun p z => (p.1 + z, p.2 + (p.1 + z))) (0, 0)
theorem sums_snoc (zs : List Int) (z : Int) : sums (zs ++ [z]) = ((sums zs).1 + z, (sums zs).2 + ((sums zs).1 + z)) := by simp [sums, List.foldl_append]
theorem sums_nil : sums [] = (0, 0) := rfl

theorem sums_bd (zs : List Int) (hb : Bytes zs) (k : Nat) (hk : k ≤ zs.length) :
    0 ≤ (sums (zs.take k)).1 ∧ (sums (zs.take k)).1 ≤ 255 * k ∧ 0 ≤ (sums (zs.take k)).2 := by
  induction k with
  | zero => simp [sums]
  | succ k ih =>
    have ih := ih (by omega)
    have hz := hb.at_ k
    rw [take_snoc _ _ (by omega), sums_snoc]
    simp only
    omega

theorem sums_bd2 (zs : List Int) (hb : Bytes zs) (hn : zs.length ≤ 400) (k : Nat) (hk : k ≤ zs.length) : (sums (zs.take k)).2 ≤ 102000 * k := by
  induction k with
  | zero => simp [sums]
  | succ k ih =>
    have ih := ih (by omega)
    have hz := hb.at_ k
    have h1 := sums_bd zs hb k (by omega)
    rw [take_snoc _ _ (by omega), sums_snoc]
    simp only
    omega

theorem sums_all (zs : List Int) (hb : Bytes zs) (hn : zs.length ≤ 400) : 0 ≤ (sums zs).1 ∧ (sums zs).1 ≤ 102000 ∧ 0 ≤ (sums zs).2 ∧ (sums zs).2 ≤ 40800000 := by
  have h1 := sums_bd zs hb zs.length (Nat.le_refl _)
  have h2 := sums_bd2 zs hb hn zs.length (Nat.le_refl _)
  rw [List.take_length] at h1 h2
  omega

set_option maxHeartbeats 400000 in
theorem allWithin_any (lo hi : Int) (b o n c : Nat) (zs : List Int) (w : World) (hl : zs.length = n) (hn : n ≤ 1048576) (hc : ∀ i, i < n → w.cell? ⟨b, o + i, none⟩ = some (.int .i64 (zs.getD i 0))) :
    Calls Try.prog 65 #[.int .i64 lo, .int .i64 hi, .slice (some ⟨b, o, none⟩) n c] w fun e w' => e = .returned (.bool (allIn lo hi zs)) ∧ w' = w := by
  go_enter Try.func65, Try.ntmps65
  go_wp2
  go_loop [11] (fun i => ∃ k : Nat, k ≤ n ∧ i = .int .i64 k ∧ ∀ j, j < k → lo ≤ zs.getD j 0 ∧ zs.getD j 0 ≤ hi) (fun i => n - (intOf i).toNat)
  case atStart => exact ⟨0, Nat.zero_le _, rfl, fun j hj => absurd hj (by omega)⟩
  case round =>
    obtain ⟨k, hk, rfl, hin⟩ := hrel
    have HI := Lib.hid hin
    clear hin
    by_cases hlt : k < n
    · have hck := hc k hlt
      have HC := Lib.hid hc
      clear hc
      have hlt' : (k : Int) < n := by omega
      have hno : ¬ (lo ≤ zs.getD k 0 ∧ zs.getD k 0 ≤ hi) → allIn lo hi zs = false := fun h => by
        have hm : zs.getD k 0 ∈ zs := by rw [show zs.getD k 0 = zs[k] by simp [List.getD, (show k < zs.length by omega)]]; exact List.getElem_mem _
        simp only [allIn, List.all_eq_false]
        exact ⟨_, hm, by rw [Bool.and_eq_true, decide_eq_true_eq, decide_eq_true_eq]; exact h⟩
      have HL := Lib.hid hl
      clear hl
      obtain ⟨z, hz⟩ : ∃ z, zs.getD k 0 = z := ⟨_, rfl⟩
      rw [hz] at hck hno
      have HN := Lib.hid hno
      have HZ := Lib.hid hz
      clear hno hz
      by_cases h1 : z < lo
      · have HF := Lib.hid (HN.out (by omega))
        clear HN
        go_wp2
        go_ret
        exact ⟨ret_bool HF.out.symm, rfl⟩
      · by_cases h2 : hi < z
        · have HF := Lib.hid (HN.out (by omega))
          clear HN
          go_wp2
          go_ret
          exact ⟨ret_bool HF.out.symm, rfl⟩
        · go_wp2
          go_round
          case rel => exact ⟨k + 1, by omega, by go_num, fun j hj => by
            rcases Nat.lt_succ_iff_lt_or_eq.1 hj with h | rfl
            · exact HI.out j h
            · have := HZ.out; omega⟩
          case measure => simp [intOf]; omega
    · go_wp2
      go_ret
      refine ⟨ret_bool ?_, rfl⟩
      symm
      simp only [allIn, List.all_eq_true, Bool.and_eq_true, decide_eq_true_eq]
      intro v hv
      obtain ⟨i, hi, rfl⟩ := List.getElem_of_mem hv
      have := HI.out i (by omega)
      simpa [List.getD, hi] using this

theorem allWithin_one (lo hi : Int) (b : Nat) (v : Int) (w : World) (hc : w.cell? ⟨b, 0, none⟩ = some (.int .i64 v)) :
    Calls Try.prog 65 #[.int .i64 lo, .int .i64 hi, .slice (some ⟨b, 0, none⟩) 1 1] w fun e w' => e = .returned (.bool (allIn lo hi [v])) ∧ w' = w :=
  allWithin_any lo hi b 0 1 1 [v] w rfl (by omega) (fun i hi => by obtain rfl : i = 0 := by omega
                                                                   simpa using hc)

theorem rest_eq (v : Int) : (Int.tmod v 255 + 255) % 255 = v % 255 := by
  rcases Int.lt_or_le v 0 with h | h
  · rw [show v = -(-v) by omega, Int.neg_tmod]
    have : (-v).tmod 255 = (-v) % 255 := Int.tmod_eq_emod_of_nonneg (by omega)
    rw [this]
    omega
  · have : v.tmod 255 = v % 255 := Int.tmod_eq_emod_of_nonneg h
    rw [this]
    omega

theorem sumRest_any (v : Int) (w : World) :
    Calls Try.prog 109 #[.int .i64 v] w fun e w' => e = .returned (.int .i64 (v % 255)) ∧ w' = w := by
  have HR := Lib.hid (rest_eq v)
  have h3 : -255 < v.tmod 255 := Int.lt_tmod_of_pos v (by omega)
  have h4 : v.tmod 255 < 255 := Int.tmod_lt_of_pos v (by omega)
  go_enter Try.func109, Try.ntmps109
  go_wp2
  go_ret
  exact ⟨ret_int HR.out, rfl⟩

theorem l1Left_any (v : Int) (w : World) :
    Calls Try.prog 114 #[.int .i64 v] w fun e w' => e = .returned (.int .i64 (v % 255)) ∧ w' = w := by
  have HR := Lib.hid (rest_eq v)
  have h3 : -255 < v.tmod 255 := Int.lt_tmod_of_pos v (by omega)
  have h4 : v.tmod 255 < 255 := Int.tmod_lt_of_pos v (by omega)
  go_enter Try.func114, Try.ntmps114
  go_wp2
  go_ret
  exact ⟨ret_int HR.out, rfl⟩


/-- The bytes' sum as the model reckons it: what 255 leaves, at each step. -/
theorem l1Sum_any (A : Option Addr) (n c : Nat) (xs : List Int) (w : World) (ha : BIn w A n xs) (hb : Bytes xs) (hn : n ≤ 1048576) :
    Calls Try.prog 113 #[.slice A n c] w fun e w' => e = .returned (.tuple #[.int .i64 ((sums xs).1 % 255), .int .i64 ((sums xs).2 % 255)]) ∧ w' = w := by
  go_enter Try.func113, Try.ntmps113
  go_wp2
  go_loop [4, 5, 6] (fun lo hi i => ∃ k : Nat, k ≤ n ∧ i = .int .i64 k ∧ lo = .int .i64 ((sums (xs.take k)).1 % 255) ∧ hi = .int .i64 ((sums (xs.take k)).2 % 255)) (fun _ _ i => n - (intOf i).toNat)
  case atStart => exact ⟨0, Nat.zero_le _, rfl, rfl, rfl⟩
  case round =>
    obtain ⟨k, hk, rfl, hlo, hhi⟩ := hrel
    by_cases hlt : k < n
    · obtain ⟨b, o, rfl, hca⟩ := ha.at_ hlt
      have hlt' : (k : Int) < n := by omega
      have hz := hb.at_ k
      have HT := Lib.hid (sums_snoc (xs.take k) (xs.getD k 0))
      have HU := Lib.hid (take_snoc xs k (by have := ha.1; omega))
      clear ha hb
      obtain ⟨z, hze⟩ : ∃ z, xs.getD k 0 = z := ⟨_, rfl⟩
      obtain ⟨l, hle⟩ : ∃ l, (sums (xs.take k)).1 = l := ⟨_, rfl⟩
      obtain ⟨h, hhe⟩ : ∃ h, (sums (xs.take k)).2 = h := ⟨_, rfl⟩
      rw [hze] at hca hz
      rw [hle] at hlo
      rw [hhe] at hhi
      subst hlo hhi
      have HZ := Lib.hid hze
      have HL := Lib.hid hle
      have HH := Lib.hid hhe
      clear hze hle hhe
      obtain ⟨hz0, hz1⟩ := hz
      have a0 : 0 ≤ l % 255 := by omega
      have a1 : l % 255 < 255 := by omega
      have a2 : 0 ≤ h % 255 := by omega
      have a3 : h % 255 < 255 := by omega
      go_wp2
      go_round
      case rel =>
        refine ⟨k + 1, by omega, by go_num, ?_, ?_⟩
        · rw [HU.out, HT.out, HL.out, HZ.out]; simp only; congr 1; omega
        · rw [HU.out, HT.out, HL.out, HH.out, HZ.out]; simp only; congr 1; omega
      case measure => simp [intOf]; omega
    · have hl := ha.1
      have HT : Hid (xs.take k = xs) := List.take_of_length_le (by omega)
      clear ha hb hl
      subst hlo hhi
      go_wp2
      go_ret2
      refine ⟨?_, rfl⟩
      rw [HT.out]
      rfl


theorem fletcher_many (A : Option Addr) (n c : Nat) (w : World) (hn : 400 < n) (hn2 : n ≤ 1048576) :
    Calls Try.prog 108 #[.slice A n c] w fun e w' => e = .returned (.agg #[.int .i64 2, .int .i64 0, .int .i64 0]) ∧ Below w.heap.size w w' := by
  have h1 : (400 : Int) < n := by omega
  go_enter Try.func108, Try.ntmps108
  go_wp2
  exact bodyPost_ret (v := .agg #[.int .i64 2, .int .i64 0, .int .i64 0]) (by simp [results, Try.results108, go_sem]) rfl ⟨rfl, (Below.refl _ _).alloc (Nat.le_refl _) _⟩

set_option maxHeartbeats 800000 in
theorem fletcher_few (A : Option Addr) (n c : Nat) (xs : List Int) (w : World) (ha : BIn w A n xs) (hb : Bytes xs) (hn : n ≤ 400) :
    Calls Try.prog 108 #[.slice A n c] w fun e w' => e = .returned (.agg #[.int .i64 0, .int .i64 ((sums xs).1 % 255), .int .i64 ((sums xs).2 % 255)]) ∧ Below w.heap.size w w' := by
  have h1 : ¬ (400 : Int) < n := by omega
  have hw0 : Below w.heap.size w (w.alloc (.cells #[.int .i64 0, .int .i64 0, .int .i64 0] 124)) := (Below.refl _ _).alloc (Nat.le_refl _) _
  have HA := Lib.hid (ha.below hw0)
  have HL := Lib.hid ha.1
  clear hw0 ha
  go_enter Try.func108, Try.ntmps108
  go_wp2
  go_loop [3, 13] (fun s i => ∃ k a b : Nat, k ≤ n ∧ i = .int .i64 k ∧ s = .complex .f64 (F a) (F b) ∧ (a : Int) = (sums (xs.take k)).1 ∧ (b : Int) = (sums (xs.take k)).2) (fun _ i => n - (intOf i).toNat)
  case atStart => exact ⟨0, 0, 0, Nat.zero_le _, rfl, rfl, rfl, rfl⟩
  case round =>
    obtain ⟨k, a, b, hk, rfl, rfl, hlo, hhi⟩ := hrel
    have q1 := sums_bd xs hb k (by have := HL.out; omega)
    have q2 := sums_bd2 xs hb (by have := HL.out; omega) k (by have := HL.out; omega)
    rw [← hlo, ← hhi] at q1
    rw [← hhi] at q2
    have HLO := Lib.hid hlo
    have HHI := Lib.hid hhi
    clear hlo hhi
    by_cases hlt : k < n
    · obtain ⟨b', o, rfl, hca⟩ := HA.out.at_ hlt
      have hlt' : (k : Int) < n := by omega
      have hz := hb.at_ k
      have HT := Lib.hid (sums_snoc (xs.take k) (xs.getD k 0))
      have HU := Lib.hid (take_snoc xs k (by have := HL.out; omega))
      obtain ⟨z, hze⟩ : ∃ z, xs.getD k 0 = z := ⟨_, rfl⟩
      rw [hze] at hca hz
      obtain ⟨zn, rfl⟩ := Int.eq_ofNat_of_zero_le hz.1
      have HZ := Lib.hid hze
      clear hze
      have e1 : floatOfInt .f64 (zn : Int) = F zn := ofInt_F zn (by omega)
      have e2 : ∀ W, (binOp .add 151 (.float .f64 (F a)) (.float .f64 (F zn))).run Try.prog W = .ok (.float .f64 (F (a + zn))) W := fun W => run_float_arith W .add _ .f64 _ _ _ (add_F a zn (by omega))
      have e3 : ∀ W, (binOp .add 151 (.float .f64 (F b)) (.float .f64 (F (a + zn)))).run Try.prog W = .ok (.float .f64 (F (b + (a + zn)))) W := fun W => run_float_arith W .add _ .f64 _ _ _ (add_F b (a + zn) (by omega))
      go_wp2
      go_round
      case rel =>
        refine ⟨k + 1, a + zn, b + (a + zn), by omega, by go_num, rfl, ?_, ?_⟩
        · rw [HU.out, HT.out, HZ.out, ← HLO.out]; simp
        · rw [HU.out, HT.out, HZ.out, ← HLO.out, ← HHI.out]; simp
      case measure => simp [intOf]; omega
    · have HT : Hid (xs.take k = xs) := List.take_of_length_le (by have := HL.out; omega)
      have e1 : ∀ W, (convert 151 2 (.float .f64 (F a))).run Try.prog W = .ok (.int .i64 (a : Int)) W := fun W => run_convert_float_int W _ _ .f64 .i64 (F a) _ (by rw [Try.underlying151]; rfl) Try.underlying2 (toInt_F a (by omega))
      have e2 : ∀ W, (convert 151 2 (.float .f64 (F b))).run Try.prog W = .ok (.int .i64 (b : Int)) W := fun W => run_convert_float_int W _ _ .f64 .i64 (F b) _ (by rw [Try.underlying151]; rfl) Try.underlying2 (toInt_F b (by omega))
      go_wp2_with (go_at_call 109; refine (sumRest_any _ _).mono ?_; rintro e w1 ⟨rfl, rfl⟩)
      refine bodyPost_ret (v := .agg #[.int .i64 0, .int .i64 ((a : Int) % 255), .int .i64 ((b : Int) % 255)]) (by simp [results, Try.results108, go_sem]) rfl ⟨?_, (Below.refl _ _).alloc (Nat.le_refl _) _⟩
      rw [HLO.out, HHI.out, HT.out]


/-- What both FletcherOf answer. -/
def fcode (xs : List Int) : Int := if xs.length ≤ 400 then 0 else 2
def flow (xs : List Int) : Int := if xs.length ≤ 400 then (sums xs).1 % 255 else 0
def fhigh (xs : List Int) : Int := if xs.length ≤ 400 then (sums xs).2 % 255 else 0

theorem fletcher_any (A : Option Addr) (n c : Nat) (xs : List Int) (w : World) (ha : BIn w A n xs) (hb : Bytes xs) (hn : n ≤ 1048576) :
    Calls Try.prog 108 #[.slice A n c] w fun e w' => e = .returned (.agg #[.int .i64 (fcode xs), .int .i64 (flow xs), .int .i64 (fhigh xs)]) ∧ Below w.heap.size w w' := by
  have hl := ha.1
  unfold fcode flow fhigh
  by_cases h : n ≤ 400
  · rw [if_pos (by omega), if_pos (by omega), if_pos (by omega)]; exact fletcher_few A n c xs w ha hb h
  · rw [if_neg (by omega), if_neg (by omega), if_neg (by omega)]; exact fletcher_many A n c w (by omega) hn

end Go.Proofs.Ytamclkjofojhmaa
