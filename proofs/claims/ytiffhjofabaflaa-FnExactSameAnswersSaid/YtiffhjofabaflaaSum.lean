/-
  Walks of the sums: allWithin, sumRest, l1In, l1Left, l1Sum, both FletcherOf. No statement is proved here.
-/
import Derived.Test.YtiffhjofabaflaaBase
import Derived.Test.YtiffhjofabaflaaIn
import Derived.Test.YtiffhjofabaflaaFloat
namespace Go.Proofs.Ytiffhjofabaflaa
open Go.RowKit

attribute [local go_sem] run_complex run_real run_imag

theorem Try.und_i64 : Try.prog.underlying 2 = some (.int .i64) := Try.underlying2

/-- Both sums over a list, as whole numbers. -/
def sums (zs : List Int) : Int × Int := zs.foldl (fun p z => (p.1 + z, p.2 + (p.1 + z))) (0, 0)
theorem sums_snoc (zs : List Int) (z : Int) : sums (zs ++ [z]) = ((sums zs).1 + z, (sums zs).2 + ((sums zs).1 + z)) := by simp [sums, List.foldl_append]
theorem sums_nil : sums [] = (0, 0) := rfl

theorem sums_bd (zs : List Int) (hb : Bytes zs) (k : Nat) (hk : k ≤ zs.length) :
    0 ≤ (sums (zs.take k)).1 ∧ (sums (zs.take k)).1 ≤ 255 * k ∧ 0 ≤ (sums (zs.take k)).2 := by
  induction k with
  | zero => simp [sums]
  | succ k ih =>
    have ih := ih (by omega)
    have hz := hb.at_ k
    rw [take_snoc _ _ (by omega), sums_snoc]
    simp only
    omega

theorem sums_bd2 (zs : List Int) (hb : Bytes zs) (hn : zs.length ≤ 400) (k : Nat) (hk : k ≤ zs.length) : (sums (zs.take k)).2 ≤ 102000 * k := by
  induction k with
  | zero => simp [sums]
  | succ k ih =>
    have ih := ih (by omega)
    have hz := hb.at_ k
    have h1 := sums_bd zs hb k (by omega)
    rw [take_snoc _ _ (by omega), sums_snoc]
    simp only
    omega

theorem sums_all (zs : List Int) (hb : Bytes zs) (hn : zs.length ≤ 400) : 0 ≤ (sums zs).1 ∧ (sums zs).1 ≤ 102000 ∧ 0 ≤ (sums zs).2 ∧ (sums zs).2 ≤ 40800000 := by
  have h1 := sums_bd zs hb zs.length (Nat.le_refl _)
  have h2 := sums_bd2 zs hb hn zs.length (Nat.le_refl _)
  rw [List.take_length] at h1 h2
  omega

set_option maxHeartbeats 400000 in
theorem allWithin_any (lo hi : Int) (b o n c : Nat) (zs : List Int) (w : World) (hl : zs.length = n) (hn : n ≤ 1048576) (hc : ∀ i, i < n → w.cell? ⟨b, o + i, none⟩ = some (.int .i64 (zs.getD i 0))) :
    Calls Try.prog 91 #[.int .i64 lo, .int .i64 hi, .slice (some ⟨b, o, none⟩) n c] w fun e w' => e = .returned (.bool (allIn lo hi zs)) ∧ w' = w := by
  go_enter Try.func91, Try.ntmps91
  go_wp2
  go_loop [11] (fun i => ∃ k : Nat, k ≤ n ∧ i = .int .i64 k ∧ ∀ j, j < k → lo ≤ zs.getD j 0 ∧ zs.getD j 0 ≤ hi) (fun i => n - (intOf i).toNat)
  case atStart => exact ⟨0, Nat.zero_le _, rfl, fun j hj => absurd hj (by omega)⟩
  case round =>
    obtain ⟨k, hk, rfl, hin⟩ := hrel
    have HI := Lib.hid hin
    clear hin
    by_cases hlt : k < n
    · have hck := hc k hlt
      have HC := Lib.hid hc
      clear hc
      have hlt' : (k : Int) < n := by omega
      have hno : ¬ (lo ≤ zs.getD k 0 ∧ zs.getD k 0 ≤ hi) → allIn lo hi zs = false := fun h => by
        have hm : zs.getD k 0 ∈ zs := by rw [show zs.getD k 0 = zs[k] by simp [List.getD, (show k < zs.length by omega)]]; exact List.getElem_mem _
        simp only [allIn, List.all_eq_false]
        exact ⟨_, hm, by rw [Bool.and_eq_true, decide_eq_true_eq, decide_eq_true_eq]; exact h⟩
      have HL := Lib.hid hl
      clear hl
      obtain ⟨z, hz⟩ : ∃ z, zs.getD k 0 = z := ⟨_, rfl⟩
      rw [hz] at hck hno
      have HN := Lib.hid hno
      have HZ := Lib.hid hz
      clear hno hz
      by_cases h1 : z < lo
      · have HF := Lib.hid (HN.out (by omega))
        clear HN
        go_wp2
        go_ret
        exact ⟨ret_bool HF.out.symm, rfl⟩
      · by_cases h2 : hi < z
        · have HF := Lib.hid (HN.out (by omega))
          clear HN
          go_wp2
          go_ret
          exact ⟨ret_bool HF.out.symm, rfl⟩
        · go_wp2
          go_round
          case rel => exact ⟨k + 1, by omega, by go_num, fun j hj => by
            rcases Nat.lt_succ_iff_lt_or_eq.1 hj with h | rfl
            · exact HI.out j h
            · have := HZ.out; omega⟩
          case measure => simp [intOf]; omega
    · go_wp2
      go_ret
      refine ⟨ret_bool ?_, rfl⟩
      symm
      simp only [allIn, List.all_eq_true, Bool.and_eq_true, decide_eq_true_eq]
      intro v hv
      obtain ⟨i, hi, rfl⟩ := List.getElem_of_mem hv
      have := HI.out i (by omega)
      simpa [List.getD, hi] using this

theorem allWithin_one (lo hi : Int) (b : Nat) (v : Int) (w : World) (hc : w.cell? ⟨b, 0, none⟩ = some (.int .i64 v)) :
    Calls Try.prog 91 #[.int .i64 lo, .int .i64 hi, .slice (some ⟨b, 0, none⟩) 1 1] w fun e w' => e = .returned (.bool (allIn lo hi [v])) ∧ w' = w :=
  allWithin_any lo hi b 0 1 1 [v] w rfl (by omega) (fun i hi => by obtain rfl : i = 0 := by omega
                                                                   simpa using hc)

theorem rest_eq (v : Int) : (Int.tmod v 255 + 255) % 255 = v % 255 := by
  rcases Int.lt_or_le v 0 with h | h
  · rw [show v = -(-v) by omega, Int.neg_tmod]
    have : (-v).tmod 255 = (-v) % 255 := Int.tmod_eq_emod_of_nonneg (by omega)
    rw [this]
    omega
  · have : v.tmod 255 = v % 255 := Int.tmod_eq_emod_of_nonneg h
    rw [this]
    omega

/-- What both FletcherOf answer. -/
def fcode (xs : List Int) : Int := if xs.length ≤ 400 then 0 else 2
def flow (xs : List Int) : Int := if xs.length ≤ 400 then (sums xs).1 % 255 else 0
def fhigh (xs : List Int) : Int := if xs.length ≤ 400 then (sums xs).2 % 255 else 0

end Go.Proofs.Ytiffhjofabaflaa
