/-
  Walks of the laws' own small functions lwSame and lwAt. No statement is proved here.
-/
import Derived.Test.YtamclkjofojhmaaSame
import Derived.Test.YtamclkjofojhmaaDraw
namespace Go.Proofs.Ytamclkjofojhmaa
open Go.RowKit

theorem lwSame_yes (A B : Option Addr) (n m c d : Nat) (xs : List Int) (w : World) (ha : BIn w A n xs) (hb : BIn w B m xs) :
    Calls Try.prog 25 #[.slice A n c, .slice B m d] w fun e w' => e = .returned (.bool true) ∧ w' = w := by
  have e1 := bytes_text (c := c) ha
  have e2 := bytes_text (c := d) hb
  clear ha hb
  go_enter Try.func25, Try.ntmps25
  go_wp2
  go_ret
  exact ⟨ret_bool (by simp), rfl⟩

theorem lwSame_any (A B : Option Addr) (n m c d : Nat) (xs ys : List Int) (w : World) (ha : BIn w A n xs) (hb : BIn w B m ys) (hx : Bytes xs) (hy : Bytes ys) :
    Calls Try.prog 25 #[.slice A n c, .slice B m d] w fun e w' => e = .returned (.bool (decide (xs = ys))) ∧ w' = w := by
  have e1 := bytes_text (c := c) ha
  have e2 := bytes_text (c := d) hb
  clear ha hb
  go_enter Try.func25, Try.ntmps25
  go_wp2
  go_ret
  exact ⟨ret_bool (same_dec hx hy), rfl⟩

theorem lwBig_no (A : Option Addr) (n c : Nat) (w : World) (hn : n ≤ 1048576) :
    Calls Try.prog 12 #[.slice A n c] w fun e w' => e = .returned (.bool false) ∧ w' = w := by
  have h1 : ¬ (1048576 : Int) < n := by omega
  go_enter Try.func12, Try.ntmps12
  go_wp2
  go_ret
  exact ⟨rfl, rfl⟩

theorem modlt (x m : Int) (h : 0 < m) : 0 ≤ x % m ∧ x % m < m := ⟨Int.emod_nonneg _ (by omega), Int.emod_lt_of_pos _ h⟩

set_option maxHeartbeats 800000 in
/-- lwAt: a place below m, for a choice i that is small. -/
theorem lwAt_any (A : Option Addr) (n c : Nat) (cs : List Int) (i m : Nat) (w : World) (ha : BIn w A n cs) (hb : Bytes cs) (hn : n ≤ 1048576) (hi : i ≤ 1000) (hm0 : 0 < m) (hm : m ≤ 1000000) :
    Calls Try.prog 26 #[.slice A n c, .int .i64 i, .int .i64 m] w fun e w' => ∃ v : Int, e = .returned (.int .i64 v) ∧ (0 ≤ v ∧ v < m) ∧ ∃ k, w' = w.drewN k := by
  by_cases h1 : m ≤ 1
  · have h1' : (m : Int) ≤ 1 := by omega
    have HM : Hid (0 < m) := hm0
    go_enter Try.func26, Try.ntmps26
    go_wp2
    go_ret
    exact ⟨0, rfl, ⟨by omega, by have := HM.out; omega⟩, 0, rfl⟩
  · have h1' : ¬ (m : Int) ≤ 1 := by omega
    have hmp : (0 : Int) < m := by omega
    by_cases h0 : n = 0
    · subst h0
      clear ha
      go_enter Try.func26, Try.ntmps26
      go_wp2
      go_ret
      exact ⟨_, rfl, modlt _ _ hmp, 0, rfl⟩
    · have hnp : 0 < n := by omega
      obtain ⟨b, o, rfl, hcell⟩ := ha.2 hnp
      obtain ⟨j0, hj0, hl0⟩ := tmod_nat i n hnp
      obtain ⟨j1, hj1, hl1⟩ := tmod_nat (i + 1) n hnp
      have hj1 : ((i : Int) + 1).tmod (n : Int) = (j1 : Int) := hj1
      obtain ⟨q, hq, hq0⟩ := tdiv_nat i n
      have d0 := hcell j0 hl0
      have d1 := hcell j1 hl1
      have b0 := hb.at_ j0
      have b1 := hb.at_ j1
      obtain ⟨z0, hz0⟩ : ∃ z, cs.getD j0 0 = z := ⟨_, rfl⟩
      obtain ⟨z1, hz1⟩ : ∃ z, cs.getD j1 0 = z := ⟨_, rfl⟩
      rw [hz0] at d0 b0
      rw [hz1] at d1 b1
      obtain ⟨b00, b01⟩ := b0
      obtain ⟨b10, b11⟩ := b1
      clear hz0 hz1 hcell ha hb
      have i0 : (j0 : Int) < n := by omega
      have i1 : (j1 : Int) < n := by omega
      have hne : ((n : Int) == 0) = false := by simp; omega
      have hnb : (n : Int) ≤ 1048576 := by omega
      have hib : (i : Int) ≤ 1000 := by omega
      have w1 : IntKind.i64.wrap ((i : Int) + 1) = (i : Int) + 1 := IntWalk.i64_in _ (by omega)
      have w3 : IntKind.i64.wrap ((q : Int) * 3) = (q : Int) * 3 := IntWalk.i64_in _ (by omega)
      have w4 : IntKind.i64.wrap (z0 + (q : Int) * 3) = z0 + (q : Int) * 3 := IntWalk.i64_in _ (by omega)
      by_cases h2 : m ≤ 200
      · have h2' : ¬ (200 : Int) < m := by omega
        go_enter Try.func26, Try.ntmps26
        go_wp2
        go_quiet (fail)
        go_wp2
        go_ret
        exact ⟨_, rfl, modlt _ _ hmp, _, rfl⟩
      · have h2' : (200 : Int) < m := by omega
        go_enter Try.func26, Try.ntmps26
        go_wp2
        go_quiet (fail)
        go_wp2
        go_ret
        exact ⟨_, rfl, modlt _ _ hmp, _, rfl⟩

theorem lwAt_two (A : Option Addr) (n c : Nat) (cs : List Int) (m : Nat) (w : World) (ha : BIn w A n cs) (hb : Bytes cs) (hn : n ≤ 1048576) (hm0 : 0 < m) (hm : m ≤ 1000000) :
    Calls Try.prog 26 #[.slice A n c, .int .i64 2, .int .i64 m] w fun e w' => ∃ v : Int, e = .returned (.int .i64 v) ∧ (0 ≤ v ∧ v < m) ∧ ∃ k, w' = w.drewN k :=
  lwAt_any A n c cs 2 m w ha hb hn (by omega) hm0 hm
theorem lwAt_three (A : Option Addr) (n c : Nat) (cs : List Int) (w : World) (ha : BIn w A n cs) (hb : Bytes cs) (hn : n ≤ 1048576) :
    Calls Try.prog 26 #[.slice A n c, .int .i64 3, .int .i64 8] w fun e w' => ∃ v : Int, e = .returned (.int .i64 v) ∧ (0 ≤ v ∧ v < 8) ∧ ∃ k, w' = w.drewN k :=
  lwAt_any A n c cs 3 8 w ha hb hn (by omega) (by omega) (by omega)

end Go.Proofs.Ytamclkjofojhmaa
