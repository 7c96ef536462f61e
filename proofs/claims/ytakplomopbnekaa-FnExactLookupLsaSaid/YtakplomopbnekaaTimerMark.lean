/-
  Marks in rows of timers and how they are found again: markTimerS, heldTimerS. No statement is proved here.
-/
import Derived.Test.YtakplomopbnekaaTimerRows
import Derived.Test.YtakplomopbnekaaHeldLsa
namespace Go.Proofs.Ytakplomopbnekaa
open Go.RowKit
set_option linter.unusedVariables false

theorem Rep.timer_room {lo hi : Nat} {w : World} {A : Option Addr} {n : Nat} {ys : List Tmr} (h : Rep.timer.Sl true lo hi w A n ys) (hn : 0 < n) : ∃ b o, A = some ⟨b, o, none⟩ ∧ lo ≤ b ∧ b < hi ∧ Room w b o (4 * n) := by
  obtain ⟨b, o, e, h1, h2, hf, _⟩ := h.2 hn
  refine ⟨b, o, e, h1, h2, fun j hj => ?_, hf rfl⟩
  obtain ⟨b', o', a, e', _, c0, c1, c2, c3⟩ := Rep.timer_at h (k := j / 4) (by omega)
  rw [e] at e'; injection e' with e'; injection e' with e1 e2 _
  subst e1 e2
  rcases (show j % 4 = 0 ∨ j % 4 = 1 ∨ j % 4 = 2 ∨ j % 4 = 3 by omega) with hm | hm | hm | hm
  · exact ⟨_, by rw [show o + j = o + j / 4 * 4 by omega]; exact c0⟩
  · exact ⟨_, by rw [show o + j = o + j / 4 * 4 + 1 by omega]; exact c1⟩
  · exact ⟨_, by rw [show o + j = o + j / 4 * 4 + 2 by omega]; exact c2⟩
  · exact ⟨_, by rw [show o + j = o + j / 4 * 4 + 3 by omega]; exact c3⟩

def mTimers (k0 : Int) (n : Nat) : List Tmr := (List.range n).map fun (i : Nat) => ⟨k0 + 4 * (i : Int), k0 + 4 * (i : Int) + 1, k0 + 4 * (i : Int) + 2, k0 + 4 * (i : Int) + 3⟩

theorem mTimers_len (k0 : Int) (n : Nat) : (mTimers k0 n).length = n := by simp [mTimers]

theorem timers_of_counts {q : Bool} {lo hi : Nat} {w : World} {b o : Nat} {k0 : Int} {n : Nat} (h : Counts w b o k0 (4 * n)) (hR : Room w b o (4 * n)) (h1 : lo ≤ b) (h2 : b < hi) : Rep.timer.Sl q lo hi w (some ⟨b, o, none⟩) n (mTimers k0 n) :=
  ⟨mTimers_len _ _, fun _ => ⟨b, o, rfl, h1, h2, fun _ => hR.2, fun i a ha => by
    have hi' : i < n := by
      rcases Nat.lt_or_ge i (mTimers k0 n).length with h' | h'
      · rwa [mTimers_len] at h'
      · rw [List.getElem?_eq_none h'] at ha; cases ha
    have e : a = ⟨k0 + 4 * (i : Int), k0 + 4 * (i : Int) + 1, k0 + 4 * (i : Int) + 2, k0 + 4 * (i : Int) + 3⟩ := by simp [mTimers, hi'] at ha; exact ha.symm
    subst e
    refine ⟨_, rfl, fun j u hj => ?_⟩
    have hj4 : j < 4 := by
      rcases Nat.lt_or_ge j 4 with h' | h'
      · exact h'
      · rw [List.getElem?_eq_none (by simpa using h')] at hj; cases hj
    have := h (i * 4 + j) (by omega)
    show w.cell? ⟨b, o + i * 4 + j, none⟩ = some u
    rw [Nat.add_assoc, this, ← hj]
    rcases (show j = 0 ∨ j = 1 ∨ j = 2 ∨ j = 3 by omega) with rfl | rfl | rfl | rfl
    · simp; omega
    · simp; omega
    · simp; omega
    · simp; omega⟩⟩

set_option maxHeartbeats 1600000 in
theorem markTimerS_any (lo hi : Nat) (A : Option Addr) (n c : Nat) (ys : List Tmr) (k0 : Int) (w : World) (ha : Rep.timer.Sl true lo hi w A n ys) (hn : n ≤ 1048576) (h0 : 0 ≤ k0) (h1 : k0 ≤ 4294967296) :
    Calls Try.prog 105 #[.slice A n c, .int .i64 k0] w fun e w' => e = .returned (.int .i64 (k0 + 4 * n)) ∧ Rep.timer.Sl true lo hi w' A n (mTimers k0 n) ∧ Only lo hi w w' ∧ (∀ b o N, Room w b o N → Room w' b o N) := by
  by_cases hz : n = 0
  · subst hz
    go_enter Try.func105, Try.ntmps105
    go_wp2
    go_loop [1, 5] (fun q i => i = .int .i64 0 ∧ q = .int .i64 k0) (fun _ _ => 0)
    case atStart => exact ⟨rfl, rfl⟩
    case round =>
      obtain ⟨rfl, rfl⟩ := hrel
      go_wp2
      go_ret
      exact ⟨by simp, Rep.Sl_nil _ _ _ _ _ _, Only.refl _ _ _, fun _ _ _ h => h⟩
  · obtain ⟨b, o, rfl, hb1, hb2, hR⟩ := Rep.timer_room ha (by omega)
    have HR0 := Lib.hid hR
    have HN : Hid (0 < n) := Lib.hid (by omega)
    clear ha hR hz
    go_enter Try.func105, Try.ntmps105
    go_wp2
    go_loopw [1, 5] (fun q i wr => ∃ k : Nat, k ≤ n ∧ i = .int .i64 k ∧ q = .int .i64 (k0 + 4 * k) ∧ Hid (Room wr b o (4 * n)) ∧ Hid (Counts wr b o k0 (4 * k)) ∧ Hid (Only lo hi w wr) ∧ Hid (∀ b o N, Room w b o N → Room wr b o N)) (fun _ i _ => n - (intOf i).toNat)
    case atStart => exact ⟨0, Nat.zero_le _, rfl, by simp, HR0, Lib.hid (fun j hj => absurd hj (by omega)), Lib.hid (Only.refl _ _ _), Lib.hid (fun _ _ _ h => h)⟩
    case round =>
      obtain ⟨k, hk, rfl, rfl, HR, HC, HO, HK⟩ := hrel
      by_cases hlt : k < n
      · have hlt' : (k : Int) < n := by omega
        have e0 : o + 4 * k = o + k * 4 := by omega
        have e1 : o + (4 * k + 1) = o + k * 4 + 1 := by omega
        have e2 : o + (4 * k + 1 + 1) = o + k * 4 + 2 := by omega
        have e3 : o + (4 * k + 1 + 1 + 1) = o + k * 4 + 3 := by omega
        obtain ⟨v0, d0⟩ := HR.out.1 (4 * k) (by omega)
        obtain ⟨v1, d1⟩ := HR.out.1 (4 * k + 1) (by omega)
        obtain ⟨v2, d2⟩ := HR.out.1 (4 * k + 1 + 1) (by omega)
        obtain ⟨v3, d3⟩ := HR.out.1 (4 * k + 1 + 1 + 1) (by omega)
        rw [e0] at d0
        rw [e1] at d1
        rw [e2] at d2
        rw [e3] at d3
        have f0 := HR.out.2 (o + k * 4)
        have f1 := HR.out.2 (o + k * 4 + 1)
        have f2 := HR.out.2 (o + k * 4 + 2)
        have f3 := HR.out.2 (o + k * 4 + 3)
        have HR1 := Lib.hid ((((HR.out.set ⟨b, o + k * 4, none⟩ (.int .i64 (k0 + 4 * k))).set ⟨b, o + k * 4 + 1, none⟩ (.int .i64 (k0 + 4 * k + 1))).set ⟨b, o + k * 4 + 2, none⟩ (.int .i64 (k0 + 4 * k + 1 + 1))).set ⟨b, o + k * 4 + 3, none⟩ (.int .i64 (k0 + 4 * k + 1 + 1 + 1)))
        have HC1 : Hid (Counts ((((wr.setCell ⟨b, o + k * 4, none⟩ (.int .i64 (k0 + 4 * k))).setCell ⟨b, o + k * 4 + 1, none⟩ (.int .i64 (k0 + 4 * k + 1))).setCell ⟨b, o + k * 4 + 2, none⟩ (.int .i64 (k0 + 4 * k + 1 + 1))).setCell ⟨b, o + k * 4 + 3, none⟩ (.int .i64 (k0 + 4 * k + 1 + 1 + 1))) b o k0 (4 * (k + 1))) := Lib.hid (by
          have c1 := HC.out.next HR.out (by omega) (k0 + 4 * k) (by omega)
          rw [e0] at c1
          have r1 := HR.out.set ⟨b, o + k * 4, none⟩ (.int .i64 (k0 + 4 * k))
          have c2 := c1.next r1 (by omega) (k0 + 4 * k + 1) (by omega)
          rw [e1] at c2
          have r2 := r1.set ⟨b, o + k * 4 + 1, none⟩ (.int .i64 (k0 + 4 * k + 1))
          have c3 := c2.next r2 (by omega) (k0 + 4 * k + 1 + 1) (by omega)
          rw [e2] at c3
          have r3 := r2.set ⟨b, o + k * 4 + 2, none⟩ (.int .i64 (k0 + 4 * k + 1 + 1))
          have c4 := c3.next r3 (by omega) (k0 + 4 * k + 1 + 1 + 1) (by omega)
          rw [e3] at c4
          exact c4)
        have HO1 := Lib.hid ((((HO.out.set (p := ⟨b, o + k * 4, none⟩) hb1 hb2 (.int .i64 (k0 + 4 * k))).set (p := ⟨b, o + k * 4 + 1, none⟩) hb1 hb2 (.int .i64 (k0 + 4 * k + 1))).set (p := ⟨b, o + k * 4 + 2, none⟩) hb1 hb2 (.int .i64 (k0 + 4 * k + 1 + 1))).set (p := ⟨b, o + k * 4 + 3, none⟩) hb1 hb2 (.int .i64 (k0 + 4 * k + 1 + 1 + 1)))
        have HK1 : Hid (∀ b' o' N, Room w b' o' N → Room ((((wr.setCell ⟨b, o + k * 4, none⟩ (.int .i64 (k0 + 4 * k))).setCell ⟨b, o + k * 4 + 1, none⟩ (.int .i64 (k0 + 4 * k + 1))).setCell ⟨b, o + k * 4 + 2, none⟩ (.int .i64 (k0 + 4 * k + 1 + 1))).setCell ⟨b, o + k * 4 + 3, none⟩ (.int .i64 (k0 + 4 * k + 1 + 1 + 1))) b' o' N) := Lib.hid (fun b' o' N h => ((((HK.out b' o' N h).set _ _).set _ _).set _ _).set _ _)
        clear HR HC HO HK e0 e1 e2 e3
        go_wp2
        go_roundw
        case rel => exact ⟨k + 1, by omega, by go_num, by go_num, HR1, HC1, HO1, HK1⟩
        case measure => simp [intOf]; omega
      · obtain rfl : k = n := by omega
        go_wp2
        go_ret
        exact ⟨rfl, timers_of_counts HC.out HR.out hb1 hb2, HO.out, HK.out⟩

theorem mTimers_at (k0 : Int) (n k : Nat) (h : k < n) : (mTimers k0 n)[k]? = some ⟨k0 + 4 * (k : Int), k0 + 4 * (k : Int) + 1, k0 + 4 * (k : Int) + 2, k0 + 4 * (k : Int) + 3⟩ := by simp [mTimers, h]

set_option maxHeartbeats 800000 in
theorem heldTimerS_yes (q : Bool) (lo hi : Nat) (A : Option Addr) (n c : Nat) (k0 : Int) (w : World) (ha : Rep.timer.Sl q lo hi w A n (mTimers k0 n)) (hn : n ≤ 1048576) (h0 : 0 ≤ k0) (h1 : k0 ≤ 8388608) :
    Calls Try.prog 107 #[.slice A n c, .int .i64 k0] w fun e w' => e = .returned (.int .i64 (k0 + 4 * n)) ∧ w' = w := by
  go_enter Try.func107, Try.ntmps107
  go_wp2
  go_loop [1, 5] (fun q i => ∃ k : Nat, k ≤ n ∧ i = .int .i64 k ∧ q = .int .i64 (k0 + 4 * k)) (fun _ i => n - (intOf i).toNat)
  case atStart => exact ⟨0, Nat.zero_le _, rfl, by simp⟩
  case round =>
    obtain ⟨k, hk, rfl, rfl⟩ := hrel
    by_cases hlt : k < n
    · obtain ⟨b, o, a, rfl, hya, c0, c1, c2, c3⟩ := Rep.timer_at ha hlt
      rw [mTimers_at _ _ _ hlt] at hya
      injection hya with hya
      subst hya
      simp only [] at c0 c1 c2 c3
      have hlt' : (k : Int) < n := by omega
      have e2 : k0 + 4 * (k : Int) + 1 + 1 = k0 + 4 * (k : Int) + 2 := by omega
      have e3 : k0 + 4 * (k : Int) + 2 + 1 = k0 + 4 * (k : Int) + 3 := by omega
      rw [← e2] at c2
      rw [← e3, ← e2] at c3
      clear e2 e3
      go_wp2
      go_round
      case rel => exact ⟨k + 1, by omega, by go_num, by go_num⟩
      case measure => simp [intOf]; omega
    · obtain rfl : k = n := by omega
      go_wp2
      go_ret
      exact ⟨rfl, rfl⟩

end Go.Proofs.Ytakplomopbnekaa
