/-
  The program's LsaFault: its parts. No statement is proved here.
-/
import Derived.Test.YtiffhjofabaflaaBody
import Derived.Test.YtiffhjofabaflaaFault
import Derived.Test.YtiffhjofabaflaaSum
import Derived.Test.YtiffhjofabaflaaSameLsa
namespace Go.Proofs.Ytiffhjofabaflaa
open Go.RowKit

/-- The numbers of an advertisement lie within their bounds. -/
def numsB (l : LsaM) : Bool := allIn 0 3600 [l.age] && allIn 0 255 [l.options] && allIn 0 4294967295 [l.id, l.adv, l.mask] && allIn (-2147483647) 2147483647 [l.seq] && allIn 0 16777215 [l.cost]

theorem three_cells {W : World} {b : Nat} {x y z : Int} (h0 : W.cell? ⟨b, 0, none⟩ = some (.int .i64 x)) (h1 : W.cell? ⟨b, 1, none⟩ = some (.int .i64 y)) (h2 : W.cell? ⟨b, 2, none⟩ = some (.int .i64 z)) : ∀ i, i < 3 → W.cell? ⟨b, 0 + i, none⟩ = some (.int .i64 ([x, y, z].getD i 0)) := by
  intro i hi
  rw [Nat.zero_add]
  rcases (show i = 0 ∨ i = 1 ∨ i = 2 by omega) with rfl | rfl | rfl
  · exact h0
  · exact h1
  · exact h2
theorem two_cells {W : World} {b : Nat} {x y : Int} (h0 : W.cell? ⟨b, 0, none⟩ = some (.int .i64 x)) (h1 : W.cell? ⟨b, 1, none⟩ = some (.int .i64 y)) : ∀ i, i < 2 → W.cell? ⟨b, 0 + i, none⟩ = some (.int .i64 ([x, y].getD i 0)) := by
  intro i hi
  rw [Nat.zero_add]
  rcases (show i = 0 ∨ i = 1 by omega) with rfl | rfl
  · exact h0
  · exact h1

/-- The place of a link that is none, or a number below 0. -/
def FoundBad (ys : List Lnk) (e : Ending) : Prop := ∃ i : Int, e = .returned (.int .i64 i) ∧ (0 ≤ i ↔ ys.all linkOk = false)

/-- The fault of links. -/
def linksB (id adv : Int) (ys : List Lnk) : Int := if 8 < ys.length then 2 else if ys.all linkOk = false then 3 else if id ≠ adv then 1 else 0

set_option maxHeartbeats 1600000 in
theorem isRising_any (q : Bool) (lo hi : Nat) (A : Option Addr) (n c : Nat) (ys : List Int) (w : World) (ha : Rep.int.Sl q lo hi w A n ys) (hn : n ≤ 1048576) :
    Calls Try.prog 136 #[.slice A n c] w fun e w' => e = .returned (.bool (decide (ups ys))) ∧ ∃ q, w' = w.drewN q := by
  go_enter Try.func136, Try.ntmps136
  go_wp2
  go_loopw [3] (fun i wr => ∃ k : Nat, (k ≤ n - 1) ∧ i = .int .i64 ((k : Int) + 1) ∧ (∃ q, wr = w.drewN q) ∧ Hid (∀ j, j < k → ys.getD j 0 < ys.getD (j + 1) 0)) (fun i _ => n - (intOf i).toNat)
  case atStart => exact ⟨0, Nat.zero_le _, rfl, ⟨0, rfl⟩, fun j h => absurd h (by omega)⟩
  case round =>
    obtain ⟨k3, hk3, rfl, ⟨q3, rfl⟩, HI⟩ := hrel
    by_cases hlt3 : k3 < n - 1
    · obtain ⟨b, o, rfl, a0⟩ := Rep.int_at ha (show k3 < n by omega)
      obtain ⟨b', o', e, a1⟩ := Rep.int_at ha (show k3 + 1 < n by omega)
      injection e with e
      injection e with e1 e2 _
      subst e1 e2
      have hlt' : (k3 : Int) + 1 < n := by omega
      obtain ⟨y0, hy0⟩ : ∃ y, ys.getD k3 0 = y := ⟨_, rfl⟩
      obtain ⟨y1, hy1⟩ : ∃ y, ys.getD (k3 + 1) 0 = y := ⟨_, rfl⟩
      rw [hy0] at a0
      rw [hy1] at a1
      have HY0 := Lib.hid hy0
      have HY1 := Lib.hid hy1
      clear hy0 hy1
      by_cases hle : y0 < y1
      · have HUP := Lib.hid hle
        go_wp2
        go_quiet (fail)
        go_wp2
        go_roundw
        case rel => exact ⟨k3 + 1, by omega, by go_num, ⟨_, rfl⟩, Lib.hid (fun j hj => by
          rcases Nat.lt_succ_iff_lt_or_eq.1 hj with h | rfl
          · exact HI.out j h
          · rw [HY0.out, HY1.out]; exact HUP.out)⟩
        case measure => simp [intOf]; omega
      · have HN : Hid (¬ ups ys) := Lib.hid (fun h => hle (by have := h k3 (by have := ha.1; omega); rw [HY0.out, HY1.out] at this; exact this))
        go_wp2
        go_quiet (fail)
        go_wp2
        go_ret
        exact ⟨ret_bool (decide_eq_false HN.out).symm, _, World.drewN_drewN _ _ _⟩
    · have HY3 : Hid (ups ys) := Lib.hid (fun i hi => HI.out i (by have := ha.1; omega))
      clear HI
      go_wp2
      go_ret
      exact ⟨ret_bool (decide_eq_true HY3.out).symm, _, rfl⟩

/-- The fault of routers. -/
def routersB (ys : List Int) : Int := if ¬ (1 ≤ ys.length ∧ ys.length ≤ 8) then 2 else if ys.all idIn = false then 3 else if ¬ ups ys then 1 else 0

theorem allIn_ids (ys : List Int) : allIn 0 4294967295 ys = ys.all idIn := by
  unfold allIn idIn allIn
  simp

end Go.Proofs.Ytiffhjofabaflaa
