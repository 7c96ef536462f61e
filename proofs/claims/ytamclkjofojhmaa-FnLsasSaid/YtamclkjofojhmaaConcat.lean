/-
  slices.Grow of nothing, and slices.Concat of two slices of bytes. No statement is proved here.
-/
import Derived.Test.YtamclkjofojhmaaFlat
import Derived.Lib.AppendZeros
namespace Go.Proofs.Ytamclkjofojhmaa
open Go.RowKit

set_option maxRecDepth 100000 in
set_option maxHeartbeats 1600000 in
theorem grow_nil (n : Nat) (w : World) (h0 : 0 < n) (hn : n ≤ 4096) :
    Calls Try.prog 110 #[.slice none 0 0, .int .i64 n] w fun e w' => ∃ A c, e = .returned (.slice A 0 c) ∧ Own w' w.heap.size A 0 c [] ∧ Below w.heap.size w w' := by
  obtain ⟨i0, hi, hz0, hz1, hz2⟩ := info_parts byteInfo
  have hr := fun ty => Lib.run_append_nil_zeros (P := Try.prog) w 22 3 ty 5 i0 (.int .u8 0) .i64 .i64 Try.underlying22 Try.underlying3 hi hz0 n h0 (by rw [hz1]; omega) (by omega) (by rw [hz2]; omega)
  have HR := Lib.hid hr
  have h1 : ¬ ((n : Int) < 0) := by omega
  have h2 : (0 : Int) < n := by omega
  clear hr
  go_enter Try.func110, Try.ntmps110
  go_wp2_with (at_builtin; refine Lib.wpList_append_run _ rfl _ _ _ _ rfl _ _ rfl rfl _ _ (HR.out _) ?_)
  go_ret
  have hge := grownCap_ge w n 0 5
  have hcm : grownCap w n 0 5 ≤ maxLen := grownCap_le_maxLen w n 0 5 (by unfold maxLen; omega)
  refine ⟨some ⟨w.heap.size, 0, none⟩, _, rfl, ?_, ((Below.refl _ _).alloc (Nat.le_refl _) _).drew⟩
  refine ⟨rfl, .inr ⟨w.heap.size, _, _, rfl, Nat.le_refl _, heap_alloc_new w.drew _, Nat.zero_le _, hcm, ?_, ?_⟩⟩
  · simp only [Array.size_append, size_zeroCells]
    simp
    omega
  · simp

/-- How much the first k of two lists take. -/
def upTo (n m k : Nat) : Nat := if k = 0 then 0 else if k = 1 then n else n + m

def catTo (xs ys : List Int) (k : Nat) : List Int := if k = 0 then [] else if k = 1 then xs else xs ++ ys

theorem beside {w : World} {b o : Nat} {A : Option Addr} {n c : Nat} (h : w.cell? ⟨b, o, none⟩ = some (.slice A n c)) : b < w.heap.size := World.block_lt_of_cell? w _ h

set_option maxRecDepth 100000 in
set_option maxHeartbeats 1600000 in
theorem concat_two (g : Nat) (t : TypeId) (A E : Option Addr) (n c m d : Nat) (xs ys : List Int) (w : World) (hX : Box w g t #[.slice A n c, .slice E m d]) (hA : BIn w A n xs) (hE : BIn w E m ys) (h0 : 0 < n) (h1 : 0 < m) (hn : n ≤ 2000) (hm : m ≤ 2000) :
    Calls Try.prog 57 #[.slice (some ⟨g, 0, none⟩) 2 2] w fun e w' => ∃ F k, e = .returned (.slice F (n + m) k) ∧ Own w' w.heap.size F (n + m) k (xs ++ ys) ∧ Below w.heap.size w w' := by
  have HX := Lib.hid hX
  have HA := Lib.hid hA
  have HE := Lib.hid hE
  have c0 := hX.look 0
  have c1 := hX.look 1
  clear hX hA hE
  go_enter Try.func57, Try.ntmps57
  go_wp2
  go_loop [3, 11] (fun s i => ∃ k : Nat, k ≤ 2 ∧ i = .int .i64 k ∧ s = .int .i64 (upTo n m k)) (fun _ i => 2 - (intOf i).toNat)
  case atStart => exact ⟨0, Nat.zero_le _, rfl, rfl⟩
  case round =>
    obtain ⟨k, hk, rfl, rfl⟩ := hrel
    rcases (show k = 0 ∨ k = 1 ∨ k = 2 by omega) with rfl | rfl | rfl
    · have e0 : upTo n m 0 = 0 := rfl
      rw [e0]
      clear e0
      go_wp2
      go_round
      case rel => exact ⟨1, by omega, rfl, by simp [upTo]⟩
      case measure => simp [intOf]
    · have e0 : upTo n m 1 = n := rfl
      rw [e0]
      clear e0
      go_wp2
      go_round
      case rel => exact ⟨2, by omega, rfl, by simp [upTo]⟩
      case measure => simp [intOf]
    · have e0 : upTo n m 2 = n + m := rfl
      rw [e0]
      clear e0 c0 c1
      go_wp2_with fail
      refine (grow_nil (n + m) _ (by omega) (by omega)).mono ?_
      rintro e w1 ⟨F, k, rfl, ho, hb⟩
      have HO := Lib.hid ho
      have HB := Lib.hid hb
      clear ho hb
      go_wp2
      go_loopw [6, 27] (fun v i wr => ∃ k : Nat, k ≤ 2 ∧ i = .int .i64 k ∧ ∃ F d, v = .slice F (upTo n m k) d ∧ Hid (Own wr w.heap.size F (upTo n m k) d (catTo xs ys k)) ∧ Hid (Below w.heap.size w wr)) (fun _ i _ => 2 - (intOf i).toNat)
      case atStart => exact ⟨0, Nat.zero_le _, rfl, F, k, rfl, HO, HB⟩
      case round =>
        obtain ⟨k, hk, rfl, F, d, rfl, HO, HB⟩ := hrel
        rcases (show k = 0 ∨ k = 1 ∨ k = 2 by omega) with rfl | rfl | rfl
        · have e0 : upTo n m 0 = 0 := rfl
          have e1 : catTo xs ys 0 = [] := rfl
          rw [e0, e1] at HO
          rw [e0]
          clear e0 e1
          have c0 := (HX.out.below HB.out).look 0
          go_wp2_with (at_builtin; refine wpList_app rfl (.tmp 31) (.tmp 32) rfl rfl HO.out rfl h0 (HA.out.below HB.out) (by omega) HB.out.size ?_; intro A' c' w2 ho2 hg2)
          go_roundw
          case rel =>
            refine ⟨1, by omega, rfl, A', c', by simp [upTo], Lib.hid ?_, Lib.hid (HB.out.grown hg2 HB.out.size (fun r hr => (HO.out.block r hr).1))⟩
            have e2 : catTo xs ys 1 = [] ++ xs := by simp [catTo]
            have e3 : upTo n m 1 = 0 + n := by simp [upTo]
            rw [e2, e3]; exact ho2
          case measure => simp [intOf]
        · have e0 : upTo n m 1 = n := rfl
          have e1 : catTo xs ys 1 = xs := rfl
          rw [e0, e1] at HO
          rw [e0]
          clear e0 e1
          have c0 := (HX.out.below HB.out).look 1
          go_wp2_with (at_builtin; refine wpList_app rfl (.tmp 31) (.tmp 32) rfl rfl HO.out rfl h1 (HE.out.below HB.out) (by omega) HB.out.size ?_; intro A' c' w2 ho2 hg2)
          go_roundw
          case rel => exact ⟨2, by omega, rfl, A', c', by simp [upTo], Lib.hid ho2, Lib.hid (HB.out.grown hg2 HB.out.size (fun r hr => (HO.out.block r hr).1))⟩
          case measure => simp [intOf]
        · have e0 : upTo n m 2 = n + m := rfl
          have e1 : catTo xs ys 2 = xs ++ ys := rfl
          rw [e0, e1] at HO
          rw [e0]
          clear e0 e1
          go_wp2
          go_ret
          exact ⟨F, d, rfl, HO.out, HB.out⟩

end Go.Proofs.Ytamclkjofojhmaa
