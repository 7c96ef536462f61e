/-
  What the laws' own helpers do with slices of bytes: toByteS copies, eqByteS compares, markByteS writes marks, heldByteS finds them. No statement is proved here.
-/
import Derived.Test.YtiffhjofabaflaaBase
namespace Go.Proofs.Ytiffhjofabaflaa
open Go.RowKit

set_option maxHeartbeats 400000 in
theorem eqByteS_any (A B : Option Addr) (n m c d : Nat) (xs ys : List Int) (w : World) (ha : BIn w A n xs) (hb : BIn w B m ys) (hn : n ≤ 1048576) (hm : m ≤ 1048576) :
    Calls Try.prog 149 #[.slice A n c, .slice B m d] w fun e w' => e = .returned (.bool (decide (xs = ys))) ∧ Below w.heap.size w w' := by
  by_cases hnm : n = m
  · subst hnm
    go_enter Try.func149, Try.ntmps149
    go_wp2
    go_loopw [5] (fun i wr => ∃ k : Nat, k ≤ n ∧ i = .int .i64 k ∧ (∀ j, j < k → xs.getD j 0 = ys.getD j 0) ∧ ∃ q, wr = w.drewN q)
      (fun i _ => n - (intOf i).toNat)
    case atStart => exact ⟨0, Nat.zero_le _, rfl, fun j hj => absurd hj (by omega), 0, rfl⟩
    case round =>
      obtain ⟨k, hk, rfl, hsame, q, rfl⟩ := hrel
      have HS := Lib.hid hsame
      clear hsame
      by_cases hlt : k < n
      · obtain ⟨b, o, rfl, hca⟩ := ha.at_ hlt
        obtain ⟨b', o', rfl, hcb⟩ := hb.at_ hlt
        have hlt' : (k : Int) < n := by omega
        go_wp2
        go_quiet (fail)
        by_cases he : xs.getD k 0 = ys.getD k 0
        · have he1 : (xs.getD k 0 != ys.getD k 0) = false := by rw [he]; simp
          have HE := Lib.hid he
          clear he
          simp only [List.getD_eq_getElem?_getD] at he1
          go_wp2
          go_roundw
          case rel => exact ⟨k + 1, by omega, by go_num, fun j hj => by
            rcases Nat.lt_succ_iff_lt_or_eq.1 hj with h | rfl
            · exact HS.out j h
            · exact HE.out, _, rfl⟩
          case measure => simp [intOf]; omega
        · have he1 : (xs.getD k 0 != ys.getD k 0) = true := by rw [bne_iff_ne]; exact he
          simp only [List.getD_eq_getElem?_getD] at he1
          have HE : Hid (¬ xs = ys) := fun h => he (by rw [h])
          clear he
          go_wp2
          go_ret
          exact ⟨ret_bool (decide_eq_false HE.out).symm, below_drewN (below_drewN (Below.refl _ _) _) _⟩
      · go_wp2
        go_ret
        have e : xs = ys := take_eq_all ha.1 hb.1 (fun i hi => HS.out i (by omega))
        exact ⟨by simp [e], below_drewN (Below.refl _ _) _⟩
  · go_enter Try.func149, Try.ntmps149
    have h1 : ((n : Int) != (m : Int)) = true := by rw [bne_iff_ne]; omega
    have h2 : xs ≠ ys := fun h => hnm (by rw [← ha.1, ← hb.1, h])
    go_wp2
    go_ret
    exact ⟨by simp [h2], Below.refl _ _⟩

theorem eqByteS_yes (A B : Option Addr) (n m c d : Nat) (xs : List Int) (w : World) (ha : BIn w A n xs) (hb : BIn w B m xs) (hn : n ≤ 1048576) (hm : m ≤ 1048576) :
    Calls Try.prog 149 #[.slice A n c, .slice B m d] w fun e w' => e = .returned (.bool true) ∧ Below w.heap.size w w' :=
  (eqByteS_any A B n m c d xs xs w ha hb hn hm).mono fun _ _ h => ⟨by rw [h.1]; exact ret_bool (decide_eq_true rfl), h.2⟩

set_option maxHeartbeats 400000 in
theorem toByteS_any (A : Option Addr) (n c : Nat) (xs : List Int) (w : World) (ha : BIn w A n xs) (hn : n ≤ 1048576) :
    Calls Try.prog 145 #[.slice A n c] w fun e w' => e = .returned (.slice (some ⟨w.heap.size, 0, none⟩) n n) ∧
      Own w' w.heap.size (some ⟨w.heap.size, 0, none⟩) n n xs ∧ Below w.heap.size w w' := by
  obtain ⟨i0, hi, hz0, hz1, hz2⟩ := info_parts byteInfo
  go_enter Try.func145, Try.ntmps145
  go_wp2_with (at_make; refine wpList_make_full _ rfl _ _ 22 rfl w.heap.size 5 i0 (.int .u8 0) 1 Try.underlying22 hi hz0 hz1 .i64 .i64 _ _ n rfl rfl rfl rfl (by rw [hz2]; omega) (by unfold maxLen; omega) (Nat.le_refl _) ?_; intro w1 hown1 hg1)
  have hb1 := below_of_grown hg1
  clear hg1 hi hz0 hz1 hz2
  have hown2 : Own w1 w.heap.size (some ⟨w.heap.size, 0, none⟩) n n (List.replicate n 0) := by
    unfold Own
    have e : (madeCells (Value.int IntKind.u8 0).cells (n * 1)).toList = (List.replicate n (0 : Int)).map (Value.int .u8) := by
      rw [List.map_replicate, Nat.mul_one]; exact toList_madeCells_one _ _
    rw [← e]; exact hown1
  clear hown1
  obtain ⟨B, HB⟩ : ∃ B, Hid (B = w.heap.size) := ⟨_, Lib.hid rfl⟩
  rw [← HB.out] at hown2 hb1 ⊢
  go_loopw [4] (fun i wr => ∃ k : Nat, k ≤ n ∧ i = .int .i64 k ∧ ∃ zs, Own wr B (some ⟨B, 0, none⟩) n n zs ∧ Below B w wr ∧ ∀ j, j < k → zs.getD j 0 = xs.getD j 0)
    (fun i _ => n - (intOf i).toNat)
  case atStart => exact ⟨0, Nat.zero_le _, rfl, _, hown2, hb1, fun j hj => absurd hj (by omega)⟩
  case round =>
    obtain ⟨k, hk, rfl, zs, hown, hbw, hsame⟩ := hrel
    have HS := Lib.hid hsame
    clear hsame
    by_cases hlt : k < n
    · obtain ⟨b, o, rfl, hca⟩ := (ha.below (by rw [← HB.out]; exact hbw)).at_ hlt
      have hlt' : (k : Int) < n := by omega
      have hc := hown.cell hlt
      have hf := hown.frozen k
      obtain ⟨hown', hg'⟩ := hown.stored k (xs.getD k 0)
      have hl := hown.len
      go_wp2
      go_roundw
      case rel => exact ⟨k + 1, by omega, by go_num, _, by simpa only [List.getD_eq_getElem?_getD] using hown', hbw.setCell (Nat.le_refl _) _, fun j hj => by
        rw [getD_set _ _ _ _ (by omega)]
        by_cases e : j = k
        · subst e; simp
        · rw [if_neg e]; exact HS.out j (by omega)⟩
      case measure => simp [intOf]; omega
    · go_wp2
      go_ret
      have e : zs = xs := take_eq_all hown.len ha.1 (fun i hi => HS.out i (by omega))
      obtain rfl := HB.out
      exact ⟨rfl, e ▸ hown, hbw⟩

/-- The marks that markByteS writes: from k on, one more each. -/
def marks (k : Int) (n : Nat) : List Int := (List.range n).map fun (i : Nat) => (k + (i : Int)) % 256

theorem marks_len (k : Int) (n : Nat) : (marks k n).length = n := by simp [marks]
theorem marks_at (k : Int) (n j : Nat) (h : j < n) : (marks k n).getD j 0 = (k + j) % 256 := by simp [marks, List.getD, h]

set_option maxHeartbeats 400000 in
theorem eqIntResult_yes (code v : Int) (w : World) :
    Calls Try.prog 77 #[.agg #[.int .i64 code, .int .i64 v], .agg #[.int .i64 code, .int .i64 v]] w fun e w' => e = .returned (.bool true) ∧ Below w.heap.size w w' := by
  go_enter Try.func77, Try.ntmps77
  go_wp2
  go_ret
  exact ⟨rfl, ((Below.refl _ _).alloc (Nat.le_refl _) _).alloc (by simp) _⟩

end Go.Proofs.Ytiffhjofabaflaa
