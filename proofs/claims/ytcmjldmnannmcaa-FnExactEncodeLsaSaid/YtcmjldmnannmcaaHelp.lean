/-
  What the laws' own helpers do with slices of bytes: toByteS copies, eqByteS compares, markByteS writes marks, heldByteS finds them. No statement is proved here.
-/
import Derived.Test.YtcmjldmnannmcaaBase
namespace Go.Proofs.Ytcmjldmnannmcaa
open Go.RowKit

set_option maxHeartbeats 400000 in
theorem eqByteS_any (A B : Option Addr) (n m c d : Nat) (xs ys : List Int) (w : World) (ha : BIn w A n xs) (hb : BIn w B m ys) (hn : n ≤ 1048576) (hm : m ≤ 1048576) :
    Calls Try.prog 35 #[.slice A n c, .slice B m d] w fun e w' => e = .returned (.bool (decide (xs = ys))) ∧ Below w.heap.size w w' := by
  by_cases hnm : n = m
  · subst hnm
    go_enter Try.func35, Try.ntmps35
    go_wp2
    go_loopw [5] (fun i wr => ∃ k : Nat, k ≤ n ∧ i = .int .i64 k ∧ (∀ j, j < k → xs.getD j 0 = ys.getD j 0) ∧ ∃ q, wr = w.drewN q)
      (fun i _ => n - (intOf i).toNat)
    case atStart => exact ⟨0, Nat.zero_le _, rfl, fun j hj => absurd hj (by omega), 0, rfl⟩
    case round =>
      obtain ⟨k, hk, rfl, hsame, q, rfl⟩ := hrel
      have HS := Lib.hid hsame
      clear hsame
      by_cases hlt : k < n
      · obtain ⟨b, o, rfl, hca⟩ := ha.at_ hlt
        obtain ⟨b', o', rfl, hcb⟩ := hb.at_ hlt
        have hlt' : (k : Int) < n := by omega
        go_wp2
        go_quiet (fail)
        by_cases he : xs.getD k 0 = ys.getD k 0
        · have he1 : (xs.getD k 0 != ys.getD k 0) = false := by rw [he]; simp
          have HE := Lib.hid he
          clear he
          simp only [List.getD_eq_getElem?_getD] at he1
          go_wp2
          go_roundw
          case rel => exact ⟨k + 1, by omega, by go_num, fun j hj => by
            rcases Nat.lt_succ_iff_lt_or_eq.1 hj with h | rfl
            · exact HS.out j h
            · exact HE.out, _, rfl⟩
          case measure => simp [intOf]; omega
        · have he1 : (xs.getD k 0 != ys.getD k 0) = true := by rw [bne_iff_ne]; exact he
          simp only [List.getD_eq_getElem?_getD] at he1
          have HE : Hid (¬ xs = ys) := fun h => he (by rw [h])
          clear he
          go_wp2
          go_ret
          exact ⟨ret_bool (decide_eq_false HE.out).symm, below_drewN (below_drewN (Below.refl _ _) _) _⟩
      · go_wp2
        go_ret
        have e : xs = ys := take_eq_all ha.1 hb.1 (fun i hi => HS.out i (by omega))
        exact ⟨by simp [e], below_drewN (Below.refl _ _) _⟩
  · go_enter Try.func35, Try.ntmps35
    have h1 : ((n : Int) != (m : Int)) = true := by rw [bne_iff_ne]; omega
    have h2 : xs ≠ ys := fun h => hnm (by rw [← ha.1, ← hb.1, h])
    go_wp2
    go_ret
    exact ⟨by simp [h2], Below.refl _ _⟩

theorem eqByteS_yes (A B : Option Addr) (n m c d : Nat) (xs : List Int) (w : World) (ha : BIn w A n xs) (hb : BIn w B m xs) (hn : n ≤ 1048576) (hm : m ≤ 1048576) :
    Calls Try.prog 35 #[.slice A n c, .slice B m d] w fun e w' => e = .returned (.bool true) ∧ Below w.heap.size w w' :=
  (eqByteS_any A B n m c d xs xs w ha hb hn hm).mono fun _ _ h => ⟨by rw [h.1]; exact ret_bool (decide_eq_true rfl), h.2⟩

set_option maxHeartbeats 400000 in
theorem toByteS_any (A : Option Addr) (n c : Nat) (xs : List Int) (w : World) (ha : BIn w A n xs) (hn : n ≤ 1048576) :
    Calls Try.prog 33 #[.slice A n c] w fun e w' => e = .returned (.slice (some ⟨w.heap.size, 0, none⟩) n n) ∧
      Own w' w.heap.size (some ⟨w.heap.size, 0, none⟩) n n xs ∧ Below w.heap.size w w' := by
  obtain ⟨i0, hi, hz0, hz1, hz2⟩ := info_parts byteInfo
  go_enter Try.func33, Try.ntmps33
  go_wp2_with (at_make; refine wpList_make_full _ rfl _ _ 22 rfl w.heap.size 5 i0 (.int .u8 0) 1 Try.underlying22 hi hz0 hz1 .i64 .i64 _ _ n rfl rfl rfl rfl (by rw [hz2]; omega) (by unfold maxLen; omega) (Nat.le_refl _) ?_; intro w1 hown1 hg1)
  have hb1 := below_of_grown hg1
  clear hg1 hi hz0 hz1 hz2
  have hown2 : Own w1 w.heap.size (some ⟨w.heap.size, 0, none⟩) n n (List.replicate n 0) := by
    unfold Own
    have e : (madeCells (Value.int IntKind.u8 0).cells (n * 1)).toList = (List.replicate n (0 : Int)).map (Value.int .u8) := by
      rw [List.map_replicate, Nat.mul_one]; exact toList_madeCells_one _ _
    rw [← e]; exact hown1
  clear hown1
  obtain ⟨B, HB⟩ : ∃ B, Hid (B = w.heap.size) := ⟨_, Lib.hid rfl⟩
  rw [← HB.out] at hown2 hb1 ⊢
  go_loopw [4] (fun i wr => ∃ k : Nat, k ≤ n ∧ i = .int .i64 k ∧ ∃ zs, Own wr B (some ⟨B, 0, none⟩) n n zs ∧ Below B w wr ∧ ∀ j, j < k → zs.getD j 0 = xs.getD j 0)
    (fun i _ => n - (intOf i).toNat)
  case atStart => exact ⟨0, Nat.zero_le _, rfl, _, hown2, hb1, fun j hj => absurd hj (by omega)⟩
  case round =>
    obtain ⟨k, hk, rfl, zs, hown, hbw, hsame⟩ := hrel
    have HS := Lib.hid hsame
    clear hsame
    by_cases hlt : k < n
    · obtain ⟨b, o, rfl, hca⟩ := (ha.below (by rw [← HB.out]; exact hbw)).at_ hlt
      have hlt' : (k : Int) < n := by omega
      have hc := hown.cell hlt
      have hf := hown.frozen k
      obtain ⟨hown', hg'⟩ := hown.stored k (xs.getD k 0)
      have hl := hown.len
      go_wp2
      go_roundw
      case rel => exact ⟨k + 1, by omega, by go_num, _, by simpa only [List.getD_eq_getElem?_getD] using hown', hbw.setCell (Nat.le_refl _) _, fun j hj => by
        rw [getD_set _ _ _ _ (by omega)]
        by_cases e : j = k
        · subst e; simp
        · rw [if_neg e]; exact HS.out j (by omega)⟩
      case measure => simp [intOf]; omega
    · go_wp2
      go_ret
      have e : zs = xs := take_eq_all hown.len ha.1 (fun i hi => HS.out i (by omega))
      obtain rfl := HB.out
      exact ⟨rfl, e ▸ hown, hbw⟩

/-- The marks that markByteS writes: from k on, one more each. -/
def marks (k : Int) (n : Nat) : List Int := (List.range n).map fun (i : Nat) => (k + (i : Int)) % 256

theorem marks_len (k : Int) (n : Nat) : (marks k n).length = n := by simp [marks]
theorem marks_at (k : Int) (n j : Nat) (h : j < n) : (marks k n).getD j 0 = (k + j) % 256 := by simp [marks, List.getD, h]

set_option maxHeartbeats 400000 in
theorem markByteS_any (A : Option Addr) (B n c : Nat) (xs : List Int) (k0 : Int) (w : World) (ha : Own w B A n c xs) (hn : n ≤ 1048576) (h0 : 0 ≤ k0) (h1 : k0 ≤ 4294967296) :
    Calls Try.prog 36 #[.slice A n c, .int .i64 k0] w fun e w' => e = .returned (.int .i64 (k0 + n)) ∧
      Own w' B A n c (marks k0 n) ∧ w.grownBy w' (A.map (·.block)) := by
  go_enter Try.func36, Try.ntmps36
  go_wp2
  go_loopw [1, 5] (fun q i wr => ∃ k : Nat, k ≤ n ∧ i = .int .i64 k ∧ q = .int .i64 (k0 + k) ∧ ∃ zs, Own wr B A n c zs ∧ w.grownBy wr (A.map (·.block)) ∧ ∀ j, j < k → zs.getD j 0 = (k0 + j) % 256)
    (fun _ i _ => n - (intOf i).toNat)
  case atStart => exact ⟨0, Nat.zero_le _, rfl, by simp, _, ha, World.grownBy.refl _ _, fun j hj => absurd hj (by omega)⟩
  case round =>
    obtain ⟨k, hk, rfl, rfl, zs, hown, hbw, hsame⟩ := hrel
    have HS := Lib.hid hsame
    clear hsame
    by_cases hlt : k < n
    · obtain ⟨g, rfl, _, hgl⟩ := hown.form (by omega)
      have hlt' : (k : Int) < n := by omega
      have hc := hown.cell hlt
      have hf := hown.frozen k
      obtain ⟨hown', hg'⟩ := hown.stored k ((k0 + k) % 256)
      have hl := hown.len
      have HB := Lib.hid (grown_trans hbw hg')
      clear hbw hg'
      go_wp2
      go_roundw
      case rel => exact ⟨k + 1, by omega, by go_num, by go_num, _, by simpa only [List.getD_eq_getElem?_getD] using hown', HB.out, fun j hj => by
        rw [getD_set _ _ _ _ (by omega)]
        by_cases e : j = k
        · subst e; simp
        · rw [if_neg e]; exact HS.out j (by omega)⟩
      case measure => simp [intOf]; omega
    · go_wp2
      go_ret
      obtain rfl : k = n := by omega
      have e : zs = marks k0 k := take_eq_all hown.len (marks_len _ _) (fun i hi => by rw [HS.out i hi, marks_at _ _ _ hi])
      exact ⟨rfl, e ▸ hown, hbw⟩


set_option maxHeartbeats 400000 in
/-- heldByteS finds the marks. -/
theorem heldByteS_yes (A : Option Addr) (n c : Nat) (k0 : Int) (w : World) (ha : BIn w A n (marks k0 n)) (hn : n ≤ 1048576) (h0 : 0 ≤ k0) (h1 : k0 ≤ 4294967296) :
    Calls Try.prog 86 #[.slice A n c, .int .i64 k0] w fun e w' => e = .returned (.int .i64 (k0 + n)) ∧ Below w.heap.size w w' := by
  go_enter Try.func86, Try.ntmps86
  go_wp2
  go_loop [1, 5] (fun q i => ∃ k : Nat, k ≤ n ∧ i = .int .i64 k ∧ q = .int .i64 (k0 + k)) (fun _ i => n - (intOf i).toNat)
  case atStart => exact ⟨0, Nat.zero_le _, rfl, by simp⟩
  case round =>
    obtain ⟨k, hk, rfl, rfl⟩ := hrel
    by_cases hlt : k < n
    · obtain ⟨b, o, rfl, hc⟩ := ha.at_ hlt
      rw [marks_at _ _ _ hlt] at hc
      have hlt' : (k : Int) < n := by omega
      go_wp2
      go_round
      case rel => exact ⟨k + 1, by omega, by go_num, by go_num⟩
      case measure => simp [intOf]; omega
    · obtain rfl : k = n := by omega
      go_wp2
      go_ret
      exact ⟨rfl, Below.refl _ _⟩

set_option maxHeartbeats 400000 in
/-- eqBytesResult finds two like answers alike. -/
theorem eqBytesResult_yes (A B : Option Addr) (n c d : Nat) (code : Int) (xs : List Int) (w : World) (ha : BIn w A n xs) (hb : BIn w B n xs) (hn : n ≤ 1048576) :
    Calls Try.prog 29 #[.agg #[.int .i64 code, .slice A n c], .agg #[.int .i64 code, .slice B n d]] w fun e w' => e = .returned (.bool true) ∧ Below w.heap.size w w' := by
  have a1 : Below w.heap.size w ((w.alloc (.cells #[.int .i64 code, .slice A n c] 32)).alloc (.cells #[.int .i64 code, .slice B n d] 32)) :=
    ((Below.refl _ _).alloc (Nat.le_refl _) _).alloc (by simp) _
  have A1 := Lib.hid a1
  have A2 := Lib.hid (ha.below a1)
  have A3 := Lib.hid (hb.below a1)
  clear a1 ha hb
  go_enter Try.func29, Try.ntmps29
  go_wp2_with (go_at_call 35; refine (eqByteS_yes _ _ _ _ _ _ xs _ A2.out A3.out hn hn).mono ?_; rintro e w1 ⟨rfl, hb1⟩)
  go_wp2
  go_ret
  exact ⟨rfl, below_step A1.out hb1⟩

set_option maxHeartbeats 400000 in
theorem markBytesResult_any (A : Option Addr) (B n c : Nat) (code : Int) (xs : List Int) (k0 : Int) (w : World) (ha : Own w B A n c xs) (hn : n ≤ 1048576) (h0 : 0 ≤ k0) (h1 : k0 ≤ 4294967296) :
    Calls Try.prog 31 #[.agg #[.int .i64 code, .slice A n c], .int .i64 k0] w fun e w' => e = .returned (.int .i64 (k0 + n)) ∧
      Own w' B A n c (marks k0 n) ∧ w.grownBy w' (A.map (·.block)) := by
  have a1 : Below w.heap.size w (w.alloc (.cells #[.int .i64 code, .slice A n c] 32)) := (Below.refl _ _).alloc (Nat.le_refl _) _
  have A1 := Lib.hid a1
  have A2 := Lib.hid (ha.below a1)
  clear a1 ha
  go_enter Try.func31, Try.ntmps31
  go_wp2_with (go_at_call 36; refine (markByteS_any _ _ _ _ xs _ _ A2.out hn h0 h1).mono ?_; rintro e w1 ⟨rfl, hb1, hb2⟩)
  go_wp2
  go_ret
  exact ⟨rfl, hb1, grown_trans (grownBy_of_below A1.out _) hb2⟩

set_option maxHeartbeats 400000 in
theorem heldBytesResult_yes (A : Option Addr) (n c : Nat) (code : Int) (k0 : Int) (w : World) (ha : BIn w A n (marks k0 n)) (hn : n ≤ 1048576) (h0 : 0 ≤ k0) (h1 : k0 ≤ 4294967296) :
    Calls Try.prog 32 #[.agg #[.int .i64 code, .slice A n c], .int .i64 k0] w fun e w' => e = .returned (.int .i64 (k0 + n)) ∧ Below w.heap.size w w' := by
  have a1 : Below w.heap.size w (w.alloc (.cells #[.int .i64 code, .slice A n c] 32)) := (Below.refl _ _).alloc (Nat.le_refl _) _
  have A1 := Lib.hid a1
  have A2 := Lib.hid (ha.below a1)
  clear a1 ha
  have h3 : ¬ (k0 + (n : Int) < 0) := by omega
  go_enter Try.func32, Try.ntmps32
  go_wp2_with (go_at_call 86; refine (heldByteS_yes _ _ _ _ _ A2.out hn h0 h1).mono ?_; rintro e w1 ⟨rfl, hb1⟩)
  go_wp2
  go_ret
  exact ⟨rfl, below_step A1.out hb1⟩

set_option maxHeartbeats 400000 in
theorem eqIntResult_yes (code v : Int) (w : World) :
    Calls Try.prog 28 #[.agg #[.int .i64 code, .int .i64 v], .agg #[.int .i64 code, .int .i64 v]] w fun e w' => e = .returned (.bool true) ∧ Below w.heap.size w w' := by
  go_enter Try.func28, Try.ntmps28
  go_wp2
  go_ret
  exact ⟨rfl, ((Below.refl _ _).alloc (Nat.le_refl _) _).alloc (by simp) _⟩

end Go.Proofs.Ytcmjldmnannmcaa
