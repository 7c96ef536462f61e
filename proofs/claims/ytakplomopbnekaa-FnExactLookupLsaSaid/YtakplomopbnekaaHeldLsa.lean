/-
  Advertisements whose two slices lie apart: marks written into both and found again; answers that hold an advertisement. No statement is proved here.
-/
import Derived.Test.YtakplomopbnekaaMarkLsa
namespace Go.Proofs.Ytakplomopbnekaa
open Go.RowKit
set_option linter.unusedVariables false

/-- Both slices of an advertisement lie in blocks lo to hi - 1, apart from each other, and may be written. -/
structure LsaTwo (lo hi : Nat) (w : World) (A : Option Addr) (n : Nat) (B : Option Addr) (m : Nat) (l : LsaM) : Prop where
  two : ∃ l1 h1 l2 h2, lo ≤ l1 ∧ h1 ≤ hi ∧ lo ≤ l2 ∧ h2 ≤ hi ∧ (h1 ≤ l2 ∨ h2 ≤ l1) ∧ Rep.link.Sl true l1 h1 w A n l.links ∧ Rep.int.Sl true l2 h2 w B m l.routers
  le : hi ≤ w.heap.size

section
variable {lo hi lo' hi' : Nat} {w w' : World} {A B : Option Addr} {n m : Nat} {l : LsaM}
theorem LsaTwo.at_ (h : LsaTwo lo hi w A n B m l) : LsaAt true lo hi w A n B m l := by
  obtain ⟨⟨l1, h1, l2, h2, a1, a2, a3, a4, _, s1, s2⟩, hl⟩ := h
  exact ⟨⟨s1.mono a1 a2, s2.mono a3 a4⟩, hl⟩
theorem LsaTwo.same (h : LsaTwo lo hi w A n B m l) (k : SameIn lo hi w w') (hs : w.heap.size ≤ w'.heap.size) : LsaTwo lo hi w' A n B m l := by
  obtain ⟨⟨l1, h1, l2, h2, a1, a2, a3, a4, d, s1, s2⟩, hl⟩ := h
  exact ⟨⟨l1, h1, l2, h2, a1, a2, a3, a4, d, s1.keep (fun b b1 b2 => k b (by omega) (by omega)), s2.keep (fun b b1 b2 => k b (by omega) (by omega))⟩, Nat.le_trans hl hs⟩
theorem LsaTwo.below (h : LsaTwo lo hi w A n B m l) (hb : Below w.heap.size w w') : LsaTwo lo hi w' A n B m l := h.same (SameIn.of_below hb h.le) hb.size
theorem LsaTwo.only (h : LsaTwo lo hi w A n B m l) (ho : Only lo' hi' w w') (hd : hi ≤ lo' ∨ hi' ≤ lo) : LsaTwo lo hi w' A n B m l := h.same (ho.same hd h.le) ho.size
theorem LsaTwo.mono (h : LsaTwo lo hi w A n B m l) (h1 : lo' ≤ lo) (h2 : hi ≤ hi') (h3 : hi' ≤ w.heap.size) : LsaTwo lo' hi' w A n B m l := by
  obtain ⟨⟨l1, k1, l2, k2, a1, a2, a3, a4, d, s1, s2⟩, hl⟩ := h
  exact ⟨⟨l1, k1, l2, k2, by omega, by omega, by omega, by omega, d, s1, s2⟩, h3⟩
end

set_option maxHeartbeats 800000 in
theorem markLsa_two (l : LsaM) (lo hi : Nat) (A B : Option Addr) (n c m d : Nat) (k0 : Int) (w : World) (ha : LsaTwo lo hi w A n B m l) (hn : n ≤ 1048576) (hm : m ≤ 1048576) (h0 : 0 ≤ k0) (h1 : k0 ≤ 1048576) :
    Calls Try.prog 126 #[.agg (lsaCells l A B n c m d), .int .i64 k0] w fun e w' => e = .returned (.int .i64 (k0 + 4 * n + m)) ∧ LsaTwo lo hi w' A n B m (mLsa l k0) ∧ Only lo hi w w' := by
  obtain ⟨⟨l1, h1', l2, h2', a1, a2, a3, a4, hd, s1, s2⟩, hle⟩ := ha
  obtain ⟨V, hV⟩ : ∃ W : World, W = w.alloc (.cells (lsaCells l A B n c m d) 93) := ⟨_, rfl⟩
  have hbV : Below w.heap.size w V := by rw [hV]; exact (Below.refl _ _).alloc (Nat.le_refl _) _
  have HX := Lib.hid (show Box V w.heap.size 93 (lsaCells l A B n c m d) by rw [hV]; exact Box.made _ _ _)
  have HL := Lib.hid (s1.below hbV (Nat.le_trans a2 hle))
  have HR := Lib.hid (s2.below hbV (Nat.le_trans a4 hle))
  have HO := Lib.hid (Only.of_below hbV lo hi)
  have HD := Lib.hid hd
  have HQ : Hid (l.links.length = n ∧ l.routers.length = m) := Lib.hid ⟨s1.1, s2.1⟩
  have HV := Lib.hid (Nat.le_trans hle hbV.size)
  clear hbV s1 s2 hd
  go_enter Try.func126, Try.ntmps126
  go_wp2_with fail
  rw [← hV]
  clear hV
  refine (markLinkS_any l1 h1' A n c l.links k0 _ HL.out hn h0 (by omega)).mono ?_
  rintro e w1 ⟨rfl, hs, ho, hk⟩
  have HL1 := Lib.hid hs
  have HR1 := Lib.hid (HR.out.keep (ho.same (by have := HD.out; omega) (Nat.le_trans a4 HV.out)))
  have HX1 := Lib.hid (HX.out.only ho (.inr (Nat.le_trans a2 hle)))
  have HO1 := Lib.hid (HO.out.trans (ho.mono a1 a2))
  have HV1 := Lib.hid (Nat.le_trans HV.out ho.size)
  clear ho hk hs HX HO HL HR HV
  have x0 := HX1.out.look 0
  have x4 := HX1.out.look 4
  have x5 := HX1.out.look 5
  have x6 := HX1.out.look 6
  have x7 := HX1.out.look 7
  go_wp2_with fail
  clear x0 x4 x5 x6 x7
  refine (markInt64S_any l2 h2' B m d l.routers _ _ HR1.out hm (by omega) (by omega)).mono ?_
  rintro e w2 ⟨rfl, hs, ho⟩
  have HR2 := Lib.hid hs
  have HL2 := Lib.hid (HL1.out.keep (ho.same (by have := HD.out; omega) (Nat.le_trans a2 HV1.out)))
  have HO2 := Lib.hid (HO1.out.trans (ho.mono a3 a4))
  have HV2 := Lib.hid (Nat.le_trans HV1.out ho.size)
  clear ho hs
  go_wp2
  go_ret
  exact ⟨rfl, ⟨⟨l1, h1', l2, h2', a1, a2, a3, a4, HD.out, by rw [show (mLsa l k0).links = mLinks k0 n by rw [mLsa, HQ.out.1]]; exact HL2.out, by rw [show (mLsa l k0).routers = mInts (k0 + 4 * n) m by rw [mLsa, HQ.out.1, HQ.out.2]]; exact HR2.out⟩, HV2.out⟩, HO2.out⟩

theorem mInts_at (k0 : Int) (n k : Nat) (h : k < n) : (mInts k0 n).getD k 0 = k0 + k := by simp [mInts, List.getD, h]
theorem mLinks_at (k0 : Int) (n k : Nat) (h : k < n) : (mLinks k0 n)[k]? = some ⟨k0 + 4 * (k : Int), k0 + 4 * (k : Int) + 1, k0 + 4 * (k : Int) + 2, k0 + 4 * (k : Int) + 3⟩ := by simp [mLinks, h]

set_option maxHeartbeats 400000 in
theorem heldInt64S_yes (q : Bool) (lo hi : Nat) (A : Option Addr) (n c : Nat) (k0 : Int) (w : World) (ha : Rep.int.Sl q lo hi w A n (mInts k0 n)) (hn : n ≤ 1048576) (h0 : 0 ≤ k0) (h1 : k0 ≤ 8388608) :
    Calls Try.prog 159 #[.slice A n c, .int .i64 k0] w fun e w' => e = .returned (.int .i64 (k0 + n)) ∧ w' = w := by
  go_enter Try.func159, Try.ntmps159
  go_wp2
  go_loop [1, 5] (fun q i => ∃ k : Nat, k ≤ n ∧ i = .int .i64 k ∧ q = .int .i64 (k0 + k)) (fun _ i => n - (intOf i).toNat)
  case atStart => exact ⟨0, Nat.zero_le _, rfl, by simp⟩
  case round =>
    obtain ⟨k, hk, rfl, rfl⟩ := hrel
    by_cases hlt : k < n
    · obtain ⟨b, o, rfl, hc⟩ := Rep.int_at ha hlt
      rw [mInts_at _ _ _ hlt] at hc
      have hlt' : (k : Int) < n := by omega
      go_wp2
      go_round
      case rel => exact ⟨k + 1, by omega, by go_num, by go_num⟩
      case measure => simp [intOf]; omega
    · obtain rfl : k = n := by omega
      go_wp2
      go_ret
      exact ⟨rfl, rfl⟩

set_option maxHeartbeats 800000 in
theorem heldLinkS_yes (q : Bool) (lo hi : Nat) (A : Option Addr) (n c : Nat) (k0 : Int) (w : World) (ha : Rep.link.Sl q lo hi w A n (mLinks k0 n)) (hn : n ≤ 1048576) (h0 : 0 ≤ k0) (h1 : k0 ≤ 8388608) :
    Calls Try.prog 158 #[.slice A n c, .int .i64 k0] w fun e w' => e = .returned (.int .i64 (k0 + 4 * n)) ∧ w' = w := by
  go_enter Try.func158, Try.ntmps158
  go_wp2
  go_loop [1, 5] (fun q i => ∃ k : Nat, k ≤ n ∧ i = .int .i64 k ∧ q = .int .i64 (k0 + 4 * k)) (fun _ i => n - (intOf i).toNat)
  case atStart => exact ⟨0, Nat.zero_le _, rfl, by simp⟩
  case round =>
    obtain ⟨k, hk, rfl, rfl⟩ := hrel
    by_cases hlt : k < n
    · obtain ⟨b, o, a, rfl, hya, c0, c1, c2, c3⟩ := Rep.link_at ha hlt
      rw [mLinks_at _ _ _ hlt] at hya
      injection hya with hya
      subst hya
      simp only [] at c0 c1 c2 c3
      have hlt' : (k : Int) < n := by omega
      have e2 : k0 + 4 * (k : Int) + 1 + 1 = k0 + 4 * (k : Int) + 2 := by omega
      have e3 : k0 + 4 * (k : Int) + 2 + 1 = k0 + 4 * (k : Int) + 3 := by omega
      rw [← e2] at c2
      rw [← e3, ← e2] at c3
      clear e2 e3
      go_wp2
      go_round
      case rel => exact ⟨k + 1, by omega, by go_num, by go_num⟩
      case measure => simp [intOf]; omega
    · obtain rfl : k = n := by omega
      go_wp2
      go_ret
      exact ⟨rfl, rfl⟩

set_option maxHeartbeats 800000 in
theorem heldLsa_yes (l : LsaM) (q : Bool) (lo hi : Nat) (A B : Option Addr) (n c m d : Nat) (k0 : Int) (w : World) (ha : LsaAt q lo hi w A n B m (mLsa l k0)) (hn : n ≤ 1048576) (hm : m ≤ 1048576) (h0 : 0 ≤ k0) (h1 : k0 ≤ 1048576) (hq : l.links.length = n ∧ l.routers.length = m) :
    Calls Try.prog 127 #[.agg (lsaCells l A B n c m d), .int .i64 k0] w fun e w' => e = .returned (.int .i64 (k0 + 4 * n + m)) ∧ Below w.heap.size w w' := by
  have hV : Below w.heap.size w (w.alloc (.cells (lsaCells l A B n c m d) 93)) := (Below.refl _ _).alloc (Nat.le_refl _) _
  have ha2 := ha.below hV
  have HL : Hid (Rep.link.Sl q lo hi (w.alloc (.cells (lsaCells l A B n c m d) 93)) A n (mLinks k0 n)) := Lib.hid (by have := ha2.in_.links; rw [show (mLsa l k0).links = mLinks k0 n by rw [mLsa, hq.1]] at this; exact this)
  have HR : Hid (Rep.int.Sl q lo hi (w.alloc (.cells (lsaCells l A B n c m d) 93)) B m (mInts (k0 + 4 * n) m)) := Lib.hid (by have := ha2.in_.routers; rw [show (mLsa l k0).routers = mInts (k0 + 4 * n) m by rw [mLsa, hq.1, hq.2]] at this; exact this)
  have HB := Lib.hid hV
  have g1 : ¬ (k0 + 4 * (n : Int) < 0) := by omega
  have g2 : ¬ (k0 + 4 * (n : Int) + m < 0) := by omega
  clear ha ha2 hV hq
  go_enter Try.func127, Try.ntmps127
  go_wp2_with fail
  refine (heldLinkS_yes _ _ _ A n c k0 _ HL.out hn h0 (by omega)).mono ?_
  rintro e w1 ⟨rfl, rfl⟩
  go_wp2_with fail
  refine (heldInt64S_yes _ _ _ B m d (k0 + 4 * n) _ HR.out hm (by omega) (by omega)).mono ?_
  rintro e w1 ⟨rfl, rfl⟩
  go_wp2
  go_ret
  exact ⟨rfl, HB.out⟩

abbrev resCells (r : Int) (l : LsaM) (A B : Option Addr) (n c m d : Nat) : Array Value :=
  #[.int .i64 r, .int .i64 l.age, .int .i64 l.options, .int .i64 l.typ, .int .i64 l.id, .int .i64 l.adv, .int .i64 l.seq, .slice A n c, .slice B m d, .int .i64 l.mask, .int .i64 l.cost]

set_option maxRecDepth 100000 in
set_option maxHeartbeats 1600000 in
theorem eqLsaResult_yes (r : Int) (l : LsaM) (q q' : Bool) (lo hi lo' hi' : Nat) (A B A' B' : Option Addr) (n c m d c' d' : Nat) (w : World) (ha : LsaAt q lo hi w A n B m l) (hc : LsaAt q' lo' hi' w A' n B' m l) (hn : n ≤ 1048576) (hm : m ≤ 1048576) :
    Calls Try.prog 61 #[.agg (resCells r l A B n c m d), .agg (resCells r l A' B' n c' m d')] w fun e w' => e = .returned (.bool true) ∧ Below w.heap.size w w' := by
  have hV : Below w.heap.size w ((w.alloc (.cells (resCells r l A B n c m d) 95)).alloc (.cells (resCells r l A' B' n c' m d') 95)) := ((Below.refl _ _).alloc (Nat.le_refl _) _).alloc (by simp) _
  have HA := Lib.hid (ha.below hV)
  have HC := Lib.hid (hc.below hV)
  have HB := Lib.hid hV
  clear ha hc hV
  go_enter Try.func61, Try.ntmps61
  go_wp2_with fail
  refine (eqLsa_at l _ _ _ _ _ _ A B A' B' n c m d c' d' _ HA.out HC.out hn hm).mono ?_
  rintro e w1 ⟨rfl, hb⟩
  have HB1 := Lib.hid (below_step HB.out hb)
  clear hb
  go_wp2
  go_ret
  exact ⟨rfl, HB1.out⟩

set_option maxRecDepth 100000 in
set_option maxHeartbeats 1600000 in
theorem markLsaResult_two (r : Int) (l : LsaM) (lo hi : Nat) (A B : Option Addr) (n c m d : Nat) (k0 : Int) (w : World) (ha : LsaTwo lo hi w A n B m l) (hn : n ≤ 1048576) (hm : m ≤ 1048576) (h0 : 0 ≤ k0) (h1 : k0 ≤ 1048576) :
    Calls Try.prog 63 #[.agg (resCells r l A B n c m d), .int .i64 k0] w fun e w' => e = .returned (.int .i64 (k0 + 4 * n + m)) ∧ LsaTwo lo hi w' A n B m (mLsa l k0) ∧ Only lo hi w w' := by
  have hV : Below w.heap.size w (w.alloc (.cells (resCells r l A B n c m d) 95)) := (Below.refl _ _).alloc (Nat.le_refl _) _
  have HA := Lib.hid (ha.below hV)
  have HB := Lib.hid (Only.of_below hV lo hi)
  clear ha hV
  go_enter Try.func63, Try.ntmps63
  go_wp2_with fail
  refine (markLsa_two l lo hi A B n c m d k0 _ HA.out hn hm h0 h1).mono ?_
  rintro e w1 ⟨rfl, hs, ho⟩
  have HS := Lib.hid hs
  have HB1 := Lib.hid (HB.out.trans ho)
  clear ho hs
  go_wp2
  go_ret
  exact ⟨rfl, HS.out, HB1.out⟩

set_option maxRecDepth 100000 in
set_option maxHeartbeats 1600000 in
theorem heldLsaResult_yes (r : Int) (l : LsaM) (q : Bool) (lo hi : Nat) (A B : Option Addr) (n c m d : Nat) (k0 : Int) (w : World) (ha : LsaAt q lo hi w A n B m (mLsa l k0)) (hn : n ≤ 1048576) (hm : m ≤ 1048576) (h0 : 0 ≤ k0) (h1 : k0 ≤ 1048576) (hq : l.links.length = n ∧ l.routers.length = m) :
    Calls Try.prog 64 #[.agg (resCells r l A B n c m d), .int .i64 k0] w fun e w' => e = .returned (.int .i64 (k0 + 4 * n + m)) ∧ Below w.heap.size w w' := by
  have hV : Below w.heap.size w (w.alloc (.cells (resCells r l A B n c m d) 95)) := (Below.refl _ _).alloc (Nat.le_refl _) _
  have HA := Lib.hid (ha.below hV)
  have HB := Lib.hid hV
  have HQ := Lib.hid hq
  have g2 : ¬ (k0 + 4 * (n : Int) + m < 0) := by omega
  clear ha hV hq
  go_enter Try.func64, Try.ntmps64
  go_wp2_with fail
  refine (heldLsa_yes l q lo hi A B n c m d k0 _ HA.out hn hm h0 h1 HQ.out).mono ?_
  rintro e w1 ⟨rfl, hb⟩
  have HB1 := Lib.hid (below_step HB.out hb)
  clear hb
  go_wp2
  go_ret
  exact ⟨rfl, HB1.out⟩

end Go.Proofs.Ytakplomopbnekaa
