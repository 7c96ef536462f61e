/-
  Slices of slices of timers in the laws: how many there are, like ones, marks and how they are found again. No statement is proved here.
-/
import Derived.Test.YtakplomopbnekaaTimerMark
namespace Go.Proofs.Ytakplomopbnekaa
open Go.RowKit
set_option linter.unusedVariables false

/-- How many items there are in all. -/
def tot {α : Type} (ys : List (List α)) : Nat := (ys.map List.length).sum
theorem tot_take {α : Type} (ys : List (List α)) (k : Nat) (y : List α) (h : ys[k]? = some y) : tot (ys.take (k + 1)) = tot (ys.take k) + y.length := by
  have hk := (List.getElem?_eq_some_iff.1 h).1
  have hy := (List.getElem?_eq_some_iff.1 h).2
  rw [List.take_succ_eq_append_getElem hk, hy]
  simp [tot]
theorem tot_le {α : Type} (ys : List (List α)) (k : Nat) : tot (ys.take k) ≤ tot ys := by
  have : tot ys = tot (ys.take k) + tot (ys.drop k) := by
    unfold tot
    rw [← List.sum_append, ← List.map_append, List.take_append_drop]
  omega
theorem tot_at {α : Type} (ys : List (List α)) (k : Nat) (y : List α) (h : ys[k]? = some y) : tot (ys.take k) + y.length ≤ tot ys := by
  rw [← tot_take ys k y h]; exact tot_le _ _
theorem tot_all {α : Type} (ys : List (List α)) (k : Nat) (h : ys.length ≤ k) : tot (ys.take k) = tot ys := by rw [List.take_of_length_le h]

/-- What szTimerSS answers. -/
def szRows {α : Type} : Int → List (List α) → Int
  | left, [] => left
  | left, y :: t => if left - y.length < 0 then -1 else szRows (left - y.length) t
def szSS {α : Type} (left : Int) (ys : List (List α)) : Int := if left - ys.length < 0 then -1 else szRows (left - ys.length) ys
theorem szRows_nonneg {α : Type} : ∀ (ys : List (List α)) (left : Int), 0 ≤ left → 0 ≤ szRows left ys → szRows left ys = left - tot ys
  | [], left, _, _ => by simp [szRows, tot]
  | y :: t, left, h0, h => by
    unfold szRows at h ⊢
    split at h
    · omega
    · rename_i h1
      rw [if_neg h1, szRows_nonneg t _ (by omega) h]
      simp only [tot, List.map_cons, List.sum_cons]
      omega
theorem szSS_nonneg {α : Type} {ys : List (List α)} {left : Int} (h0 : 0 ≤ left) (h : 0 ≤ szSS left ys) : szSS left ys = left - ys.length - tot ys := by
  unfold szSS at h ⊢
  split at h
  · omega
  · rename_i h1
    rw [if_neg h1, szRows_nonneg _ _ (by omega) h]
theorem szRows_drop {α : Type} (left : Int) (ys : List (List α)) (k : Nat) (y : List α) (h : ys[k]? = some y) : szRows left (ys.drop k) = if left - y.length < 0 then -1 else szRows (left - y.length) (ys.drop (k + 1)) := by
  have hk := (List.getElem?_eq_some_iff.1 h).1
  rw [List.drop_eq_getElem_cons hk, (List.getElem?_eq_some_iff.1 h).2]
  rfl

theorem szTimerS_any (A : Option Addr) (n c : Nat) (left : Int) (w : World) (h0 : 0 ≤ left) (h1 : left ≤ 1048576) (hn : n ≤ maxLen) :
    Calls Try.prog 136 #[.slice A n c, .int .i64 left] w fun e w' => e = .returned (.int .i64 (if left - n < 0 then -1 else left - n)) ∧ w' = w := by
  unfold maxLen at hn
  by_cases h : left - n < 0
  · rw [if_pos h]
    go_enter Try.func136, Try.ntmps136
    go_wp2
    go_ret
    exact ⟨rfl, rfl⟩
  · rw [if_neg h]
    go_enter Try.func136, Try.ntmps136
    go_wp2
    go_ret
    exact ⟨rfl, rfl⟩

set_option maxHeartbeats 1600000 in
theorem szTimerSS_any (q : Bool) (lo hi : Nat) (A : Option Addr) (n c : Nat) (ys : List (List Tmr)) (left : Int) (w : World) (ha : Rep.timer.rows.Sl q lo hi w A n ys) (hn : n ≤ maxLen) (hm : ∀ y ∈ ys, y.length ≤ maxLen) (h0 : 0 ≤ left) (h1 : left ≤ 1048576) :
    Calls Try.prog 100 #[.slice A n c, .int .i64 left] w fun e w' => e = .returned (.int .i64 (szSS left ys)) ∧ w' = w := by
  have hlen := ha.1
  by_cases hs : left - n < 0
  · have HR : Hid (szSS left ys = -1) := Lib.hid (by unfold szSS; rw [hlen, if_pos hs])
    unfold maxLen at hn
    go_enter Try.func100, Try.ntmps100
    go_wp2
    go_ret
    exact ⟨by rw [HR.out]; rfl, rfl⟩
  · have HR : Hid (szSS left ys = szRows (left - n) ys) := Lib.hid (by unfold szSS; rw [hlen, if_neg hs])
    have HM := Lib.hid hm
    have hn' : n ≤ 1048576 := by omega
    have hs' : 0 ≤ left - n := by omega
    clear hm hn
    go_enter Try.func100, Try.ntmps100
    go_wp2
    go_loop [5, 1] (fun i q => ∃ k : Nat, k ≤ n ∧ i = .int .i64 k ∧ ∃ cur : Int, q = .int .i64 cur ∧ 0 ≤ cur ∧ cur ≤ left ∧ Hid (szRows (left - n) ys = szRows cur (ys.drop k))) (fun i _ => n - (intOf i).toNat)
    case atStart => exact ⟨0, Nat.zero_le _, rfl, _, rfl, hs', by omega, rfl⟩
    case round =>
      obtain ⟨k, hk, rfl, cur, rfl, hc0, hc1, HC⟩ := hrel
      by_cases hlt : k < n
      · obtain ⟨b, o, y, E, m, c', rfl, hya, ce, hy⟩ := Rep.rows_at ha hlt
        have hlt' : (k : Int) < n := by omega
        have hym := HM.out y (List.mem_of_getElem? hya)
        have hml : y.length = m := hy.1
        have hd := szRows_drop cur ys k y hya
        rw [hml] at hd hym
        clear hya hy hml
        by_cases hz : cur - m < 0
        · rw [if_pos hz] at hd
          have HD := Lib.hid hd
          clear hd
          go_wp2_with fail
          refine (szTimerS_any E m c' cur _ hc0 (by omega) hym).mono ?_
          rw [if_pos hz]
          rintro e w2 ⟨rfl, rfl⟩
          go_wp2
          go_ret
          exact ⟨by rw [HR.out, HC.out, HD.out]; rfl, rfl⟩
        · rw [if_neg hz] at hd
          have HD := Lib.hid hd
          clear hd
          have hz' : 0 ≤ cur - m := by omega
          go_wp2_with fail
          refine (szTimerS_any E m c' cur _ hc0 (by omega) hym).mono ?_
          rw [if_neg (show ¬ (cur - (m : Int) < 0) by omega)]
          rintro e w2 ⟨rfl, rfl⟩
          go_wp2
          go_round
          case rel => exact ⟨k + 1, by omega, by go_num, _, rfl, hz', by omega, Lib.hid (HC.out.trans HD.out)⟩
          case measure => simp [intOf]; omega
      · have HE : Hid (szRows cur (ys.drop k) = cur) := Lib.hid (by rw [List.drop_eq_nil_of_le (by omega)]; rfl)
        go_wp2
        go_ret
        exact ⟨by rw [HR.out, HC.out, HE.out]; rfl, rfl⟩

set_option maxHeartbeats 1600000 in
theorem eqTimerSS_yes (q1 q2 : Bool) (l1 h1 l2 h2 : Nat) (A B : Option Addr) (n c d : Nat) (ys : List (List Tmr)) (w : World) (ha : Rep.timer.rows.Sl q1 l1 h1 w A n ys) (hb : Rep.timer.rows.Sl q2 l2 h2 w B n ys) (hh1 : h1 ≤ w.heap.size) (hh2 : h2 ≤ w.heap.size) (hn : n ≤ 1048576) (hm : ∀ y ∈ ys, y.length ≤ 1048576) :
    Calls Try.prog 103 #[.slice A n c, .slice B n d] w fun e w' => e = .returned (.bool true) ∧ Below w.heap.size w w' := by
  have HM := Lib.hid hm
  clear hm
  go_enter Try.func103, Try.ntmps103
  go_wp2
  go_loopw [5] (fun i wr => ∃ k : Nat, k ≤ n ∧ i = .int .i64 k ∧ Hid (Below w.heap.size w wr)) (fun i _ => n - (intOf i).toNat)
  case atStart => exact ⟨0, Nat.zero_le _, rfl, Below.refl _ _⟩
  case round =>
    obtain ⟨k, hk, rfl, HB⟩ := hrel
    by_cases hlt : k < n
    · obtain ⟨b, o, y, E, m, c1, rfl, hya, ce, hy⟩ := Rep.rows_at (ha.below HB.out hh1) hlt
      obtain ⟨b', o', y', E', m', c2, rfl, hya', ce', hy'⟩ := Rep.rows_at (hb.below HB.out hh2) hlt
      obtain rfl : y' = y := by rw [hya] at hya'; injection hya' with e; exact e.symm
      obtain rfl : m' = m := by rw [← hy.1, ← hy'.1]
      have hlt' : (k : Int) < n := by omega
      have hym : m' ≤ 1048576 := by have := HM.out y' (List.mem_of_getElem? hya); have := hy.1; omega
      have HY1 : Kept l1 h1 (SlK Rep.timer q1 l1 h1 E m' y') wr := Rep.Sl.kept hy (Nat.le_trans hh1 HB.out.size)
      have HY2 : Kept l2 h2 (SlK Rep.timer q2 l2 h2 E' m' y') wr := Rep.Sl.kept hy' (Nat.le_trans hh2 HB.out.size)
      clear hya hya' hy hy'
      have SB : Hid (∀ W, Hid (Below wr.heap.size wr W) → (fun W => W.cell? ⟨b, o + k, none⟩ = some (.slice E m' c1) ∧ W.cell? ⟨b', o' + k, none⟩ = some (.slice E' m' c2)) W) := fun W h => ⟨(h.out.cell (World.block_lt_of_cell? wr _ ce)).trans ce, (h.out.cell (World.block_lt_of_cell? wr _ ce')).trans ce'⟩
      have V0 : Hid (Below wr.heap.size wr wr.drew) := (Below.refl _ _).drew
      clear ce ce'
      go_wp2
      go_region_held3 (fun W => W.cell? ⟨b, o + k, none⟩ = some (.slice E m' c1) ∧ W.cell? ⟨b', o' + k, none⟩ = some (.slice E' m' c2)) (exact SB.out _ (by assumption))
        (first | (go_at_call 102; refine (eqTimerS_yes q1 q2 l1 h1 l2 h2 E E' m' c1 c2 y' _ (HY1.below V0.out).sl (HY2.below V0.out).sl (HY1.below V0.out).le (HY2.below V0.out).le hym).mono ?_; rintro e u ⟨rfl, hbu⟩; have U0 := Lib.hid (below_step V0.out hbu); clear hbu))
      have HU := Lib.hid (below_step HB.out U0.out)
      clear SB V0 U0 HB
      go_wp2
      go_roundw
      case rel => exact ⟨k + 1, by omega, by go_num, HU⟩
      case measure => simp [intOf]; omega
    · go_wp2
      go_ret
      exact ⟨rfl, HB.out⟩

/-- The rows bear marks. -/
def Marked (k0 : Int) (ys zs : List (List Tmr)) : Prop := zs.length = ys.length ∧ ∀ j y, ys[j]? = some y → zs[j]? = some (mTimers (k0 + 4 * (tot (ys.take j) : Int)) y.length)
theorem Marked.lens {k0 : Int} {ys zs : List (List Tmr)} (h : Marked k0 ys zs) {k : Nat} {z : List Tmr} (hz : zs[k]? = some z) : ∃ y, ys[k]? = some y ∧ z = mTimers (k0 + 4 * (tot (ys.take k) : Int)) y.length ∧ z.length = y.length := by
  have hk := (List.getElem?_eq_some_iff.1 hz).1
  have hk' : k < ys.length := by rw [← h.1]; exact hk
  have := h.2 k ys[k] (List.getElem?_eq_getElem hk')
  rw [hz] at this
  injection this with this
  exact ⟨ys[k], List.getElem?_eq_getElem hk', this, by rw [this, mTimers_len]⟩

theorem markTimerS_F (A : Option Addr) (n c : Nat) (ys : List Tmr) (bs : List Nat) (k0 : Int) (w : World) (ha : Rep.timer.FSl w A n ys bs) (hn : n ≤ 1048576) (h0 : 0 ≤ k0) (h1 : k0 ≤ 4294967296) :
    Calls Try.prog 105 #[.slice A n c, .int .i64 k0] w fun e w' => e = .returned (.int .i64 (k0 + 4 * n)) ∧ Rep.timer.FSl w' A n (mTimers k0 n) bs ∧ OnlyB bs w w' := by
  rcases ha with ⟨rfl, rfl, rfl⟩ | ⟨hp, b, rfl, hs⟩
  · refine (markTimerS_any 0 0 A 0 c [] k0 w (Rep.Sl_nil _ _ _ _ _ _) hn h0 h1).mono ?_
    rintro e w2 ⟨rfl, _, ho, _⟩
    exact ⟨rfl, .inl ⟨rfl, rfl, rfl⟩, OnlyB.of_same ho⟩
  · refine (markTimerS_any b (b + 1) A n c ys k0 w hs hn h0 h1).mono ?_
    rintro e w2 ⟨rfl, h2, ho, _⟩
    exact ⟨rfl, .inr ⟨hp, b, rfl, h2⟩, OnlyB.of_only ho (by simp)⟩

set_option maxHeartbeats 1600000 in
theorem markTimerSS_any (A : Option Addr) (n c : Nat) (ys : List (List Tmr)) (bs : List Nat) (k0 : Int) (w : World) (ha : Rep.timer.FRows w A n ys bs) (hd : bs.Nodup) (hb : ∀ b ∈ bs, b < w.heap.size) (hn : n ≤ 1048576) (ht : tot ys ≤ 1048576) (h0 : 0 ≤ k0) (h1 : k0 ≤ 1048576) :
    Calls Try.prog 104 #[.slice A n c, .int .i64 k0] w fun e w' => e = .returned (.int .i64 (k0 + 4 * (tot ys : Int))) ∧ (∃ zs, Marked k0 ys zs ∧ Rep.timer.FRows w' A n zs bs) ∧ OnlyB bs w w' := by
  have HT := Lib.hid ht
  have hl := ha.1
  have HBB := Lib.hid hb
  clear ht hb
  go_enter Try.func104, Try.ntmps104
  go_wp2
  go_loopw [5, 1] (fun i q wr => ∃ k : Nat, k ≤ n ∧ i = .int .i64 k ∧ q = .int .i64 (k0 + 4 * (tot (ys.take k) : Int)) ∧ Hid (OnlyB bs w wr) ∧
      Hid (∃ zs : List (List Tmr), Rep.timer.FRows wr A n zs bs ∧ ∀ (j : Nat) (y : List Tmr), ys[j]? = some y → zs[j]? = some (if j < k then mTimers (k0 + 4 * (tot (ys.take j) : Int)) y.length else y)))
    (fun i _ _ => n - (intOf i).toNat)
  case atStart => exact ⟨0, Nat.zero_le _, rfl, by simp [tot], OnlyB.refl _ _, ys, ha, fun j y hy => by simpa using hy⟩
  case round =>
    obtain ⟨k, hk, rfl, hq, HO, HZ⟩ := hrel
    have htk : tot (ys.take k) ≤ 1048576 := Nat.le_trans (tot_le ys k) HT.out
    by_cases hlt : k < n
    · have hlt' : (k : Int) < n := by omega
      have hzz := HZ.out
      obtain ⟨zs, hz, hzs⟩ := hzz
      have hyk := List.getElem?_eq_getElem (show k < ys.length by omega)
      obtain ⟨y, hy⟩ : ∃ y, ys[k] = y := ⟨_, rfl⟩
      rw [hy] at hyk
      have hzk := hzs k y hyk
      rw [if_neg (by omega)] at hzk
      have hzl : zs.length = n := hz.1
      obtain ⟨b, o, z, E, m, c', f, rfl, hbm, hbf, hzk', ce, hs, hfs, hup⟩ := hz.at_ hd hlt
      obtain rfl : z = y := by rw [hzk] at hzk'; injection hzk' with e; exact e.symm
      have hml : z.length = m := hs.len
      have hat := tot_at ys k z hyk
      have hmt : tot (ys.take k) + m ≤ 1048576 := by have := HT.out; omega
      obtain ⟨t, ht⟩ : ∃ t, tot (ys.take k) = t := ⟨_, rfl⟩
      have HTT := Lib.hid ht
      rw [ht] at hq htk hmt
      have HUP := Lib.hid hup
      have HS := Lib.hid hs
      have HY := Lib.hid hyk
      have HZS := Lib.hid hzs
      have HF := Lib.hid hfs
      have HML := Lib.hid (And.intro hml hzl)
      clear hup hs hyk hzs hzk hzk' hfs hat ht hy hz HZ hml hbm hbf hzl
      subst hq
      go_wp2_with fail
      refine (markTimerS_F E m c' z f (k0 + 4 * (t : Int)) _ HS.out (by omega) (by omega) (by omega)).mono ?_
      rintro e w2 ⟨rfl, hs2, ho⟩
      have HO2 := Lib.hid (HO.out.trans (show OnlyB bs wr w2 from ⟨ho.os, ho.tape, ho.output, ho.size, fun x hx hn => ho.block x hx (fun h => hn (HF.out x h))⟩))
      have HR := Lib.hid (HUP.out w2 _ (fun x hx hn => ho.block x (Nat.lt_of_lt_of_le (HBB.out x hx) HO.out.size) hn) hs2)
      clear ho hs2
      go_wp2
      go_roundw
      case rel =>
        refine ⟨k + 1, by omega, by go_num, by rw [tot_take ys k z HY.out, HTT.out, HML.out.1]; go_num, HO2, _, HR.out, fun j y hy => ?_⟩
        by_cases e : j = k
        · subst e
          rw [List.getElem?_set_self (by have := HML.out.2; omega), if_pos (by omega)]
          rw [HY.out] at hy
          injection hy with hy
          subst hy
          rw [HTT.out, HML.out.1]
        · rw [List.getElem?_set_ne (fun h => e h.symm), HZS.out j y hy]
          by_cases hj : j < k
          · rw [if_pos hj, if_pos (by omega)]
          · rw [if_neg hj, if_neg (by omega)]
      case measure => simp [intOf]; omega
    · have hkn : k = n := by omega
      subst hkn
      have HT2 := Lib.hid (tot_all ys k (by omega))
      subst hq
      rw [HT2.out] at htk ⊢
      go_wp2
      go_ret
      obtain ⟨zs, hz, hzs⟩ := HZ.out
      exact ⟨rfl, ⟨zs, ⟨by rw [hz.1, hl], fun j y hy => by rw [hzs j y hy, if_pos (by have := (List.getElem?_eq_some_iff.1 hy).1; omega)]⟩, hz⟩, HO.out⟩

set_option maxHeartbeats 1600000 in
theorem heldTimerSS_yes (q : Bool) (lo hi : Nat) (A : Option Addr) (n c : Nat) (ys zs : List (List Tmr)) (k0 : Int) (w : World) (hz : Marked k0 ys zs) (ha : Rep.timer.rows.Sl q lo hi w A n zs) (hn : n ≤ 1048576) (ht : tot ys ≤ 1048576) (h0 : 0 ≤ k0) (h1 : k0 ≤ 1048576) :
    Calls Try.prog 139 #[.slice A n c, .int .i64 k0] w fun e w' => e = .returned (.int .i64 (k0 + 4 * (tot ys : Int))) ∧ w' = w := by
  have HT := Lib.hid ht
  have HZ := Lib.hid hz
  have hl := ha.1
  have hl2 := hz.1
  clear ht hz
  go_enter Try.func139, Try.ntmps139
  go_wp2
  go_loop [5, 1] (fun i q => ∃ k : Nat, k ≤ n ∧ i = .int .i64 k ∧ q = .int .i64 (k0 + 4 * (tot (ys.take k) : Int))) (fun i _ => n - (intOf i).toNat)
  case atStart => exact ⟨0, Nat.zero_le _, rfl, by simp [tot]⟩
  case round =>
    obtain ⟨k, hk, rfl, hq⟩ := hrel
    have htk : tot (ys.take k) ≤ 1048576 := Nat.le_trans (tot_le ys k) HT.out
    by_cases hlt : k < n
    · obtain ⟨b, o, z, E, m, c', rfl, hza, ce, hs⟩ := Rep.rows_at ha hlt
      have hlt' : (k : Int) < n := by omega
      obtain ⟨y, hyk, hze, hzl⟩ := HZ.out.lens hza
      have hml : z.length = m := hs.1
      have hat := tot_at ys k y hyk
      have hmt : tot (ys.take k) + m ≤ 1048576 := by have := HT.out; omega
      have hne : ¬ (k0 + 4 * ((tot (ys.take k) : Nat) : Int) + 4 * (m : Int) < 0) := by omega
      rw [show y.length = m by omega] at hze
      obtain ⟨t, ht⟩ : ∃ t, tot (ys.take k) = t := ⟨_, rfl⟩
      have HTT := Lib.hid ht
      rw [ht] at hq htk hmt hne hze
      have HS := Lib.hid hs
      have HY := Lib.hid hyk
      have HML := Lib.hid (show y.length = m by omega)
      have HE := Lib.hid hze
      clear hs hyk hza hat ht hml hze hzl
      subst hq
      have hs2 : Rep.timer.Sl q lo hi w E m (mTimers (k0 + 4 * (t : Int)) m) := by rw [← HE.out]; exact HS.out
      have HS2 := Lib.hid hs2
      clear hs2 HS
      go_wp2_with fail
      refine (heldTimerS_yes q lo hi E m c' (k0 + 4 * (t : Int)) _ HS2.out (by omega) (by omega) (by omega)).mono ?_
      rintro e w2 ⟨rfl, rfl⟩
      go_wp2
      go_round
      case rel => exact ⟨k + 1, by omega, by go_num, by rw [tot_take ys k y HY.out, HTT.out, HML.out]; go_num⟩
      case measure => simp [intOf]; omega
    · have hkn : k = n := by omega
      subst hkn
      have HT2 := Lib.hid (tot_all ys k (by omega))
      subst hq
      rw [HT2.out] at htk ⊢
      go_wp2
      go_ret
      exact ⟨rfl, rfl⟩

end Go.Proofs.Ytakplomopbnekaa
