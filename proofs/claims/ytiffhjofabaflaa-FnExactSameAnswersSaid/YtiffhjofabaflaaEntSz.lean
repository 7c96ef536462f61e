/-
  How many numbers entries have in all: szEntry, szEntryS, szBase. No statement is proved here.
-/
import Derived.Test.YtiffhjofabaflaaEnt
import Derived.Test.YtiffhjofabaflaaWheelLaws
namespace Go.Proofs.Ytiffhjofabaflaa
open Go.RowKit
set_option linter.unusedVariables false

/-- As many as an entry's slices have, as a row. -/
def entRow (e : Ent) : List Unit := List.replicate (e.l.links.length + e.l.routers.length) ()
def entRows (es : List Ent) : List (List Unit) := es.map entRow
theorem entRow_len (e : Ent) : (entRow e).length = e.l.links.length + e.l.routers.length := by simp [entRow]
theorem entRows_len (es : List Ent) : (entRows es).length = es.length := by simp [entRows]
theorem entRows_at {es : List Ent} {k : Nat} {e : Ent} (h : es[k]? = some e) : (entRows es)[k]? = some (entRow e) := by simp [entRows, h]
theorem tot_ent {es : List Ent} {k : Nat} {e : Ent} (h : es[k]? = some e) : e.l.links.length + e.l.routers.length ≤ tot (entRows es) := by
  have := tot_at (entRows es) k _ (entRows_at h)
  rw [entRow_len] at this; omega

theorem szEntry_any (l : LsaM) (t : Int) (A B : Option Addr) (n c m d : Nat) (L : Int) (w : World) (hn : n ≤ maxLen) (hm : m ≤ maxLen) (h0 : 0 ≤ L) (h1 : L ≤ 1048576) :
    Calls Try.prog 237 #[.agg (entCells l t A B n c m d), .int .i64 L] w fun e w' => e = .returned (.int .i64 (if L - ((n + m : Nat) : Int) < 0 then -1 else L - ((n + m : Nat) : Int))) ∧ Below w.heap.size w w' := by
  by_cases hz : L - ((n + m : Nat) : Int) < 0
  · rw [if_pos hz]
    go_enter Try.func237, Try.ntmps237
    go_wp2_with fail
    refine (szLsa_no l A B n c m d L _ (by omega) hn hm h0 h1).mono ?_
    rintro e w1 ⟨rfl, hb⟩
    have HB := Lib.hid (below_step ((Below.refl _ _).alloc (Nat.le_refl _) _) hb)
    clear hb
    go_wp2
    go_ret
    exact ⟨rfl, HB.out⟩
  · rw [if_neg hz]
    have hy : (n : Int) + m ≤ L := by omega
    have hr : L - ((n + m : Nat) : Int) = L - n - m := by omega
    have hz2 : 0 ≤ L - (n : Int) - m := by omega
    rw [hr]
    clear hr hz
    go_enter Try.func237, Try.ntmps237
    go_wp2_with fail
    refine (szLsa_yes l A B n c m d L _ hy h1).mono ?_
    rintro e w1 ⟨rfl, hb⟩
    have HB := Lib.hid (below_step ((Below.refl _ _).alloc (Nat.le_refl _) _) hb)
    clear hb
    go_wp2
    go_ret
    exact ⟨rfl, HB.out⟩

set_option maxHeartbeats 1600000 in
theorem szEntryS_any (q : Bool) (lo hi : Nat) (A : Option Addr) (n c : Nat) (ys : List Ent) (left : Int) (w : World) (ha : Rep.ent.Sl q lo hi w A n ys) (hh : hi ≤ w.heap.size) (hn : n ≤ maxLen) (hm : ∀ y ∈ ys, y.l.links.length ≤ maxLen ∧ y.l.routers.length ≤ maxLen) (h0 : 0 ≤ left) (h1 : left ≤ 1048576) :
    Calls Try.prog 211 #[.slice A n c, .int .i64 left] w fun e w' => e = .returned (.int .i64 (szSS left (entRows ys))) ∧ Below w.heap.size w w' := by
  have hlen : (entRows ys).length = n := by rw [entRows_len]; exact ha.1
  by_cases hs : left - n < 0
  · have HR : Hid (szSS left (entRows ys) = -1) := Lib.hid (by unfold szSS; rw [hlen, if_pos hs])
    unfold maxLen at hn
    go_enter Try.func211, Try.ntmps211
    go_wp2
    go_ret
    exact ⟨by rw [HR.out]; rfl, Below.refl _ _⟩
  · have HR : Hid (szSS left (entRows ys) = szRows (left - n) (entRows ys)) := Lib.hid (by unfold szSS; rw [hlen, if_neg hs])
    have HM := Lib.hid hm
    have hn' : n ≤ 1048576 := by omega
    have hs' : 0 ≤ left - n := by omega
    have HLEN := Lib.hid hlen
    have HA := Rep.Sl.kept ha hh
    clear hm hn ha hlen
    go_enter Try.func211, Try.ntmps211
    go_wp2
    go_loopw [5, 1] (fun i q wr => ∃ k : Nat, k ≤ n ∧ i = .int .i64 k ∧ Hid (Below w.heap.size w wr) ∧ ∃ cur : Int, q = .int .i64 cur ∧ 0 ≤ cur ∧ cur ≤ left ∧ Hid (szRows (left - n) (entRows ys) = szRows cur ((entRows ys).drop k))) (fun i _ _ => n - (intOf i).toNat)
    case atStart => exact ⟨0, Nat.zero_le _, rfl, Below.refl _ _, _, rfl, hs', by omega, rfl⟩
    case round =>
      obtain ⟨k, hk, rfl, HB, cur, rfl, hc0, hc1, HC⟩ := hrel
      by_cases hlt : k < n
      · obtain ⟨b, o, y, E, F, m, c1, m', d1, rfl, hya, hyl, a0, a1, a2, a3, a4, a5, a6, a7, a8, a9, a10⟩ := Rep.ent_at (HA.below HB.out).sl hlt
        have hlt' : (k : Int) < n := by omega
        have hym := HM.out y (List.mem_of_getElem? hya)
        have hml : y.l.links.length = m := hyl.links.1
        have hml' : y.l.routers.length = m' := hyl.routers.1
        have hd := szRows_drop cur (entRows ys) k _ (entRows_at hya)
        rw [entRow_len, hml, hml'] at hd
        rw [hml, hml'] at hym
        clear hya hyl hml hml'
        by_cases hz : cur - ((m + m' : Nat) : Int) < 0
        · rw [if_pos hz] at hd
          have HD := Lib.hid hd
          clear hd
          go_wp2_with fail
          refine (szEntry_any y.l y.at_ E F m c1 m' d1 cur _ hym.1 hym.2 hc0 (by omega)).mono ?_
          rw [if_pos hz]
          rintro e w2 ⟨rfl, hb⟩
          have HB2 := Lib.hid (below_step HB.out hb)
          clear hb
          go_wp2
          go_ret
          exact ⟨by rw [HR.out, HC.out, HD.out]; rfl, HB2.out⟩
        · rw [if_neg hz] at hd
          have HD := Lib.hid hd
          clear hd
          have hz' : 0 ≤ cur - ((m + m' : Nat) : Int) := by omega
          obtain ⟨r, hr⟩ : ∃ r, cur - ((m + m' : Nat) : Int) = r := ⟨_, rfl⟩
          rw [hr] at hz'
          have hrl : r ≤ left := by omega
          have HRR := Lib.hid hr
          clear hr
          go_wp2_with fail
          refine (szEntry_any y.l y.at_ E F m c1 m' d1 cur _ hym.1 hym.2 hc0 (by omega)).mono ?_
          rw [HRR.out, if_neg (show ¬ (r < 0) by omega)]
          rintro e w2 ⟨rfl, hb⟩
          have HB2 := Lib.hid (below_step HB.out hb)
          clear hb
          go_wp2
          go_roundw
          case rel => exact ⟨k + 1, by omega, by go_num, HB2, _, rfl, hz', hrl, Lib.hid (by rw [HC.out, HD.out, HRR.out])⟩
          case measure => simp [intOf]; omega
      · have HE : Hid (szRows cur ((entRows ys).drop k) = cur) := Lib.hid (by rw [List.drop_eq_nil_of_le (by have := HLEN.out; omega)]; rfl)
        go_wp2
        go_ret
        exact ⟨by rw [HR.out, HC.out, HE.out]; rfl, HB.out⟩

set_option maxHeartbeats 1600000 in
theorem szBase_any (q : Bool) (lo hi : Nat) (A : Option Addr) (n c : Nat) (ys : List Ent) (now left : Int) (w : World) (ha : Rep.ent.Sl q lo hi w A n ys) (hh : hi ≤ w.heap.size) (hn : n ≤ maxLen) (hm : ∀ y ∈ ys, y.l.links.length ≤ maxLen ∧ y.l.routers.length ≤ maxLen) (h0 : 0 ≤ left) (h1 : left ≤ 1048576) :
    Calls Try.prog 156 #[.agg #[.int .i64 now, .slice A n c], .int .i64 left] w fun e w' => e = .returned (.int .i64 (szSS left (entRows ys))) ∧ Below w.heap.size w w' := by
  have HM := Lib.hid hm
  have HA := Rep.Sl.kept ha hh
  obtain ⟨r, hr⟩ : ∃ r, szSS left (entRows ys) = r := ⟨_, rfl⟩
  have hq := szSS_neg (entRows ys) left
  have HBV : Hid (Below w.heap.size w (w.alloc (.cells #[.int .i64 now, .slice A n c] 115))) := Lib.hid ((Below.refl _ _).alloc (Nat.le_refl _) _)
  rw [hr] at hq ⊢
  have HR := Lib.hid hr
  clear ha hm hr
  by_cases hz : r < 0
  · obtain rfl : r = -1 := hq hz
    clear hq
    go_enter Try.func156, Try.ntmps156
    go_wp2_with fail
    refine (szEntryS_any q lo hi A n c ys left _ (HA.below HBV.out).sl (HA.below HBV.out).le hn HM.out h0 h1).mono ?_
    rw [HR.out]
    rintro e w2 ⟨rfl, hb⟩
    have HB := Lib.hid (below_step HBV.out hb)
    clear hb
    go_wp2
    go_ret
    exact ⟨rfl, HB.out⟩
  · clear hq
    have hz2 : 0 ≤ r := by omega
    go_enter Try.func156, Try.ntmps156
    go_wp2_with fail
    refine (szEntryS_any q lo hi A n c ys left _ (HA.below HBV.out).sl (HA.below HBV.out).le hn HM.out h0 h1).mono ?_
    rw [HR.out]
    rintro e w2 ⟨rfl, hb⟩
    have HB := Lib.hid (below_step HBV.out hb)
    clear hb
    go_wp2
    go_ret
    exact ⟨rfl, HB.out⟩

end Go.Proofs.Ytiffhjofabaflaa
