/-
  The model's l4All, l4Find, l4Slot and WheelFault. No statement is proved here.
-/
import Derived.Test.YtakplomopbnekaaWheelFault
namespace Go.Proofs.Ytakplomopbnekaa
open Go.RowKit Go.Shelf
set_option linter.unusedVariables false

theorem eql_keyT (a b : Tmr) (W : World) : (binOp .eql 34 (.agg #[.int .i64 a.typ, .int .i64 a.id, .int .i64 a.adv]) (.agg #[.int .i64 b.typ, .int .i64 b.id, .int .i64 b.adv])).run Try.prog W = .ok (.bool (keyT a b)) W := by
  by_cases h1 : a.typ = b.typ <;> by_cases h2 : a.id = b.id <;> by_cases h3 : a.adv = b.adv <;> simp [go_sem, keyT, h1, h2, h3]
theorem neq_keyT (a b : Tmr) (W : World) : (binOp .neq 34 (.agg #[.int .i64 a.typ, .int .i64 a.id, .int .i64 a.adv]) (.agg #[.int .i64 b.typ, .int .i64 b.id, .int .i64 b.adv])).run Try.prog W = .ok (.bool (!keyT a b)) W := by
  by_cases h1 : a.typ = b.typ <;> by_cases h2 : a.id = b.id <;> by_cases h3 : a.adv = b.adv <;> simp [go_sem, keyT, h1, h2, h3]
attribute [local go_sem high] eql_keyT neq_keyT

theorem flat_take_succ {α : Type} {ys : List (List α)} {k : Nat} {y : List α} (h : ys[k]? = some y) : (ys.take (k + 1)).flatten = (ys.take k).flatten ++ y := by
  have hk := (List.getElem?_eq_some_iff.1 h).1
  rw [List.take_succ_eq_append_getElem hk, (List.getElem?_eq_some_iff.1 h).2]
  simp
theorem flat_tot {α : Type} (ys : List (List α)) : ys.flatten.length = tot ys := by simp [tot]

set_option maxHeartbeats 1600000 in
theorem l4All_any (q : Bool) (lo hi g : Nat) (A : Option Addr) (n c : Nat) (now : Int) (ys : List (List Tmr)) (w : World) (hg : Box w g 26 #[.int .i64 now, .slice A n c]) (ha : Rep.timer.rows.Sl q lo hi w A n ys) (hh : hi ≤ w.heap.size) (hn : n ≤ 1048576) (ht : tot ys ≤ 1048576) :
    Calls Try.prog 78 #[.pointer (some ⟨g, 0, none⟩)] w fun e w' => ∃ E m d, e = .returned (.slice E m d) ∧ OwnF 36 4 tcell w' w.heap.size E m d ys.flatten ∧ Below w.heap.size w w' := by
  have HA := Rep.Sl.kept ha hh
  have HG := Lib.hid hg
  have HT := Lib.hid ht
  have hl := ha.1
  have hgl := hg.lt
  have HE := Lib.hid (emptyF 36 4 tcell w)
  have HB0 : Hid (Below w.heap.size w (w.alloc (.cells #[] 36))) := Lib.hid ((Below.refl _ _).alloc (Nat.le_refl _) _)
  clear ha hg ht
  go_enter Try.func78, Try.ntmps78
  go_wp2
  go_loopw [4, 3] (fun i v wr => ∃ k : Nat, k ≤ n ∧ i = .int .i64 k ∧ Hid (Below w.heap.size w wr) ∧ ∃ E m d, v = .slice E m d ∧ Hid (OwnF 36 4 tcell wr w.heap.size E m d (ys.take k).flatten)) (fun i _ _ => n - (intOf i).toNat)
  case atStart => exact ⟨0, Nat.zero_le _, rfl, HB0, _, _, _, rfl, HE⟩
  case round =>
    obtain ⟨k, hk, rfl, HB, E, m, d, rfl, HO⟩ := hrel
    have hG := HG.out.below HB.out
    have c1 := hG.look 1
    have hgl' := hG.lt
    by_cases hlt : k < n
    · obtain ⟨b, o, y, F, m', c', rfl, hya, ce, hy⟩ := Rep.rows_at (HA.below HB.out).sl hlt
      have hlt' : (k : Int) < n := by omega
      have hml : y.length = m' := hy.1
      have hmm : m + m' ≤ 1048576 := by
        have h1 := HO.out.1
        rw [flat_tot] at h1
        have := tot_at ys k y hya
        have := HT.out
        omega
      have HY := Lib.hid hya
      have HI := Lib.hid (Rep.timer_inF hy)
      clear hya hy
      go_wp2_with (at_builtin; refine wpList_appF0 tcell_len tcell_one Try.underlying29 timerInfo rfl (by decide) (by decide) rfl (.tmp 15) (.tmp 22) rfl (B := w.heap.size) rfl HO.out rfl HI.out hmm HB.out.size ?_; intro A' c1' w1 ho1 hg1)
      go_roundw
      case rel =>
        refine ⟨k + 1, by omega, by go_num, HB.out.grown hg1 HB.out.size (fun r e => (HO.out.block r e).1), _, _, _, rfl, ?_⟩
        rw [flat_take_succ HY.out]
        exact ho1
      case measure => simp [intOf]; omega
    · have hkn : k = n := by omega
      have HF := Lib.hid HO.out
      go_wp2
      go_ret
      refine ⟨E, m, d, rfl, ?_, HB.out⟩
      have := HO.out
      rwa [List.take_of_length_le (by omega)] at this

/-- What l4Find answers. -/
def findV (ts : List Tmr) (k : Tmr) : Int := if ts.any (fun t => keyT t k) = true then ((ts.findIdx fun t => keyT t k : Nat) : Int) else -1
theorem findIdx_at {ts : List Tmr} {k : Tmr} {j : Nat} {t : Tmr} (ht : ts[j]? = some t) (hk : keyT t k = true) (hn : ∀ i u, i < j → ts[i]? = some u → keyT u k = false) : findV ts k = j := by
  have hj := (List.getElem?_eq_some_iff.1 ht).1
  have he := (List.getElem?_eq_some_iff.1 ht).2
  have hany : ts.any (fun t => keyT t k) = true := List.any_eq_true.2 ⟨t, List.mem_of_getElem? ht, hk⟩
  unfold findV
  rw [if_pos hany]
  congr 1
  refine (List.findIdx_eq hj).2 ⟨by rw [he]; exact hk, fun i hi => ?_⟩
  have := hn i ts[i] hi (List.getElem?_eq_getElem (by omega))
  simpa using this
theorem find_none {ts : List Tmr} {k : Tmr} (hn : ∀ (i : Nat) u, ts[i]? = some u → keyT u k = false) : findV ts k = -1 := by
  unfold findV
  rw [if_neg]
  intro h
  obtain ⟨t, ht, hk⟩ := List.any_eq_true.1 h
  obtain ⟨i, hi, rfl⟩ := List.getElem_of_mem ht
  rw [hn i _ (List.getElem?_eq_getElem hi)] at hk
  cases hk

set_option maxHeartbeats 1600000 in
theorem l4Find_any (q : Bool) (lo hi : Nat) (A : Option Addr) (n c : Nat) (ts : List Tmr) (k : Tmr) (w : World) (ha : Rep.timer.Sl q lo hi w A n ts) (hh : hi ≤ w.heap.size) (hn : n ≤ 1048576) :
    Calls Try.prog 86 #[.slice A n c, .agg #[.int .i64 k.typ, .int .i64 k.id, .int .i64 k.adv]] w fun e w' => e = .returned (.int .i64 (findV ts k)) ∧ Below w.heap.size w w' := by
  obtain ⟨V, hV⟩ : ∃ V : World, V = w.alloc (.cells #[.int .i64 k.typ, .int .i64 k.id, .int .i64 k.adv] 34) := ⟨_, rfl⟩
  have hbV : Below w.heap.size w V := by rw [hV]; exact (Below.refl _ _).alloc (Nat.le_refl _) _
  have HB := Lib.hid hbV
  have HX := Lib.hid (show Box V w.heap.size 34 #[.int .i64 k.typ, .int .i64 k.id, .int .i64 k.adv] by rw [hV]; exact Box.made _ _ _)
  have HA := Lib.hid (ha.below hbV hh)
  have hl := ha.1
  have c0 := HX.out.look 0
  have c1 := HX.out.look 1
  have c2 := HX.out.look 2
  clear ha hbV
  go_enter Try.func86, Try.ntmps86
  go_wp2
  rw [← hV]
  clear hV
  go_loopw [5] (fun i wr => ∃ j : Nat, j ≤ n ∧ i = .int .i64 j ∧ Hid (∀ i u, i < j → ts[i]? = some u → keyT u k = false) ∧ ∃ d, wr = V.drewN d) (fun i _ => n - (intOf i).toNat)
  case atStart => exact ⟨0, Nat.zero_le _, rfl, fun i u hi => absurd hi (by omega), 0, rfl⟩
  case round =>
    obtain ⟨j, hj, rfl, HN, d, rfl⟩ := hrel
    by_cases hlt : j < n
    · obtain ⟨b, o, t, rfl, hya, a0, a1, a2, a3⟩ := Rep.timer_at HA.out hlt
      have hlt' : (j : Int) < n := by omega
      by_cases hkt : keyT t k = true
      · have HF := Lib.hid (findIdx_at hya hkt HN.out)
        clear hya
        go_wp2
        go_quiet (fail)
        go_wp2
        go_ret
        exact ⟨by rw [HF.out]; rfl, below_drewN (below_drewN HB.out _) _⟩
      · have hkf : keyT t k = false := by simpa using hkt
        have HY := Lib.hid (And.intro hya hkf)
        clear hya hkt
        go_wp2
        go_quiet (fail)
        go_wp2
        go_roundw
        case rel => exact ⟨j + 1, by omega, by go_num, fun i u hi hu => by
          rcases Nat.lt_succ_iff_lt_or_eq.1 hi with h | rfl
          · exact HN.out i u h hu
          · have := HY.out.1; rw [hu] at this; injection this with this; subst this; exact HY.out.2, _, rfl⟩
        case measure => simp [intOf]; omega
    · have HF : Hid (findV ts k = -1) := Lib.hid (find_none fun i u hu => HN.out i u (by have := (List.getElem?_eq_some_iff.1 hu).1; omega) hu)
      go_wp2
      go_ret
      exact ⟨by rw [HF.out]; rfl, below_drewN HB.out _⟩

end Go.Proofs.Ytakplomopbnekaa
