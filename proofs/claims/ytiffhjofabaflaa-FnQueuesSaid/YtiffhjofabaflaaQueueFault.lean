/-
  The program's QueueFault: revsOf, ofKey, itemsHaveTwins. No statement is proved here.
-/
import Derived.Test.YtiffhjofabaflaaQueueLaws
import Derived.Test.YtiffhjofabaflaaOwnFault
import Derived.Test.YtiffhjofabaflaaTwinB
import Derived.Deep.DeepCutAuto
namespace Go.Proofs.Ytiffhjofabaflaa
open Go.RowKit
set_option linter.unusedVariables false

/-- The Revs of items. -/
def revs (ys : List Tmr) : List Int := ys.map fun a => a.due
theorem revs_take {ys : List Tmr} {k : Nat} {a : Tmr} (h : ys[k]? = some a) : revs (ys.take (k + 1)) = revs (ys.take k) ++ [a.due] := by
  have hk := (List.getElem?_eq_some_iff.1 h).1
  unfold revs
  rw [List.take_succ_eq_append_getElem hk, (List.getElem?_eq_some_iff.1 h).2, List.map_append]
  rfl
theorem revs_len (ys : List Tmr) : (revs ys).length = ys.length := by simp [revs]
/-- What QueueFault answers. -/
def qf (cap : Int) (ys : List Tmr) : Int :=
  if ¬ (1 ≤ cap ∧ cap ≤ 8) then 3 else if cap < ys.length then 2 else if allIn 1 100000 (revs ys) = false then 3 else if ¬ ups (revs ys) then 1 else if twinB ys = true then 8 else 0
theorem Rep.Sl.take {α : Type} {r : Rep α} {q : Bool} {lo hi : Nat} {w : World} {A : Option Addr} {n : Nat} {ys : List α} (h : r.Sl q lo hi w A n ys) {k : Nat} (hk : k ≤ n) : r.Sl q lo hi w A k (ys.take k) :=
  ⟨by rw [List.length_take, h.1]; omega, fun hp => by
    obtain ⟨b, o, e, l, u, f, hr⟩ := h.2 (by omega)
    refine ⟨b, o, e, l, u, f, fun i a ha => hr i a ?_⟩
    have hi := (List.getElem?_eq_some_iff.1 ha).1
    rw [List.length_take] at hi
    rw [List.getElem?_take, if_pos (by omega)] at ha
    exact ha⟩

set_option maxHeartbeats 1600000 in
theorem revsOf_any (q : Bool) (lo hi : Nat) (A : Option Addr) (n c : Nat) (ys : List Tmr) (w : World) (ha : Rep.timer.Sl q lo hi w A n ys) (hh : hi ≤ w.heap.size) (hn : n ≤ 1000000) :
    Calls Try.prog 135 #[.slice A n c] w fun e w' => ∃ B d, e = .returned (.slice B n d) ∧ OwnF 2 1 icell w' w.heap.size B n d (revs ys) ∧ Below w.heap.size w w' := by
  have HA := Rep.Sl.kept ha hh
  have hl := ha.1
  clear ha
  go_enter Try.func135, Try.ntmps135
  go_wp2
  go_loopw [3, 8] (fun s i wr => ∃ (k : Nat) (B : Option Addr) (d : Nat), k ≤ n ∧ i = .int .i64 k ∧ s = .slice B k d ∧ Hid (OwnF 2 1 icell wr w.heap.size B k d (revs (ys.take k))) ∧ Hid (Below w.heap.size w wr)) (fun _ i _ => n - (intOf i).toNat)
  case atStart => exact ⟨0, none, 0, Nat.zero_le _, rfl, rfl, Lib.hid (OwnF.nil_ _ _ _ _ _), Lib.hid (Below.refl _ _)⟩
  case round =>
    obtain ⟨k, B, d, hk, rfl, rfl, HO, HB⟩ := hrel
    by_cases hlt : k < n
    · obtain ⟨b, o, a, rfl, hya, a0, a1, a2, a3⟩ := Rep.timer_at (HA.below HB.out).sl hlt
      have hlt' : (k : Int) < n := by omega
      have HYA := Lib.hid hya
      clear hya
      go_wp2_with (at_builtin; refine wpList_name ?_; intro V hV; have hbV : Below wr.heap.size wr V := (by rw [hV]; exact ((Below.refl _ _).alloc (Nat.le_refl _) _).alloc (by simp) _); have HO2 := Lib.hid (HO.out.below hbV); have HE : Hid (InF 1 icell V (some ⟨wr.heap.size + 1, 0, none⟩) 1 [a.due]) := Lib.hid (by rw [hV]; exact (Box.made_at _ _ _ (by simp)).inF [a.due] rfl); have HBV := Lib.hid (below_step HB.out hbV); clear hV hbV; refine wpList_appF0 icell_len icell_one Try.underlying78 wordInfo rfl (by decide) (by decide) rfl (.tmp 12) (.tmp 15) rfl (B := w.heap.size) rfl HO2.out rfl HE.out (by omega) HBV.out.size ?_; intro B2 d2 w2 ho hg)
      have HO3 := Lib.hid ho
      have HB3 := Lib.hid (HBV.out.grown hg HBV.out.size (fun r hr => (HO2.out.block r hr).1))
      clear ho hg HO2 HE HBV HO HB
      go_wp2
      go_roundw
      case rel => exact ⟨k + 1, B2, d2, by omega, by go_num, rfl, by rw [revs_take HYA.out]; exact HO3, HB3⟩
      case measure => simp [intOf]; omega
    · obtain rfl : k = n := by omega
      have HF : Hid (ys.take k = ys) := Lib.hid (List.take_of_length_le (by omega))
      go_wp2
      go_ret
      exact ⟨B, d, rfl, by have := HO.out; rwa [HF.out] at this, HB.out⟩

/-- A function value that asks for a Key. -/
abbrev ofKeyV (g : Nat) : Value := .func (.func 205) #[] #[.pointer (some ⟨g, 0, none⟩)]
theorem ofKey_any (k : Tmr) (w : World) :
    Calls Try.prog 126 #[.agg #[.int .i64 k.typ, .int .i64 k.id, .int .i64 k.adv]] w fun e w' => e = .returned (ofKeyV w.heap.size) ∧ Kept w.heap.size (w.heap.size + 1) (BoxK w.heap.size 34 #[.int .i64 k.typ, .int .i64 k.id, .int .i64 k.adv]) w' ∧ Below w.heap.size w w' := by
  go_enter Try.func126, Try.ntmps126
  go_wp2
  go_ret
  exact ⟨rfl, Kept.box (Box.made _ _ _), (Below.refl _ _).alloc (Nat.le_refl _) _⟩

section
attribute [local go_sem high] eql_keyT neq_keyT

theorem ofKeyFn_any (t k : Tmr) (g : Nat) (w : World) (hg : Box w g 34 #[.int .i64 k.typ, .int .i64 k.id, .int .i64 k.adv]) :
    Calls Try.prog 205 #[.agg #[.int .i64 t.typ, .int .i64 t.id, .int .i64 t.adv, .int .i64 t.due], .pointer (some ⟨g, 0, none⟩)] w fun e w' => e = .returned (.bool (keyT t k)) ∧ Below w.heap.size w w' := by
  go_enter Try.func205, Try.ntmps205
  go_upto_region 1 with (fail)
  refine Code.wp_name ?_
  intro V hV
  have hB : Below w.heap.size w V := by rw [hV]; exact (Below.refl _ _).alloc (Nat.le_refl _) _
  have hG := hg.below hB
  have hX : Box V w.heap.size 66 #[.int .i64 t.typ, .int .i64 t.id, .int .i64 t.adv, .int .i64 t.due] := by rw [hV]; exact Box.made _ _ _
  have HB := Lib.hid hB
  clear hV hg hB
  have c0 := hG.look 0
  have c1 := hG.look 1
  have c2 := hG.look 2
  have hl := hG.lt
  have d0 := hX.look 0
  have d1 := hX.look 1
  have d2 := hX.look 2
  have hxl := hX.lt
  go_wp2
  go_ret
  exact ⟨rfl, HB.out⟩

set_option maxRecDepth 100000 in
set_option maxHeartbeats 1600000 in
theorem indexKey_any (q : Bool) (lo hi : Nat) (A : Option Addr) (n c : Nat) (ts : List Tmr) (k : Tmr) (g : Nat) (w : World) (ha : Rep.timer.Sl q lo hi w A n ts) (hh : hi ≤ w.heap.size) (hn : n ≤ 1048576) (hg : Box w g 34 #[.int .i64 k.typ, .int .i64 k.id, .int .i64 k.adv]) :
    Calls Try.prog 235 #[.slice A n c, .func (.func 205) #[] #[.pointer (some ⟨g, 0, none⟩)]] w fun e w' => e = .returned (.int .i64 (findV ts k)) ∧ Below w.heap.size w w' := by
  go_enter Try.func235, Try.ntmps235
  have HG := Lib.hid hg
  clear hg
  go_wp2
  go_loopw [8] (fun i wr => ∃ j : Nat, j ≤ n ∧ i = .int .i64 j ∧ Hid (∀ i a, i < j → ts[i]? = some a → keyT a k = false) ∧ Hid (Below w.heap.size w wr)) (fun i _ => n - (intOf i).toNat)
  case atStart => exact ⟨0, Nat.zero_le _, rfl, Lib.hid (fun j a h => absurd h (by omega)), Below.refl _ _⟩
  case round =>
    obtain ⟨j, hj, rfl, HI, HB⟩ := hrel
    by_cases hlt : j < n
    · obtain ⟨b, o, a, rfl, hya, a0, a1, a2, a3⟩ := Rep.timer_at (ha.below HB.out hh) hlt
      have hlt' : (j : Int) < n := by omega
      have HYA := Lib.hid hya
      clear hya
      by_cases hK : keyT a k = true
      · have HF : Hid (findV ts k = j) := Lib.hid (findIdx_at HYA.out hK (fun i u hi hu => HI.out i u hi hu))
        have HR := Lib.hid hK
        clear hK
        go_wp2_with fail
        refine (ofKeyFn_any a k g _ (HG.out.below HB.out)).mono ?_
        rw [HR.out]
        rintro e w2 ⟨rfl, hb⟩
        have HB2 := Lib.hid (below_step HB.out hb)
        clear hb
        go_wp2
        go_ret
        exact ⟨by rw [HF.out]; rfl, HB2.out⟩
      · have HR : Hid (keyT a k = false) := Lib.hid (by simpa using hK)
        clear hK
        go_wp2_with fail
        refine (ofKeyFn_any a k g _ (HG.out.below HB.out)).mono ?_
        rw [HR.out]
        rintro e w2 ⟨rfl, hb⟩
        have HB2 := Lib.hid (below_step HB.out hb)
        clear hb
        go_wp2
        go_roundw
        case rel => exact ⟨j + 1, by omega, by go_num, Lib.hid (fun i a' hi hz => by
          rcases Nat.lt_succ_iff_lt_or_eq.1 hi with h | rfl
          · exact HI.out i a' h hz
          · obtain rfl : a' = a := by have := HYA.out; rw [this] at hz; injection hz with e; exact e.symm
            exact HR.out), HB2⟩
        case measure => simp [intOf]; omega
    · have HF : Hid (findV ts k = -1) := Lib.hid (find_none fun i u hu => HI.out i u (by have := (List.getElem?_eq_some_iff.1 hu).1; have := ha.1; omega) hu)
      clear HI
      go_wp2
      go_ret
      exact ⟨by rw [HF.out]; rfl, HB.out⟩

theorem containsKey_any (q : Bool) (lo hi : Nat) (A : Option Addr) (n c : Nat) (ts : List Tmr) (k : Tmr) (g : Nat) (w : World) (ha : Rep.timer.Sl q lo hi w A n ts) (hh : hi ≤ w.heap.size) (hn : n ≤ 1048576) (hg : Box w g 34 #[.int .i64 k.typ, .int .i64 k.id, .int .i64 k.adv]) :
    Calls Try.prog 207 #[.slice A n c, .func (.func 205) #[] #[.pointer (some ⟨g, 0, none⟩)]] w fun e w' => e = .returned (.bool (ts.any fun t => keyT t k)) ∧ Below w.heap.size w w' := by
  go_enter Try.func207, Try.ntmps207
  obtain ⟨f, hf⟩ : ∃ f, findV ts k = f := ⟨_, rfl⟩
  have HF := Lib.hid hf
  clear hf
  go_wp2_with fail
  refine (indexKey_any q lo hi A n c ts k g _ ha hh hn hg).mono ?_
  rw [HF.out]
  rintro e w1 ⟨rfl, hb⟩
  have HB := Lib.hid hb
  clear hb
  cases hv : ts.any (fun t => keyT t k) with
  | true =>
    have h0 : 0 ≤ f := by
      have h := mt (findV_neg (ts := ts) (k := k)).1 (by rw [hv]; simp)
      rw [HF.out] at h; omega
    go_wp2
    go_ret
    exact ⟨by rw [hv]; exact ret_bool rfl, HB.out⟩
  | false =>
    have h0 : f < 0 := by
      have h := (findV_neg (ts := ts) (k := k)).2 hv
      rw [HF.out] at h; omega
    go_wp2
    go_ret
    exact ⟨by rw [hv]; exact ret_bool (decide_eq_false (by omega)), HB.out⟩

end

end Go.Proofs.Ytiffhjofabaflaa
