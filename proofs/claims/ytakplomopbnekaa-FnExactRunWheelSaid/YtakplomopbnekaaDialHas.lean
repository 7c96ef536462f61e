/-
  Whether a dial has a key. No statement is proved here.
-/
import Derived.Test.YtakplomopbnekaaSpecFault2
import Derived.Test.YtakplomopbnekaaWheelRes
namespace Go.Proofs.Ytakplomopbnekaa
open Go.RowKit Go.Shelf
set_option linter.unusedVariables false

/-- The place of a key: the first one's, or -1. -/
theorem findV_neg {ts : List Tmr} {k : Tmr} : findV ts k < 0 ↔ ts.any (fun t => keyT t k) = false := by
  unfold findV
  cases h : ts.any (fun t => keyT t k) with
  | true => rw [if_pos rfl]; constructor <;> intro h' <;> first | omega | cases h'
  | false => rw [if_neg (by simp)]; constructor <;> intro _ <;> first | rfl | omega

section
attribute [local go_sem high] eql_keyT neq_keyT

theorem hasFn_any (t k : Tmr) (g : Nat) (w : World) (hg : Box w g 34 #[.int .i64 k.typ, .int .i64 k.id, .int .i64 k.adv]) :
    Calls Try.prog 133 #[.agg #[.int .i64 t.typ, .int .i64 t.id, .int .i64 t.adv, .int .i64 t.due], .pointer (some ⟨g, 0, none⟩)] w fun e w' => e = .returned (.bool (keyT t k)) ∧ Below w.heap.size w w' := by
  go_enter Try.func133, Try.ntmps133
  go_upto_region 1 with (fail)
  refine Code.wp_name ?_
  intro V hV
  have hB : Below w.heap.size w V := by rw [hV]; exact (Below.refl _ _).alloc (Nat.le_refl _) _
  have hG := hg.below hB
  have hX : Box V w.heap.size 36 #[.int .i64 t.typ, .int .i64 t.id, .int .i64 t.adv, .int .i64 t.due] := by rw [hV]; exact Box.made _ _ _
  have HB := Lib.hid hB
  clear hV hg hB
  have c0 := hG.look 0
  have c1 := hG.look 1
  have c2 := hG.look 2
  have hl := hG.lt
  have d0 := hX.look 0
  have d1 := hX.look 1
  have d2 := hX.look 2
  have hxl := hX.lt
  go_wp2
  go_ret
  exact ⟨rfl, HB.out⟩

set_option maxRecDepth 100000 in
set_option maxHeartbeats 1600000 in
theorem indexHas_any (q : Bool) (lo hi : Nat) (A : Option Addr) (n c : Nat) (ts : List Tmr) (k : Tmr) (g : Nat) (w : World) (ha : Rep.timer.Sl q lo hi w A n ts) (hh : hi ≤ w.heap.size) (hn : n ≤ 1048576) (hg : Box w g 34 #[.int .i64 k.typ, .int .i64 k.id, .int .i64 k.adv]) :
    Calls Try.prog 162 #[.slice A n c, .func (.func 133) #[] #[.pointer (some ⟨g, 0, none⟩)]] w fun e w' => e = .returned (.int .i64 (findV ts k)) ∧ Below w.heap.size w w' := by
  go_enter Try.func162, Try.ntmps162
  have HG := Lib.hid hg
  clear hg
  go_wp2
  go_loopw [8] (fun i wr => ∃ j : Nat, j ≤ n ∧ i = .int .i64 j ∧ Hid (∀ i a, i < j → ts[i]? = some a → keyT a k = false) ∧ Hid (Below w.heap.size w wr)) (fun i _ => n - (intOf i).toNat)
  case atStart => exact ⟨0, Nat.zero_le _, rfl, Lib.hid (fun j a h => absurd h (by omega)), Below.refl _ _⟩
  case round =>
    obtain ⟨j, hj, rfl, HI, HB⟩ := hrel
    by_cases hlt : j < n
    · obtain ⟨b, o, a, rfl, hya, a0, a1, a2, a3⟩ := Rep.timer_at (ha.below HB.out hh) hlt
      have hlt' : (j : Int) < n := by omega
      have HYA := Lib.hid hya
      clear hya
      by_cases hK : keyT a k = true
      · have HF : Hid (findV ts k = j) := Lib.hid (findIdx_at HYA.out hK (fun i u hi hu => HI.out i u hi hu))
        have HR := Lib.hid hK
        clear hK
        go_wp2_with fail
        refine (hasFn_any a k g _ (HG.out.below HB.out)).mono ?_
        rw [HR.out]
        rintro e w2 ⟨rfl, hb⟩
        have HB2 := Lib.hid (below_step HB.out hb)
        clear hb
        go_wp2
        go_ret
        exact ⟨by rw [HF.out]; rfl, HB2.out⟩
      · have HR : Hid (keyT a k = false) := Lib.hid (by simpa using hK)
        clear hK
        go_wp2_with fail
        refine (hasFn_any a k g _ (HG.out.below HB.out)).mono ?_
        rw [HR.out]
        rintro e w2 ⟨rfl, hb⟩
        have HB2 := Lib.hid (below_step HB.out hb)
        clear hb
        go_wp2
        go_roundw
        case rel => exact ⟨j + 1, by omega, by go_num, Lib.hid (fun i a' hi hz => by
          rcases Nat.lt_succ_iff_lt_or_eq.1 hi with h | rfl
          · exact HI.out i a' h hz
          · obtain rfl : a' = a := by have := HYA.out; rw [this] at hz; injection hz with e; exact e.symm
            exact HR.out), HB2⟩
        case measure => simp [intOf]; omega
    · have HF : Hid (findV ts k = -1) := Lib.hid (find_none fun i u hu => HI.out i u (by have := (List.getElem?_eq_some_iff.1 hu).1; have := ha.1; omega) hu)
      clear HI
      go_wp2
      go_ret
      exact ⟨by rw [HF.out]; rfl, HB.out⟩

theorem containsHas_any (q : Bool) (lo hi : Nat) (A : Option Addr) (n c : Nat) (ts : List Tmr) (k : Tmr) (g : Nat) (w : World) (ha : Rep.timer.Sl q lo hi w A n ts) (hh : hi ≤ w.heap.size) (hn : n ≤ 1048576) (hg : Box w g 34 #[.int .i64 k.typ, .int .i64 k.id, .int .i64 k.adv]) :
    Calls Try.prog 132 #[.slice A n c, .func (.func 133) #[] #[.pointer (some ⟨g, 0, none⟩)]] w fun e w' => e = .returned (.bool (ts.any fun t => keyT t k)) ∧ Below w.heap.size w w' := by
  go_enter Try.func132, Try.ntmps132
  obtain ⟨f, hf⟩ : ∃ f, findV ts k = f := ⟨_, rfl⟩
  have HF := Lib.hid hf
  clear hf
  go_wp2_with fail
  refine (indexHas_any q lo hi A n c ts k g _ ha hh hn hg).mono ?_
  rw [HF.out]
  rintro e w1 ⟨rfl, hb⟩
  have HB := Lib.hid hb
  clear hb
  cases hv : ts.any (fun t => keyT t k) with
  | true =>
    have h0 : 0 ≤ f := by
      have h := mt (findV_neg (ts := ts) (k := k)).1 (by rw [hv]; simp)
      rw [HF.out] at h; omega
    go_wp2
    go_ret
    exact ⟨by rw [hv]; exact ret_bool rfl, HB.out⟩
  | false =>
    have h0 : f < 0 := by
      have h := (findV_neg (ts := ts) (k := k)).2 hv
      rw [HF.out] at h; omega
    go_wp2
    go_ret
    exact ⟨by rw [hv]; exact ret_bool (decide_eq_false (by omega)), HB.out⟩

set_option maxRecDepth 100000 in
set_option maxHeartbeats 1600000 in
theorem has_any (now : Int) (s : Nat → Value) (ys : Nat → List Tmr) (lo hi : Nat) (k : Tmr) (w : World) (hs : DialIn lo hi w s ys) (hh : hi ≤ w.heap.size) (hm : ∀ k, k < 24 → (ys k).length ≤ 40000) :
    Calls Try.prog 75 #[.agg (dialCells now s), .agg #[.int .i64 k.typ, .int .i64 k.id, .int .i64 k.adv]] w fun e w' => e = .returned (.bool ((rowsP ys (upto 24)).any fun t => keyT t k)) ∧ Below w.heap.size w w' := by
  have HS := Lib.hid hs
  have HM := Lib.hid hm
  clear hs hm
  go_enter Try.func75, Try.ntmps75
  go_upto_region 1 with (fail)
  refine Code.wp_name ?_
  intro V hV
  have HX : Hid (Box V w.heap.size 112 (dialCells now s)) := Lib.hid (by rw [hV]; exact (Box.made _ _ _).over _)
  have HK : Hid (Box V (w.heap.size + 1) 34 #[.int .i64 k.typ, .int .i64 k.id, .int .i64 k.adv]) := Lib.hid (by rw [hV]; exact Box.made_at _ _ _ (by simp))
  have HB : Hid (Below w.heap.size w V) := Lib.hid (by rw [hV]; exact ((Below.refl _ _).alloc (Nat.le_refl _) _).alloc (by simp) _)
  clear hV
  obtain ⟨ts, hts⟩ : ∃ ts, rowsP ys (upto 24) = ts := ⟨_, rfl⟩
  have HTS := Lib.hid hts
  clear hts
  go_wp2_with (refine wpList_load_dial rfl _ rfl rfl HX.out ?_)
  refine (timers_any now s ys lo hi V (HS.out.below HB.out hh) (Nat.le_trans hh HB.out.size) HM.out).mono ?_
  rw [HTS.out]
  rintro e w1 ⟨E, m, d, rfl, ho, hb⟩
  have HO := Rep.Sl.kept (own_timers ho) (Nat.le_refl _)
  have hml : m ≤ 1048576 := by
    have h1 := ho.1
    rw [← HTS.out, rowsP_len] at h1
    have h2 := cntP_le (fun k => (ys k).length) 40000 HM.out (upto 24)
    rw [upto_len (Nat.le_refl _)] at h2
    omega
  have HK1 := Lib.hid (HK.out.below hb)
  have HB1 := Lib.hid (below_step HB.out hb)
  clear ho hb
  go_wp2_with fail
  refine (containsHas_any true _ _ E m d ts k (w.heap.size + 1) _ HO.sl HO.le hml HK1.out).mono ?_
  rintro e w2 ⟨rfl, hb2⟩
  have HB2 := Lib.hid (below_step HB1.out hb2)
  go_wp2
  go_ret
  exact ⟨by rw [HTS.out]; rfl, HB2.out⟩

end
end Go.Proofs.Ytakplomopbnekaa
