/-
  Both ConfigFault. No statement is proved here.
-/
import Derived.Test.YtiffhjofabaflaaConfig
import Derived.Test.YtiffhjofabaflaaNewQueue
import Derived.Test.YtiffhjofabaflaaSum
namespace Go.Proofs.Ytiffhjofabaflaa
open Go.RowKit
set_option linter.unusedVariables false

/-- The code of a config. -/
def cf (sh wk : Int) (cs : List Int) : Int :=
  if ¬ (1 ≤ sh ∧ sh ≤ 4) then 3 else if ¬ (1 ≤ wk ∧ wk ≤ 4) then 3 else if 2 < cs.length then 2 else if allIn 1 8 cs = false then 3 else 0
theorem cf_ok {sh wk : Int} {cs : List Int} (h : cf sh wk cs = 0) : (1 ≤ sh ∧ sh ≤ 4) ∧ (1 ≤ wk ∧ wk ≤ 4) ∧ cs.length ≤ 2 ∧ allIn 1 8 cs = true := by
  unfold cf at h
  split at h
  · cases h
  · split at h
    · cases h
    · split at h
      · cases h
      · split at h
        · cases h
        · rename_i h1 h2 h3 h4
          refine ⟨by omega, by omega, by omega, by simpa using h4⟩
theorem allIn_take {lo hi : Int} {ys : List Int} {k : Nat} (hk : k < ys.length) : allIn lo hi (ys.take (k + 1)) = (allIn lo hi (ys.take k) && allIn lo hi [ys.getD k 0]) := by
  unfold allIn
  rw [List.take_succ_eq_append_getElem hk, List.all_append]
  simp [List.getD, hk]
theorem allIn_bad {lo hi : Int} {ys : List Int} {k : Nat} (hk : k < ys.length) (h : ¬ (lo ≤ ys.getD k 0 ∧ ys.getD k 0 ≤ hi)) : allIn lo hi ys = false := by
  cases h2 : allIn lo hi ys with
  | false => rfl
  | true =>
    exfalso
    apply h
    unfold allIn at h2
    rw [List.all_eq_true] at h2
    have := h2 ys[k] (List.getElem_mem hk)
    simpa [List.getD, hk] using this
theorem fieldN0 (W : World) (r x : Int) (p t : Bool) (O E : Option Addr) (j k m d : Nat) : (Instr.field 63 (.agg #[.int .i64 r, .int .i64 x, .bool p, .slice O j k, .bool t, .slice E m d]) 0).run Try.prog W = .ok (.int .i64 r) W := by kernel_rfl
attribute [local go_sem high] fieldN0

set_option maxRecDepth 100000 in
set_option maxHeartbeats 1600000 in
theorem configFault_any (sh wk : Int) (q : Bool) (lo hi : Nat) (A : Option Addr) (n c : Nat) (ys : List Int) (w : World) (ha : Rep.int.Sl q lo hi w A n ys) (hh : hi ≤ w.heap.size) (hn : n ≤ 1048576) :
    Calls Try.prog 62 #[.agg #[.int .i64 sh, .int .i64 wk, .slice A n c]] w fun e w' => e = .returned (.int .i64 (cf sh wk ys)) ∧ Below w.heap.size w w' := by
  have hl := ha.1
  by_cases h0 : ¬ (1 ≤ sh ∧ sh ≤ 4)
  · have HB := Lib.hid (Below.refl w.heap.size w)
    have HA := Rep.Sl.kept ha hh
    have HI := Lib.hid (allIn_one_no h0)
    have HQ : Hid (cf sh wk ys = 3) := Lib.hid (by unfold cf; rw [if_pos h0])
    clear h0
    clear ha
    go_enter Try.func62, Try.ntmps62
    go_wp2_with fail
    refine Calls.name ?_
    intro U1 hU1
    have hb : Below w.heap.size w U1 := by rw [hU1]; exact (((Below.refl _ _).alloc (Nat.le_refl _) _).alloc (by simp <;> omega) _)
    have zz : Hid (w.heap.size + 2 = U1.heap.size) := Lib.hid (by rw [hU1]; simp)
    have HX1 : Kept w.heap.size (w.heap.size + 1) (BoxK w.heap.size 83 #[.int .i64 sh, .int .i64 wk, .slice A n c]) U1 := by rw [hU1]; exact Kept.box ((Box.made_at _ _ _ rfl).over _)
    have HX2 : Kept (w.heap.size + 1) (w.heap.size + 1 + 1) (BoxK (w.heap.size + 1) 2 #[.int .i64 sh]) U1 := by rw [hU1]; exact Kept.box (Box.made_at _ _ _ (by simp <;> omega))
    replace HA := HA.below hb
    replace HB := Lib.hid (below_step HB.out hb)
    clear hb
    have Z1 := zz; clear zz
    clear hU1
    have HL := Lib.hid (HX2.look 0)
    refine (allWithin_one _ _ _ sh _ HL.out).mono ?_
    rw [HI.out]
    rintro e w2 ⟨rfl, rfl⟩
    clear HL
    have l2_0 := HX1.bx.lt
    have l2_1 := HX2.bx.lt
    go_wp2
    clear l2_0 l2_1
    go_ret
    exact ⟨by rw [HQ.out]; try rfl, HB.out⟩
  by_cases h1 : ¬ (1 ≤ wk ∧ wk ≤ 4)
  · have HB := Lib.hid (Below.refl w.heap.size w)
    have HA := Rep.Sl.kept ha hh
    have h0' : 1 ≤ sh ∧ sh ≤ 4 := by omega
    have HI := Lib.hid (allIn_one_yes h0'.1 h0'.2)
    have HJ := Lib.hid (allIn_one_no h1)
    have HQ : Hid (cf sh wk ys = 3) := Lib.hid (by unfold cf; rw [if_neg h0, if_pos h1])
    clear h0 h1 h0'
    clear ha
    go_enter Try.func62, Try.ntmps62
    go_wp2_with fail
    refine Calls.name ?_
    intro U1 hU1
    have hb : Below w.heap.size w U1 := by rw [hU1]; exact (((Below.refl _ _).alloc (Nat.le_refl _) _).alloc (by simp <;> omega) _)
    have zz : Hid (w.heap.size + 2 = U1.heap.size) := Lib.hid (by rw [hU1]; simp)
    have HX1 : Kept w.heap.size (w.heap.size + 1) (BoxK w.heap.size 83 #[.int .i64 sh, .int .i64 wk, .slice A n c]) U1 := by rw [hU1]; exact Kept.box ((Box.made_at _ _ _ rfl).over _)
    have HX2 : Kept (w.heap.size + 1) (w.heap.size + 1 + 1) (BoxK (w.heap.size + 1) 2 #[.int .i64 sh]) U1 := by rw [hU1]; exact Kept.box (Box.made_at _ _ _ (by simp <;> omega))
    replace HA := HA.below hb
    replace HB := Lib.hid (below_step HB.out hb)
    clear hb
    have Z1 := zz; clear zz
    clear hU1
    have HL := Lib.hid (HX2.look 0)
    refine (allWithin_one _ _ _ sh _ HL.out).mono ?_
    rw [HI.out]
    rintro e w2 ⟨rfl, rfl⟩
    clear HL
    have c2_0 := HX1.look 1
    have l2_0 := HX1.bx.lt
    have l2_1 := HX2.bx.lt
    go_wp2_with fail
    clear c2_0 l2_0 l2_1
    refine Calls.name ?_
    intro U3 hU3
    have hb : Below w2.heap.size w2 U3 := by rw [hU3]; exact ((Below.refl _ _).alloc (Nat.le_refl _) _)
    have zz : Hid (w2.heap.size + 1 = U3.heap.size) := Lib.hid (by rw [hU3]; simp)
    have HX3 : Kept w2.heap.size (w2.heap.size + 1) (BoxK w2.heap.size 2 #[.int .i64 wk]) U3 := by rw [hU3]; exact Kept.box (Box.made_at _ _ _ rfl)
    replace HA := HA.below hb
    replace HX1 := HX1.below hb
    replace HX2 := HX2.below hb
    replace HB := Lib.hid (below_step HB.out hb)
    clear hb
    have Z2 := zz; clear zz
    clear hU3
    have HL := Lib.hid (HX3.look 0)
    refine (allWithin_one _ _ _ wk _ HL.out).mono ?_
    rw [HJ.out]
    rintro e w4 ⟨rfl, rfl⟩
    clear HL
    have l3_0 := HX1.bx.lt
    have l3_1 := HX2.bx.lt
    have l3_2 := HX3.bx.lt
    go_wp2
    clear l3_0 l3_1 l3_2
    go_ret
    exact ⟨by rw [HQ.out]; try rfl, HB.out⟩
  by_cases h2 : 2 < ys.length
  · have HB := Lib.hid (Below.refl w.heap.size w)
    have HA := Rep.Sl.kept ha hh
    have h0' : 1 ≤ sh ∧ sh ≤ 4 := by omega
    have HI := Lib.hid (allIn_one_yes h0'.1 h0'.2)
    have h1' : 1 ≤ wk ∧ wk ≤ 4 := by omega
    have HJ := Lib.hid (allIn_one_yes h1'.1 h1'.2)
    have HQ : Hid (cf sh wk ys = 2) := Lib.hid (by unfold cf; rw [if_neg h0, if_neg h1, if_pos h2])
    have hlt : (2 : Int) < n := by omega
    clear h0 h1 h0' h1' h2
    clear ha
    go_enter Try.func62, Try.ntmps62
    go_wp2_with fail
    refine Calls.name ?_
    intro U1 hU1
    have hb : Below w.heap.size w U1 := by rw [hU1]; exact (((Below.refl _ _).alloc (Nat.le_refl _) _).alloc (by simp <;> omega) _)
    have zz : Hid (w.heap.size + 2 = U1.heap.size) := Lib.hid (by rw [hU1]; simp)
    have HX1 : Kept w.heap.size (w.heap.size + 1) (BoxK w.heap.size 83 #[.int .i64 sh, .int .i64 wk, .slice A n c]) U1 := by rw [hU1]; exact Kept.box ((Box.made_at _ _ _ rfl).over _)
    have HX2 : Kept (w.heap.size + 1) (w.heap.size + 1 + 1) (BoxK (w.heap.size + 1) 2 #[.int .i64 sh]) U1 := by rw [hU1]; exact Kept.box (Box.made_at _ _ _ (by simp <;> omega))
    replace HA := HA.below hb
    replace HB := Lib.hid (below_step HB.out hb)
    clear hb
    have Z1 := zz; clear zz
    clear hU1
    have HL := Lib.hid (HX2.look 0)
    refine (allWithin_one _ _ _ sh _ HL.out).mono ?_
    rw [HI.out]
    rintro e w2 ⟨rfl, rfl⟩
    clear HL
    have c2_0 := HX1.look 1
    have l2_0 := HX1.bx.lt
    have l2_1 := HX2.bx.lt
    go_wp2_with fail
    clear c2_0 l2_0 l2_1
    refine Calls.name ?_
    intro U3 hU3
    have hb : Below w2.heap.size w2 U3 := by rw [hU3]; exact ((Below.refl _ _).alloc (Nat.le_refl _) _)
    have zz : Hid (w2.heap.size + 1 = U3.heap.size) := Lib.hid (by rw [hU3]; simp)
    have HX3 : Kept w2.heap.size (w2.heap.size + 1) (BoxK w2.heap.size 2 #[.int .i64 wk]) U3 := by rw [hU3]; exact Kept.box (Box.made_at _ _ _ rfl)
    replace HA := HA.below hb
    replace HX1 := HX1.below hb
    replace HX2 := HX2.below hb
    replace HB := Lib.hid (below_step HB.out hb)
    clear hb
    have Z2 := zz; clear zz
    clear hU3
    have HL := Lib.hid (HX3.look 0)
    refine (allWithin_one _ _ _ wk _ HL.out).mono ?_
    rw [HJ.out]
    rintro e w4 ⟨rfl, rfl⟩
    clear HL
    have c3_0 := HX1.look 2
    have l3_0 := HX1.bx.lt
    have l3_1 := HX2.bx.lt
    have l3_2 := HX3.bx.lt
    go_wp2
    clear c3_0 l3_0 l3_1 l3_2
    go_ret
    exact ⟨by rw [HQ.out]; try rfl, HB.out⟩
  · have HB := Lib.hid (Below.refl w.heap.size w)
    have HA := Rep.Sl.kept ha hh
    have h0' : 1 ≤ sh ∧ sh ≤ 4 := by omega
    have HI := Lib.hid (allIn_one_yes h0'.1 h0'.2)
    have h1' : 1 ≤ wk ∧ wk ≤ 4 := by omega
    have HJ := Lib.hid (allIn_one_yes h1'.1 h1'.2)
    have HCF : Hid (cf sh wk ys = if allIn 1 8 ys = false then 3 else 0) := Lib.hid (by unfold cf; rw [if_neg h0, if_neg h1, if_neg h2])
    have hn2 : n ≤ 2 := by omega
    have hlt : ¬ (2 : Int) < n := by omega
    clear h0 h1 h0' h1' h2
    clear ha
    go_enter Try.func62, Try.ntmps62
    go_wp2_with fail
    refine Calls.name ?_
    intro U1 hU1
    have hb : Below w.heap.size w U1 := by rw [hU1]; exact (((Below.refl _ _).alloc (Nat.le_refl _) _).alloc (by simp <;> omega) _)
    have zz : Hid (w.heap.size + 2 = U1.heap.size) := Lib.hid (by rw [hU1]; simp)
    have HX1 : Kept w.heap.size (w.heap.size + 1) (BoxK w.heap.size 83 #[.int .i64 sh, .int .i64 wk, .slice A n c]) U1 := by rw [hU1]; exact Kept.box ((Box.made_at _ _ _ rfl).over _)
    have HX2 : Kept (w.heap.size + 1) (w.heap.size + 1 + 1) (BoxK (w.heap.size + 1) 2 #[.int .i64 sh]) U1 := by rw [hU1]; exact Kept.box (Box.made_at _ _ _ (by simp <;> omega))
    replace HA := HA.below hb
    replace HB := Lib.hid (below_step HB.out hb)
    clear hb
    have Z1 := zz; clear zz
    clear hU1
    have HL := Lib.hid (HX2.look 0)
    refine (allWithin_one _ _ _ sh _ HL.out).mono ?_
    rw [HI.out]
    rintro e w2 ⟨rfl, rfl⟩
    clear HL
    have c2_0 := HX1.look 1
    have l2_0 := HX1.bx.lt
    have l2_1 := HX2.bx.lt
    go_wp2_with fail
    clear c2_0 l2_0 l2_1
    refine Calls.name ?_
    intro U3 hU3
    have hb : Below w2.heap.size w2 U3 := by rw [hU3]; exact ((Below.refl _ _).alloc (Nat.le_refl _) _)
    have zz : Hid (w2.heap.size + 1 = U3.heap.size) := Lib.hid (by rw [hU3]; simp)
    have HX3 : Kept w2.heap.size (w2.heap.size + 1) (BoxK w2.heap.size 2 #[.int .i64 wk]) U3 := by rw [hU3]; exact Kept.box (Box.made_at _ _ _ rfl)
    replace HA := HA.below hb
    replace HX1 := HX1.below hb
    replace HX2 := HX2.below hb
    replace HB := Lib.hid (below_step HB.out hb)
    clear hb
    have Z2 := zz; clear zz
    clear hU3
    have HL := Lib.hid (HX3.look 0)
    refine (allWithin_one _ _ _ wk _ HL.out).mono ?_
    rw [HJ.out]
    rintro e w4 ⟨rfl, rfl⟩
    clear HL
    have c3_0 := HX1.look 2
    have l3_0 := HX1.bx.lt
    have l3_1 := HX2.bx.lt
    have l3_2 := HX3.bx.lt
    go_wp2
    clear c3_0 l3_0 l3_1 l3_2
    clear HX2 HX3
    go_loopw [25] (fun i wr => ∃ k : Nat, k ≤ n ∧ i = .int .i64 k ∧ Hid (allIn 1 8 (ys.take k) = true) ∧ Hid (Below w4.heap.size w4 wr)) (fun i _ => n - (intOf i).toNat)
    case atStart => exact ⟨0, Nat.zero_le _, rfl, Lib.hid (by simp [allIn]), Lib.hid (Below.refl _ _)⟩
    case round =>
      clear HX1
      obtain ⟨k, hk, rfl, HN, HC⟩ := hrel
      by_cases hlt : k < n
      · have hlk : k < ys.length := by rw [hl]; exact hlt
        obtain ⟨b, o, rfl, hc⟩ := Rep.int_at (HA.below HC.out).sl hlt
        obtain ⟨z, hz⟩ : ∃ z, ys.getD k 0 = z := ⟨_, rfl⟩
        rw [hz] at hc
        have hlt' : (k : Int) < n := by omega
        by_cases hin : 1 ≤ z ∧ z ≤ 8
        · have HNN : Hid (allIn 1 8 (ys.take (k + 1)) = true) := Lib.hid (by rw [allIn_take hlk, HN.out, hz, allIn_one_yes hin.1 hin.2]; rfl)
          have HR : Hid (nqC z = 0) := Lib.hid (if_pos hin)
          clear hz hin hlk
          go_wp2_with fail
          refine (newQueue_any z _).mono ?_
          rw [HR.out]
          rintro e w9 ⟨A9, n9, c9, E9, m9, d9, rfl, _, hb⟩
          replace HC := Lib.hid (below_step HC.out hb); clear hb
          go_wp2
          go_roundw
          case rel => exact ⟨k + 1, by omega, by go_num, HNN, HC⟩
          case measure => simp [intOf]; omega
        · have HQ : Hid (cf sh wk ys = 3) := Lib.hid (by rw [HCF.out, if_pos (allIn_bad hlk (by rw [hz]; exact hin))])
          have HR : Hid (nqC z = 3) := Lib.hid (if_neg hin)
          clear hz hin hlk
          go_wp2_with fail
          refine (newQueue_any z _).mono ?_
          rw [HR.out]
          rintro e w9 ⟨A9, n9, c9, E9, m9, d9, rfl, _, hb⟩
          replace HC := Lib.hid (below_step HC.out hb); clear hb
          go_wp2
          go_ret
          exact ⟨by rw [HQ.out]; try rfl, below_step HB.out HC.out⟩
      · have HQ : Hid (cf sh wk ys = 0) := Lib.hid (by have h := HN.out; rw [List.take_of_length_le (by omega)] at h; rw [HCF.out, if_neg (by rw [h]; simp)])
        go_wp2
        go_ret
        exact ⟨by rw [HQ.out]; try rfl, below_step HB.out HC.out⟩

set_option maxRecDepth 100000 in
set_option maxHeartbeats 1600000 in
theorem specConfigFault_any (sh wk : Int) (q : Bool) (lo hi : Nat) (A : Option Addr) (n c : Nat) (ys : List Int) (w : World) (ha : Rep.int.Sl q lo hi w A n ys) (hh : hi ≤ w.heap.size) (hn : n ≤ 1048576) :
    Calls Try.prog 60 #[.agg #[.int .i64 sh, .int .i64 wk, .slice A n c]] w fun e w' => e = .returned (.int .i64 (cf sh wk ys)) ∧ Below w.heap.size w w' := by
  have hl := ha.1
  by_cases h0 : ¬ (1 ≤ sh ∧ sh ≤ 4)
  · have HB := Lib.hid (Below.refl w.heap.size w)
    have HA := Rep.Sl.kept ha hh
    have HI := Lib.hid (allIn_one_no h0)
    have HQ : Hid (cf sh wk ys = 3) := Lib.hid (by unfold cf; rw [if_pos h0])
    clear h0
    clear ha
    go_enter Try.func60, Try.ntmps60
    go_wp2_with fail
    refine Calls.name ?_
    intro U1 hU1
    have hb : Below w.heap.size w U1 := by rw [hU1]; exact ((Below.refl _ _).alloc (Nat.le_refl _) _)
    have zz : Hid (w.heap.size + 1 = U1.heap.size) := Lib.hid (by rw [hU1]; simp)
    have HX1 : Kept w.heap.size (w.heap.size + 1) (BoxK w.heap.size 83 #[.int .i64 sh, .int .i64 wk, .slice A n c]) U1 := by rw [hU1]; exact Kept.box (Box.made_at _ _ _ rfl)
    replace HA := HA.below hb
    replace HB := Lib.hid (below_step HB.out hb)
    clear hb
    have Z1 := zz; clear zz
    clear hU1
    refine (l1In_any sh 1 4 _).mono ?_
    rw [HI.out]
    rintro e w2 ⟨rfl, rfl⟩
    have l2_0 := HX1.bx.lt
    go_wp2
    clear l2_0
    go_ret
    exact ⟨by rw [HQ.out]; try rfl, HB.out⟩
  by_cases h1 : ¬ (1 ≤ wk ∧ wk ≤ 4)
  · have HB := Lib.hid (Below.refl w.heap.size w)
    have HA := Rep.Sl.kept ha hh
    have h0' : 1 ≤ sh ∧ sh ≤ 4 := by omega
    have HI := Lib.hid (allIn_one_yes h0'.1 h0'.2)
    have HJ := Lib.hid (allIn_one_no h1)
    have HQ : Hid (cf sh wk ys = 3) := Lib.hid (by unfold cf; rw [if_neg h0, if_pos h1])
    clear h0 h1 h0'
    clear ha
    go_enter Try.func60, Try.ntmps60
    go_wp2_with fail
    refine Calls.name ?_
    intro U1 hU1
    have hb : Below w.heap.size w U1 := by rw [hU1]; exact ((Below.refl _ _).alloc (Nat.le_refl _) _)
    have zz : Hid (w.heap.size + 1 = U1.heap.size) := Lib.hid (by rw [hU1]; simp)
    have HX1 : Kept w.heap.size (w.heap.size + 1) (BoxK w.heap.size 83 #[.int .i64 sh, .int .i64 wk, .slice A n c]) U1 := by rw [hU1]; exact Kept.box (Box.made_at _ _ _ rfl)
    replace HA := HA.below hb
    replace HB := Lib.hid (below_step HB.out hb)
    clear hb
    have Z1 := zz; clear zz
    clear hU1
    refine (l1In_any sh 1 4 _).mono ?_
    rw [HI.out]
    rintro e w2 ⟨rfl, rfl⟩
    have c2_0 := HX1.look 1
    have l2_0 := HX1.bx.lt
    go_wp2_with fail
    clear c2_0 l2_0
    refine (l1In_any wk 1 4 _).mono ?_
    rw [HJ.out]
    rintro e w3 ⟨rfl, rfl⟩
    have l3_0 := HX1.bx.lt
    go_wp2
    clear l3_0
    go_ret
    exact ⟨by rw [HQ.out]; try rfl, HB.out⟩
  by_cases h2 : 2 < ys.length
  · have HB := Lib.hid (Below.refl w.heap.size w)
    have HA := Rep.Sl.kept ha hh
    have h0' : 1 ≤ sh ∧ sh ≤ 4 := by omega
    have HI := Lib.hid (allIn_one_yes h0'.1 h0'.2)
    have h1' : 1 ≤ wk ∧ wk ≤ 4 := by omega
    have HJ := Lib.hid (allIn_one_yes h1'.1 h1'.2)
    have HQ : Hid (cf sh wk ys = 2) := Lib.hid (by unfold cf; rw [if_neg h0, if_neg h1, if_pos h2])
    have hlt : (2 : Int) < n := by omega
    clear h0 h1 h0' h1' h2
    clear ha
    go_enter Try.func60, Try.ntmps60
    go_wp2_with fail
    refine Calls.name ?_
    intro U1 hU1
    have hb : Below w.heap.size w U1 := by rw [hU1]; exact ((Below.refl _ _).alloc (Nat.le_refl _) _)
    have zz : Hid (w.heap.size + 1 = U1.heap.size) := Lib.hid (by rw [hU1]; simp)
    have HX1 : Kept w.heap.size (w.heap.size + 1) (BoxK w.heap.size 83 #[.int .i64 sh, .int .i64 wk, .slice A n c]) U1 := by rw [hU1]; exact Kept.box (Box.made_at _ _ _ rfl)
    replace HA := HA.below hb
    replace HB := Lib.hid (below_step HB.out hb)
    clear hb
    have Z1 := zz; clear zz
    clear hU1
    refine (l1In_any sh 1 4 _).mono ?_
    rw [HI.out]
    rintro e w2 ⟨rfl, rfl⟩
    have c2_0 := HX1.look 1
    have l2_0 := HX1.bx.lt
    go_wp2_with fail
    clear c2_0 l2_0
    refine (l1In_any wk 1 4 _).mono ?_
    rw [HJ.out]
    rintro e w3 ⟨rfl, rfl⟩
    have c3_0 := HX1.look 2
    have l3_0 := HX1.bx.lt
    go_wp2
    clear c3_0 l3_0
    go_ret
    exact ⟨by rw [HQ.out]; try rfl, HB.out⟩
  · have HB := Lib.hid (Below.refl w.heap.size w)
    have HA := Rep.Sl.kept ha hh
    have h0' : 1 ≤ sh ∧ sh ≤ 4 := by omega
    have HI := Lib.hid (allIn_one_yes h0'.1 h0'.2)
    have h1' : 1 ≤ wk ∧ wk ≤ 4 := by omega
    have HJ := Lib.hid (allIn_one_yes h1'.1 h1'.2)
    have HCF : Hid (cf sh wk ys = if allIn 1 8 ys = false then 3 else 0) := Lib.hid (by unfold cf; rw [if_neg h0, if_neg h1, if_neg h2])
    have hn2 : n ≤ 2 := by omega
    have hlt : ¬ (2 : Int) < n := by omega
    clear h0 h1 h0' h1' h2
    clear ha
    go_enter Try.func60, Try.ntmps60
    go_wp2_with fail
    refine Calls.name ?_
    intro U1 hU1
    have hb : Below w.heap.size w U1 := by rw [hU1]; exact ((Below.refl _ _).alloc (Nat.le_refl _) _)
    have zz : Hid (w.heap.size + 1 = U1.heap.size) := Lib.hid (by rw [hU1]; simp)
    have HX1 : Kept w.heap.size (w.heap.size + 1) (BoxK w.heap.size 83 #[.int .i64 sh, .int .i64 wk, .slice A n c]) U1 := by rw [hU1]; exact Kept.box (Box.made_at _ _ _ rfl)
    replace HA := HA.below hb
    replace HB := Lib.hid (below_step HB.out hb)
    clear hb
    have Z1 := zz; clear zz
    clear hU1
    refine (l1In_any sh 1 4 _).mono ?_
    rw [HI.out]
    rintro e w2 ⟨rfl, rfl⟩
    have c2_0 := HX1.look 1
    have l2_0 := HX1.bx.lt
    go_wp2_with fail
    clear c2_0 l2_0
    refine (l1In_any wk 1 4 _).mono ?_
    rw [HJ.out]
    rintro e w3 ⟨rfl, rfl⟩
    have c3_0 := HX1.look 2
    have l3_0 := HX1.bx.lt
    go_wp2
    clear c3_0 l3_0
    go_loopw [3] (fun i wr => ∃ k : Nat, k ≤ n ∧ i = .int .i64 k ∧ Hid (allIn 1 8 (ys.take k) = true) ∧ Hid (Below w3.heap.size w3 wr) ∧ Kept w.heap.size (w.heap.size + 1) (BoxK w.heap.size 83 #[.int .i64 sh, .int .i64 wk, .slice A n c]) wr) (fun i _ => n - (intOf i).toNat)
    case atStart => exact ⟨0, Nat.zero_le _, rfl, Lib.hid (by simp [allIn]), Lib.hid (Below.refl _ _), HX1⟩
    case round =>
      clear HX1
      obtain ⟨k, hk, rfl, HN, HC, HX1⟩ := hrel
      have x2 := HX1.look 2
      by_cases hlt : k < n
      · have hlk : k < ys.length := by rw [hl]; exact hlt
        obtain ⟨b, o, rfl, hc⟩ := Rep.int_at (HA.below HC.out).sl hlt
        obtain ⟨z, hz⟩ : ∃ z, ys.getD k 0 = z := ⟨_, rfl⟩
        rw [hz] at hc
        have hlt' : (k : Int) < n := by omega
        by_cases hin : 1 ≤ z ∧ z ≤ 8
        · have HNN : Hid (allIn 1 8 (ys.take (k + 1)) = true) := Lib.hid (by rw [allIn_take hlk, HN.out, hz, allIn_one_yes hin.1 hin.2]; rfl)
          have HR := Lib.hid (allIn_one_yes hin.1 hin.2)
          clear hz hin hlk
          go_wp2_with fail
          refine (l1In_any z 1 8 _).mono ?_
          rw [HR.out]
          rintro e w9 ⟨rfl, rfl⟩
          go_wp2
          go_roundw
          case rel => exact ⟨k + 1, by omega, by go_num, HNN, HC, HX1⟩
          case measure => simp [intOf]; omega
        · have HQ : Hid (cf sh wk ys = 3) := Lib.hid (by rw [HCF.out, if_pos (allIn_bad hlk (by rw [hz]; exact hin))])
          have HR := Lib.hid (allIn_one_no hin)
          clear hz hin hlk
          go_wp2_with fail
          refine (l1In_any z 1 8 _).mono ?_
          rw [HR.out]
          rintro e w9 ⟨rfl, rfl⟩
          go_wp2
          go_ret
          exact ⟨by rw [HQ.out]; try rfl, below_step HB.out HC.out⟩
      · have HQ : Hid (cf sh wk ys = 0) := Lib.hid (by have h := HN.out; rw [List.take_of_length_le (by omega)] at h; rw [HCF.out, if_neg (by rw [h]; simp)])
        go_wp2
        go_ret
        exact ⟨by rw [HQ.out]; try rfl, below_step HB.out HC.out⟩


end Go.Proofs.Ytiffhjofabaflaa
