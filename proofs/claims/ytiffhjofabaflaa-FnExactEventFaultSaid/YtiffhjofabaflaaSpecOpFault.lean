/-
  The model's OpFault. No statement is proved here.
-/
import Derived.Test.YtiffhjofabaflaaOpFault
namespace Go.Proofs.Ytiffhjofabaflaa
open Go.RowKit
set_option linter.unusedVariables false

set_option maxRecDepth 100000 in
set_option maxHeartbeats 1600000 in
theorem l8Needs0_100 (g : Nat) (t i a N : Int) (A : Option Addr) (n c : Nat) (r : Bool) (w : World) (x1 : w.cell? ⟨g, 1, none⟩ = some (.slice A n c)) (x2 : w.cell? ⟨g, 2, none⟩ = some (.int .i64 t)) (x3 : w.cell? ⟨g, 3, none⟩ = some (.int .i64 i)) (x4 : w.cell? ⟨g, 4, none⟩ = some (.int .i64 a)) (x5 : w.cell? ⟨g, 5, none⟩ = some (.int .i64 N)) (hr : r = true ↔ (t = 0 ∧ i = 0 ∧ a = 0) ∧ N = 0) :
    Calls Try.prog 143 #[.pointer (some ⟨g, 0, none⟩), .bool true, .bool false, .bool false] w fun e w' => e = .returned (.bool r) ∧ w' = w := by
  by_cases h1 : ¬ (t = 0 ∧ i = 0 ∧ a = 0)
  · obtain rfl : r = false := by cases r with | false => rfl | true => exact absurd (hr.1 rfl).1 h1
    have y1 := eqlKey_yes t i a 0 0 0 false (by simpa using h1)
    clear hr h1
    go_enter Try.func143, Try.ntmps143
    go_wp2
    go_ret
    exact ⟨rfl, rfl⟩
  replace h1 : (t = 0 ∧ i = 0 ∧ a = 0) := Classical.byContradiction h1
  have y1 := eqlKey_yes t i a 0 0 0 true (by simpa using h1)
  by_cases h2 : ¬ N = 0
  · obtain rfl : r = false := by cases r with | false => rfl | true => exact absurd (hr.1 rfl).2 h2
    have y2 : (N == 0) = false := by simpa using h2
    clear hr h1 h2
    go_enter Try.func143, Try.ntmps143
    go_wp2
    go_ret
    exact ⟨rfl, rfl⟩
  replace h2 : N = 0 := Classical.byContradiction h2
  have y2 : (N == 0) = true := by simp [h2]
  obtain rfl : r = true := hr.2 ⟨h1, h2⟩
  clear hr h1 h2
  go_enter Try.func143, Try.ntmps143
  go_wp2
  go_ret
  exact ⟨rfl, rfl⟩

set_option maxRecDepth 100000 in
set_option maxHeartbeats 1600000 in
theorem l8Needs0_010 (g : Nat) (t i a N : Int) (A : Option Addr) (n c : Nat) (r : Bool) (w : World) (x1 : w.cell? ⟨g, 1, none⟩ = some (.slice A n c)) (x2 : w.cell? ⟨g, 2, none⟩ = some (.int .i64 t)) (x3 : w.cell? ⟨g, 3, none⟩ = some (.int .i64 i)) (x4 : w.cell? ⟨g, 4, none⟩ = some (.int .i64 a)) (x5 : w.cell? ⟨g, 5, none⟩ = some (.int .i64 N)) (hr : r = true ↔ n = 0 ∧ N = 0) :
    Calls Try.prog 143 #[.pointer (some ⟨g, 0, none⟩), .bool false, .bool true, .bool false] w fun e w' => e = .returned (.bool r) ∧ w' = w := by
  by_cases h0 : ¬ n = 0
  · obtain rfl : r = false := by cases r with | false => rfl | true => exact absurd (hr.1 rfl).1 h0
    have y0 : ((n : Int) == 0) = false := by simp; omega
    clear hr h0
    go_enter Try.func143, Try.ntmps143
    go_wp2
    go_ret
    exact ⟨rfl, rfl⟩
  replace h0 : n = 0 := Classical.byContradiction h0
  have y0 : ((n : Int) == 0) = true := by simp [h0]
  by_cases h2 : ¬ N = 0
  · obtain rfl : r = false := by cases r with | false => rfl | true => exact absurd (hr.1 rfl).2 h2
    have y2 : (N == 0) = false := by simpa using h2
    clear hr h0 h2
    go_enter Try.func143, Try.ntmps143
    go_wp2
    go_ret
    exact ⟨rfl, rfl⟩
  replace h2 : N = 0 := Classical.byContradiction h2
  have y2 : (N == 0) = true := by simp [h2]
  obtain rfl : r = true := hr.2 ⟨h0, h2⟩
  clear hr h0 h2
  go_enter Try.func143, Try.ntmps143
  go_wp2
  go_ret
  exact ⟨rfl, rfl⟩

set_option maxRecDepth 100000 in
set_option maxHeartbeats 1600000 in
theorem l8Needs0_001 (g : Nat) (t i a N : Int) (A : Option Addr) (n c : Nat) (r : Bool) (w : World) (x1 : w.cell? ⟨g, 1, none⟩ = some (.slice A n c)) (x2 : w.cell? ⟨g, 2, none⟩ = some (.int .i64 t)) (x3 : w.cell? ⟨g, 3, none⟩ = some (.int .i64 i)) (x4 : w.cell? ⟨g, 4, none⟩ = some (.int .i64 a)) (x5 : w.cell? ⟨g, 5, none⟩ = some (.int .i64 N)) (hr : r = true ↔ n = 0 ∧ (t = 0 ∧ i = 0 ∧ a = 0)) :
    Calls Try.prog 143 #[.pointer (some ⟨g, 0, none⟩), .bool false, .bool false, .bool true] w fun e w' => e = .returned (.bool r) ∧ w' = w := by
  by_cases h0 : ¬ n = 0
  · obtain rfl : r = false := by cases r with | false => rfl | true => exact absurd (hr.1 rfl).1 h0
    have y0 : ((n : Int) == 0) = false := by simp; omega
    clear hr h0
    go_enter Try.func143, Try.ntmps143
    go_wp2
    go_ret
    exact ⟨rfl, rfl⟩
  replace h0 : n = 0 := Classical.byContradiction h0
  have y0 : ((n : Int) == 0) = true := by simp [h0]
  by_cases h1 : ¬ (t = 0 ∧ i = 0 ∧ a = 0)
  · obtain rfl : r = false := by cases r with | false => rfl | true => exact absurd (hr.1 rfl).2 h1
    have y1 := eqlKey_yes t i a 0 0 0 false (by simpa using h1)
    clear hr h0 h1
    go_enter Try.func143, Try.ntmps143
    go_wp2
    go_ret
    exact ⟨rfl, rfl⟩
  replace h1 : (t = 0 ∧ i = 0 ∧ a = 0) := Classical.byContradiction h1
  have y1 := eqlKey_yes t i a 0 0 0 true (by simpa using h1)
  obtain rfl : r = true := hr.2 ⟨h0, h1⟩
  clear hr h0 h1
  go_enter Try.func143, Try.ntmps143
  go_wp2
  go_ret
  exact ⟨rfl, rfl⟩

set_option maxRecDepth 100000 in
set_option maxHeartbeats 1600000 in
theorem l8Needs0_000 (g : Nat) (t i a N : Int) (A : Option Addr) (n c : Nat) (r : Bool) (w : World) (x1 : w.cell? ⟨g, 1, none⟩ = some (.slice A n c)) (x2 : w.cell? ⟨g, 2, none⟩ = some (.int .i64 t)) (x3 : w.cell? ⟨g, 3, none⟩ = some (.int .i64 i)) (x4 : w.cell? ⟨g, 4, none⟩ = some (.int .i64 a)) (x5 : w.cell? ⟨g, 5, none⟩ = some (.int .i64 N)) (hr : r = true ↔ n = 0 ∧ (t = 0 ∧ i = 0 ∧ a = 0) ∧ N = 0) :
    Calls Try.prog 143 #[.pointer (some ⟨g, 0, none⟩), .bool false, .bool false, .bool false] w fun e w' => e = .returned (.bool r) ∧ w' = w := by
  by_cases h0 : ¬ n = 0
  · obtain rfl : r = false := by cases r with | false => rfl | true => exact absurd (hr.1 rfl).1 h0
    have y0 : ((n : Int) == 0) = false := by simp; omega
    clear hr h0
    go_enter Try.func143, Try.ntmps143
    go_wp2
    go_ret
    exact ⟨rfl, rfl⟩
  replace h0 : n = 0 := Classical.byContradiction h0
  have y0 : ((n : Int) == 0) = true := by simp [h0]
  by_cases h1 : ¬ (t = 0 ∧ i = 0 ∧ a = 0)
  · obtain rfl : r = false := by cases r with | false => rfl | true => exact absurd (hr.1 rfl).2.1 h1
    have y1 := eqlKey_yes t i a 0 0 0 false (by simpa using h1)
    clear hr h0 h1
    go_enter Try.func143, Try.ntmps143
    go_wp2
    go_ret
    exact ⟨rfl, rfl⟩
  replace h1 : (t = 0 ∧ i = 0 ∧ a = 0) := Classical.byContradiction h1
  have y1 := eqlKey_yes t i a 0 0 0 true (by simpa using h1)
  by_cases h2 : ¬ N = 0
  · obtain rfl : r = false := by cases r with | false => rfl | true => exact absurd (hr.1 rfl).2.2 h2
    have y2 : (N == 0) = false := by simpa using h2
    clear hr h0 h1 h2
    go_enter Try.func143, Try.ntmps143
    go_wp2
    go_ret
    exact ⟨rfl, rfl⟩
  replace h2 : N = 0 := Classical.byContradiction h2
  have y2 : (N == 0) = true := by simp [h2]
  obtain rfl : r = true := hr.2 ⟨h0, h1, h2⟩
  clear hr h0 h1 h2
  go_enter Try.func143, Try.ntmps143
  go_wp2
  go_ret
  exact ⟨rfl, rfl⟩

set_option maxRecDepth 100000 in
set_option maxHeartbeats 1600000 in
theorem l8Needs2_000 (g : Nat) (t i a N : Int) (A : Option Addr) (n c : Nat) (r : Bool) (w : World) (x1 : w.cell? ⟨g, 3, none⟩ = some (.slice A n c)) (x2 : w.cell? ⟨g, 4, none⟩ = some (.int .i64 t)) (x3 : w.cell? ⟨g, 5, none⟩ = some (.int .i64 i)) (x4 : w.cell? ⟨g, 6, none⟩ = some (.int .i64 a)) (x5 : w.cell? ⟨g, 7, none⟩ = some (.int .i64 N)) (hr : r = true ↔ n = 0 ∧ (t = 0 ∧ i = 0 ∧ a = 0) ∧ N = 0) :
    Calls Try.prog 143 #[.pointer (some ⟨g, 2, none⟩), .bool false, .bool false, .bool false] w fun e w' => e = .returned (.bool r) ∧ w' = w := by
  by_cases h0 : ¬ n = 0
  · obtain rfl : r = false := by cases r with | false => rfl | true => exact absurd (hr.1 rfl).1 h0
    have y0 : ((n : Int) == 0) = false := by simp; omega
    clear hr h0
    go_enter Try.func143, Try.ntmps143
    go_wp2
    go_ret
    exact ⟨rfl, rfl⟩
  replace h0 : n = 0 := Classical.byContradiction h0
  have y0 : ((n : Int) == 0) = true := by simp [h0]
  by_cases h1 : ¬ (t = 0 ∧ i = 0 ∧ a = 0)
  · obtain rfl : r = false := by cases r with | false => rfl | true => exact absurd (hr.1 rfl).2.1 h1
    have y1 := eqlKey_yes t i a 0 0 0 false (by simpa using h1)
    clear hr h0 h1
    go_enter Try.func143, Try.ntmps143
    go_wp2
    go_ret
    exact ⟨rfl, rfl⟩
  replace h1 : (t = 0 ∧ i = 0 ∧ a = 0) := Classical.byContradiction h1
  have y1 := eqlKey_yes t i a 0 0 0 true (by simpa using h1)
  by_cases h2 : ¬ N = 0
  · obtain rfl : r = false := by cases r with | false => rfl | true => exact absurd (hr.1 rfl).2.2 h2
    have y2 : (N == 0) = false := by simpa using h2
    clear hr h0 h1 h2
    go_enter Try.func143, Try.ntmps143
    go_wp2
    go_ret
    exact ⟨rfl, rfl⟩
  replace h2 : N = 0 := Classical.byContradiction h2
  have y2 : (N == 0) = true := by simp [h2]
  obtain rfl : r = true := hr.2 ⟨h0, h1, h2⟩
  clear hr h0 h1 h2
  go_enter Try.func143, Try.ntmps143
  go_wp2
  go_ret
  exact ⟨rfl, rfl⟩

set_option maxRecDepth 100000 in
set_option maxHeartbeats 25600000 in
theorem specOpFault_any (k t i a N : Int) (q : Bool) (lo hi : Nat) (A : Option Addr) (n c : Nat) (xs : List Int) (w : World) (ha : Rep.u8.Sl q lo hi w A n xs) (hh : hi ≤ w.heap.size) (hn : n ≤ 1048576) :
    Calls Try.prog 65 #[.agg #[.int .i64 k, .slice A n c, .int .i64 t, .int .i64 i, .int .i64 a, .int .i64 N]] w fun e w' => e = .returned (.int .i64 (opf k xs t i a N)) ∧ Below w.heap.size w w' := by
  have hl := ha.1
  have hnl := len_nil hl
  clear ha
  by_cases hk : ¬ (1 ≤ k ∧ k ≤ 6)
  · have HQ : Hid (opf k xs t i a N = 1) := Lib.hid (by unfold opf; rw [if_pos (fun h => hk (opForm_kind h))])
    clear hnl hl
    have HB := Lib.hid (Below.refl w.heap.size w)
    have hk1 : (k == 1) = false := by simp; omega
    have hk2 : (k == 2) = false := by simp; omega
    have hk3 : (k == 3) = false := by simp; omega
    have hk4 : (k == 4) = false := by simp; omega
    have hk5 : (k == 5) = false := by simp; omega
    have hk6 : (k == 6) = false := by simp; omega
    clear hk
    go_enter Try.func65, Try.ntmps65
    go_wp2
    obtain ⟨U1, hU1⟩ : ∃ W : World, W = (w.alloc (.cells #[.int .i64 k, .slice A n c, .int .i64 t, .int .i64 i, .int .i64 a, .int .i64 N] 93)) := ⟨_, rfl⟩
    have hb : Below w.heap.size w U1 := by rw [hU1]; exact ((Below.refl _ _).alloc (Nat.le_refl _) _)
    have zz : Hid (w.heap.size + 1 = U1.heap.size) := Lib.hid (by rw [hU1]; simp)
    have HX1 : Kept w.heap.size (w.heap.size + 1) (BoxK w.heap.size 93 #[.int .i64 k, .slice A n c, .int .i64 t, .int .i64 i, .int .i64 a, .int .i64 N]) U1 := by rw [hU1]; exact Kept.box (Box.made_at _ _ _ rfl)
    replace HB := Lib.hid (below_step HB.out hb)
    clear hb
    have Z1 := zz; clear zz
    subst hU1
    go_ret
    exact ⟨by rw [HQ.out]; try rfl, HB.out⟩
  replace hk : 1 ≤ k ∧ k ≤ 6 := Classical.byContradiction hk
  rcases (show k = 1 ∨ k = 2 ∨ k = 3 ∨ k = 4 ∨ k = 5 ∨ k = 6 by omega) with rfl | rfl | rfl | rfl | rfl | rfl
  · have hfi : opForm 1 xs t i a N ↔ (t = 0 ∧ i = 0 ∧ a = 0) ∧ N = 0 := by unfold opForm; rw [hnl]; simp
    have hro : opRange 1 t i a N = true := by simp [opRange]
    clear hk hnl
    by_cases hf : ¬ ((t = 0 ∧ i = 0 ∧ a = 0) ∧ N = 0)
    · have HF := Lib.hid hf
      have HQ : Hid (opf 1 xs t i a N = 1) := Lib.hid (by unfold opf; rw [if_pos (fun h => hf (hfi.1 h))])
      clear hf hfi hro hl
      have HB := Lib.hid (Below.refl w.heap.size w)
      go_enter Try.func65, Try.ntmps65
      go_wp2_with fail
      refine Calls.name ?_
      intro U1 hU1
      have hb : Below w.heap.size w U1 := by rw [hU1]; exact ((Below.refl _ _).alloc (Nat.le_refl _) _)
      have zz : Hid (w.heap.size + 1 = U1.heap.size) := Lib.hid (by rw [hU1]; simp)
      have HX1 : Kept w.heap.size (w.heap.size + 1) (BoxK w.heap.size 93 #[.int .i64 1, .slice A n c, .int .i64 t, .int .i64 i, .int .i64 a, .int .i64 N]) U1 := by rw [hU1]; exact Kept.box (Box.made_at _ _ _ rfl)
      replace HB := Lib.hid (below_step HB.out hb)
      clear hb
      have Z1 := zz; clear zz
      clear hU1
      have HLK := Lib.hid HX1.bx
      refine (l8Needs0_100 _ t i a N A n c false _ (HLK.out.look 1) (HLK.out.look 2) (HLK.out.look 3) (HLK.out.look 4) (HLK.out.look 5) ⟨fun h => (by cases h), fun h => absurd h HF.out⟩).mono ?_
      rintro e w2 ⟨rfl, rfl⟩
      clear HLK
      have l2_0 := HX1.bx.lt
      go_wp2
      clear l2_0
      go_ret
      exact ⟨by rw [HQ.out]; try rfl, HB.out⟩
    have hf1 : opForm 1 xs t i a N := hfi.2 (Classical.byContradiction hf)
    have HF : Hid ((t = 0 ∧ i = 0 ∧ a = 0) ∧ N = 0) := Lib.hid (Classical.byContradiction hf)
    have hg2 : ¬ opRange 1 t i a N = false := by rw [hro]; simp
    by_cases hx : 400 < xs.length
    · have HQ : Hid (opf 1 xs t i a N = 2) := Lib.hid (by unfold opf; rw [if_neg (fun h => h hf1), if_neg hg2, if_pos hx])
      have hlt : (400 : Int) < n := by omega
      clear hf hfi hro hl hf1 hg2 hx
      have HB := Lib.hid (Below.refl w.heap.size w)
      go_enter Try.func65, Try.ntmps65
      go_wp2_with fail
      refine Calls.name ?_
      intro U1 hU1
      have hb : Below w.heap.size w U1 := by rw [hU1]; exact ((Below.refl _ _).alloc (Nat.le_refl _) _)
      have zz : Hid (w.heap.size + 1 = U1.heap.size) := Lib.hid (by rw [hU1]; simp)
      have HX1 : Kept w.heap.size (w.heap.size + 1) (BoxK w.heap.size 93 #[.int .i64 1, .slice A n c, .int .i64 t, .int .i64 i, .int .i64 a, .int .i64 N]) U1 := by rw [hU1]; exact Kept.box (Box.made_at _ _ _ rfl)
      replace HB := Lib.hid (below_step HB.out hb)
      clear hb
      have Z1 := zz; clear zz
      clear hU1
      have HLK := Lib.hid HX1.bx
      refine (l8Needs0_100 _ t i a N A n c true _ (HLK.out.look 1) (HLK.out.look 2) (HLK.out.look 3) (HLK.out.look 4) (HLK.out.look 5) ⟨fun _ => HF.out, fun _ => rfl⟩).mono ?_
      rintro e w2 ⟨rfl, rfl⟩
      clear HLK
      have c2_0 := HX1.look 1
      have l2_0 := HX1.bx.lt
      go_wp2
      clear c2_0 l2_0
      go_ret
      exact ⟨by rw [HQ.out]; try rfl, HB.out⟩
    · have HQ : Hid (opf 1 xs t i a N = 0) := Lib.hid (by unfold opf; rw [if_neg (fun h => h hf1), if_neg hg2, if_neg hx])
      have hlt : ¬ (400 : Int) < n := by omega
      clear hf hfi hro hl hf1 hg2 hx
      have HB := Lib.hid (Below.refl w.heap.size w)
      go_enter Try.func65, Try.ntmps65
      go_wp2_with fail
      refine Calls.name ?_
      intro U1 hU1
      have hb : Below w.heap.size w U1 := by rw [hU1]; exact ((Below.refl _ _).alloc (Nat.le_refl _) _)
      have zz : Hid (w.heap.size + 1 = U1.heap.size) := Lib.hid (by rw [hU1]; simp)
      have HX1 : Kept w.heap.size (w.heap.size + 1) (BoxK w.heap.size 93 #[.int .i64 1, .slice A n c, .int .i64 t, .int .i64 i, .int .i64 a, .int .i64 N]) U1 := by rw [hU1]; exact Kept.box (Box.made_at _ _ _ rfl)
      replace HB := Lib.hid (below_step HB.out hb)
      clear hb
      have Z1 := zz; clear zz
      clear hU1
      have HLK := Lib.hid HX1.bx
      refine (l8Needs0_100 _ t i a N A n c true _ (HLK.out.look 1) (HLK.out.look 2) (HLK.out.look 3) (HLK.out.look 4) (HLK.out.look 5) ⟨fun _ => HF.out, fun _ => rfl⟩).mono ?_
      rintro e w2 ⟨rfl, rfl⟩
      clear HLK
      have c2_0 := HX1.look 1
      have l2_0 := HX1.bx.lt
      go_wp2
      clear c2_0 l2_0
      go_ret
      exact ⟨by rw [HQ.out]; try rfl, HB.out⟩
  · have hfi : opForm 2 xs t i a N ↔ n = 0 ∧ N = 0 := by unfold opForm; rw [hnl]; simp
    have hro : opRange 2 t i a N = sk t i a := by simp [opRange]
    clear hk hnl
    by_cases hf : ¬ (n = 0 ∧ N = 0)
    · have HF := Lib.hid hf
      have HQ : Hid (opf 2 xs t i a N = 1) := Lib.hid (by unfold opf; rw [if_pos (fun h => hf (hfi.1 h))])
      obtain ⟨rg, hrg⟩ : ∃ r, sk t i a = r := ⟨_, rfl⟩
      have HRG := Lib.hid hrg
      clear hrg
      clear hf hfi hro hl
      have HB := Lib.hid (Below.refl w.heap.size w)
      go_enter Try.func65, Try.ntmps65
      go_wp2_with fail
      refine Calls.name ?_
      intro U1 hU1
      have hb : Below w.heap.size w U1 := by rw [hU1]; exact ((Below.refl _ _).alloc (Nat.le_refl _) _)
      have zz : Hid (w.heap.size + 1 = U1.heap.size) := Lib.hid (by rw [hU1]; simp)
      have HX1 : Kept w.heap.size (w.heap.size + 1) (BoxK w.heap.size 93 #[.int .i64 2, .slice A n c, .int .i64 t, .int .i64 i, .int .i64 a, .int .i64 N]) U1 := by rw [hU1]; exact Kept.box (Box.made_at _ _ _ rfl)
      replace HB := Lib.hid (below_step HB.out hb)
      clear hb
      have Z1 := zz; clear zz
      clear hU1
      have HLK := Lib.hid HX1.bx
      refine (l8Needs0_010 _ t i a N A n c false _ (HLK.out.look 1) (HLK.out.look 2) (HLK.out.look 3) (HLK.out.look 4) (HLK.out.look 5) ⟨fun h => (by cases h), fun h => absurd h HF.out⟩).mono ?_
      rintro e w2 ⟨rfl, rfl⟩
      clear HLK
      have c2_0 := HX1.look 2
      have c2_1 := HX1.look 3
      have c2_2 := HX1.look 4
      have l2_0 := HX1.bx.lt
      go_wp2_with fail
      clear c2_0 c2_1 c2_2 l2_0
      refine (l8Key_any t i a _).mono ?_
      rw [HRG.out]
      rintro e w3 ⟨rfl, hb⟩
      have Z2 := Lib.hid hb.size
      replace HX1 := HX1.below hb
      replace HB := Lib.hid (below_step HB.out hb)
      clear hb
      have l3_0 := HX1.bx.lt
      go_wp2
      clear l3_0
      go_ret
      exact ⟨by rw [HQ.out]; try rfl, HB.out⟩
    have hf1 : opForm 2 xs t i a N := hfi.2 (Classical.byContradiction hf)
    have HF : Hid (n = 0 ∧ N = 0) := Lib.hid (Classical.byContradiction hf)
    by_cases hg : sk t i a = false
    · have HRG := Lib.hid hg
      have HQ : Hid (opf 2 xs t i a N = 3) := Lib.hid (by unfold opf; rw [if_neg (fun h => h hf1), if_pos (hro.trans hg)])
      clear hf hfi hro hl hg hf1
      have HB := Lib.hid (Below.refl w.heap.size w)
      go_enter Try.func65, Try.ntmps65
      go_wp2_with fail
      refine Calls.name ?_
      intro U1 hU1
      have hb : Below w.heap.size w U1 := by rw [hU1]; exact ((Below.refl _ _).alloc (Nat.le_refl _) _)
      have zz : Hid (w.heap.size + 1 = U1.heap.size) := Lib.hid (by rw [hU1]; simp)
      have HX1 : Kept w.heap.size (w.heap.size + 1) (BoxK w.heap.size 93 #[.int .i64 2, .slice A n c, .int .i64 t, .int .i64 i, .int .i64 a, .int .i64 N]) U1 := by rw [hU1]; exact Kept.box (Box.made_at _ _ _ rfl)
      replace HB := Lib.hid (below_step HB.out hb)
      clear hb
      have Z1 := zz; clear zz
      clear hU1
      have HLK := Lib.hid HX1.bx
      refine (l8Needs0_010 _ t i a N A n c true _ (HLK.out.look 1) (HLK.out.look 2) (HLK.out.look 3) (HLK.out.look 4) (HLK.out.look 5) ⟨fun _ => HF.out, fun _ => rfl⟩).mono ?_
      rintro e w2 ⟨rfl, rfl⟩
      clear HLK
      have c2_0 := HX1.look 2
      have c2_1 := HX1.look 3
      have c2_2 := HX1.look 4
      have l2_0 := HX1.bx.lt
      go_wp2_with fail
      clear c2_0 c2_1 c2_2 l2_0
      refine (l8Key_any t i a _).mono ?_
      rw [HRG.out]
      rintro e w3 ⟨rfl, hb⟩
      have Z2 := Lib.hid hb.size
      replace HX1 := HX1.below hb
      replace HB := Lib.hid (below_step HB.out hb)
      clear hb
      have l3_0 := HX1.bx.lt
      go_wp2
      clear l3_0
      go_ret
      exact ⟨by rw [HQ.out]; try rfl, HB.out⟩
    have hg1 : sk t i a = true := by simpa using hg
    have HRG := Lib.hid hg1
    have hg2 : ¬ opRange 2 t i a N = false := by rw [hro, hg1]; simp
    by_cases hx : 400 < xs.length
    · have HQ : Hid (opf 2 xs t i a N = 2) := Lib.hid (by unfold opf; rw [if_neg (fun h => h hf1), if_neg hg2, if_pos hx])
      have hlt : (400 : Int) < n := by omega
      clear hf hfi hro hl hf1 hg2 hx hg hg1
      have HB := Lib.hid (Below.refl w.heap.size w)
      go_enter Try.func65, Try.ntmps65
      go_wp2_with fail
      refine Calls.name ?_
      intro U1 hU1
      have hb : Below w.heap.size w U1 := by rw [hU1]; exact ((Below.refl _ _).alloc (Nat.le_refl _) _)
      have zz : Hid (w.heap.size + 1 = U1.heap.size) := Lib.hid (by rw [hU1]; simp)
      have HX1 : Kept w.heap.size (w.heap.size + 1) (BoxK w.heap.size 93 #[.int .i64 2, .slice A n c, .int .i64 t, .int .i64 i, .int .i64 a, .int .i64 N]) U1 := by rw [hU1]; exact Kept.box (Box.made_at _ _ _ rfl)
      replace HB := Lib.hid (below_step HB.out hb)
      clear hb
      have Z1 := zz; clear zz
      clear hU1
      have HLK := Lib.hid HX1.bx
      refine (l8Needs0_010 _ t i a N A n c true _ (HLK.out.look 1) (HLK.out.look 2) (HLK.out.look 3) (HLK.out.look 4) (HLK.out.look 5) ⟨fun _ => HF.out, fun _ => rfl⟩).mono ?_
      rintro e w2 ⟨rfl, rfl⟩
      clear HLK
      have c2_0 := HX1.look 2
      have c2_1 := HX1.look 3
      have c2_2 := HX1.look 4
      have l2_0 := HX1.bx.lt
      go_wp2_with fail
      clear c2_0 c2_1 c2_2 l2_0
      refine (l8Key_any t i a _).mono ?_
      rw [HRG.out]
      rintro e w3 ⟨rfl, hb⟩
      have Z2 := Lib.hid hb.size
      replace HX1 := HX1.below hb
      replace HB := Lib.hid (below_step HB.out hb)
      clear hb
      have c3_0 := HX1.look 1
      have l3_0 := HX1.bx.lt
      go_wp2
      clear c3_0 l3_0
      go_ret
      exact ⟨by rw [HQ.out]; try rfl, HB.out⟩
    · have HQ : Hid (opf 2 xs t i a N = 0) := Lib.hid (by unfold opf; rw [if_neg (fun h => h hf1), if_neg hg2, if_neg hx])
      have hlt : ¬ (400 : Int) < n := by omega
      clear hf hfi hro hl hf1 hg2 hx hg hg1
      have HB := Lib.hid (Below.refl w.heap.size w)
      go_enter Try.func65, Try.ntmps65
      go_wp2_with fail
      refine Calls.name ?_
      intro U1 hU1
      have hb : Below w.heap.size w U1 := by rw [hU1]; exact ((Below.refl _ _).alloc (Nat.le_refl _) _)
      have zz : Hid (w.heap.size + 1 = U1.heap.size) := Lib.hid (by rw [hU1]; simp)
      have HX1 : Kept w.heap.size (w.heap.size + 1) (BoxK w.heap.size 93 #[.int .i64 2, .slice A n c, .int .i64 t, .int .i64 i, .int .i64 a, .int .i64 N]) U1 := by rw [hU1]; exact Kept.box (Box.made_at _ _ _ rfl)
      replace HB := Lib.hid (below_step HB.out hb)
      clear hb
      have Z1 := zz; clear zz
      clear hU1
      have HLK := Lib.hid HX1.bx
      refine (l8Needs0_010 _ t i a N A n c true _ (HLK.out.look 1) (HLK.out.look 2) (HLK.out.look 3) (HLK.out.look 4) (HLK.out.look 5) ⟨fun _ => HF.out, fun _ => rfl⟩).mono ?_
      rintro e w2 ⟨rfl, rfl⟩
      clear HLK
      have c2_0 := HX1.look 2
      have c2_1 := HX1.look 3
      have c2_2 := HX1.look 4
      have l2_0 := HX1.bx.lt
      go_wp2_with fail
      clear c2_0 c2_1 c2_2 l2_0
      refine (l8Key_any t i a _).mono ?_
      rw [HRG.out]
      rintro e w3 ⟨rfl, hb⟩
      have Z2 := Lib.hid hb.size
      replace HX1 := HX1.below hb
      replace HB := Lib.hid (below_step HB.out hb)
      clear hb
      have c3_0 := HX1.look 1
      have l3_0 := HX1.bx.lt
      go_wp2
      clear c3_0 l3_0
      go_ret
      exact ⟨by rw [HQ.out]; try rfl, HB.out⟩
  · have hfi : opForm 3 xs t i a N ↔ n = 0 ∧ N = 0 := by unfold opForm; rw [hnl]; simp
    have hro : opRange 3 t i a N = sk t i a := by simp [opRange]
    clear hk hnl
    by_cases hf : ¬ (n = 0 ∧ N = 0)
    · have HF := Lib.hid hf
      have HQ : Hid (opf 3 xs t i a N = 1) := Lib.hid (by unfold opf; rw [if_pos (fun h => hf (hfi.1 h))])
      obtain ⟨rg, hrg⟩ : ∃ r, sk t i a = r := ⟨_, rfl⟩
      have HRG := Lib.hid hrg
      clear hrg
      clear hf hfi hro hl
      have HB := Lib.hid (Below.refl w.heap.size w)
      go_enter Try.func65, Try.ntmps65
      go_wp2_with fail
      refine Calls.name ?_
      intro U1 hU1
      have hb : Below w.heap.size w U1 := by rw [hU1]; exact ((Below.refl _ _).alloc (Nat.le_refl _) _)
      have zz : Hid (w.heap.size + 1 = U1.heap.size) := Lib.hid (by rw [hU1]; simp)
      have HX1 : Kept w.heap.size (w.heap.size + 1) (BoxK w.heap.size 93 #[.int .i64 3, .slice A n c, .int .i64 t, .int .i64 i, .int .i64 a, .int .i64 N]) U1 := by rw [hU1]; exact Kept.box (Box.made_at _ _ _ rfl)
      replace HB := Lib.hid (below_step HB.out hb)
      clear hb
      have Z1 := zz; clear zz
      clear hU1
      have HLK := Lib.hid HX1.bx
      refine (l8Needs0_010 _ t i a N A n c false _ (HLK.out.look 1) (HLK.out.look 2) (HLK.out.look 3) (HLK.out.look 4) (HLK.out.look 5) ⟨fun h => (by cases h), fun h => absurd h HF.out⟩).mono ?_
      rintro e w2 ⟨rfl, rfl⟩
      clear HLK
      have c2_0 := HX1.look 2
      have c2_1 := HX1.look 3
      have c2_2 := HX1.look 4
      have l2_0 := HX1.bx.lt
      go_wp2_with fail
      clear c2_0 c2_1 c2_2 l2_0
      refine (l8Key_any t i a _).mono ?_
      rw [HRG.out]
      rintro e w3 ⟨rfl, hb⟩
      have Z2 := Lib.hid hb.size
      replace HX1 := HX1.below hb
      replace HB := Lib.hid (below_step HB.out hb)
      clear hb
      have l3_0 := HX1.bx.lt
      go_wp2
      clear l3_0
      go_ret
      exact ⟨by rw [HQ.out]; try rfl, HB.out⟩
    have hf1 : opForm 3 xs t i a N := hfi.2 (Classical.byContradiction hf)
    have HF : Hid (n = 0 ∧ N = 0) := Lib.hid (Classical.byContradiction hf)
    by_cases hg : sk t i a = false
    · have HRG := Lib.hid hg
      have HQ : Hid (opf 3 xs t i a N = 3) := Lib.hid (by unfold opf; rw [if_neg (fun h => h hf1), if_pos (hro.trans hg)])
      clear hf hfi hro hl hg hf1
      have HB := Lib.hid (Below.refl w.heap.size w)
      go_enter Try.func65, Try.ntmps65
      go_wp2_with fail
      refine Calls.name ?_
      intro U1 hU1
      have hb : Below w.heap.size w U1 := by rw [hU1]; exact ((Below.refl _ _).alloc (Nat.le_refl _) _)
      have zz : Hid (w.heap.size + 1 = U1.heap.size) := Lib.hid (by rw [hU1]; simp)
      have HX1 : Kept w.heap.size (w.heap.size + 1) (BoxK w.heap.size 93 #[.int .i64 3, .slice A n c, .int .i64 t, .int .i64 i, .int .i64 a, .int .i64 N]) U1 := by rw [hU1]; exact Kept.box (Box.made_at _ _ _ rfl)
      replace HB := Lib.hid (below_step HB.out hb)
      clear hb
      have Z1 := zz; clear zz
      clear hU1
      have HLK := Lib.hid HX1.bx
      refine (l8Needs0_010 _ t i a N A n c true _ (HLK.out.look 1) (HLK.out.look 2) (HLK.out.look 3) (HLK.out.look 4) (HLK.out.look 5) ⟨fun _ => HF.out, fun _ => rfl⟩).mono ?_
      rintro e w2 ⟨rfl, rfl⟩
      clear HLK
      have c2_0 := HX1.look 2
      have c2_1 := HX1.look 3
      have c2_2 := HX1.look 4
      have l2_0 := HX1.bx.lt
      go_wp2_with fail
      clear c2_0 c2_1 c2_2 l2_0
      refine (l8Key_any t i a _).mono ?_
      rw [HRG.out]
      rintro e w3 ⟨rfl, hb⟩
      have Z2 := Lib.hid hb.size
      replace HX1 := HX1.below hb
      replace HB := Lib.hid (below_step HB.out hb)
      clear hb
      have l3_0 := HX1.bx.lt
      go_wp2
      clear l3_0
      go_ret
      exact ⟨by rw [HQ.out]; try rfl, HB.out⟩
    have hg1 : sk t i a = true := by simpa using hg
    have HRG := Lib.hid hg1
    have hg2 : ¬ opRange 3 t i a N = false := by rw [hro, hg1]; simp
    by_cases hx : 400 < xs.length
    · have HQ : Hid (opf 3 xs t i a N = 2) := Lib.hid (by unfold opf; rw [if_neg (fun h => h hf1), if_neg hg2, if_pos hx])
      have hlt : (400 : Int) < n := by omega
      clear hf hfi hro hl hf1 hg2 hx hg hg1
      have HB := Lib.hid (Below.refl w.heap.size w)
      go_enter Try.func65, Try.ntmps65
      go_wp2_with fail
      refine Calls.name ?_
      intro U1 hU1
      have hb : Below w.heap.size w U1 := by rw [hU1]; exact ((Below.refl _ _).alloc (Nat.le_refl _) _)
      have zz : Hid (w.heap.size + 1 = U1.heap.size) := Lib.hid (by rw [hU1]; simp)
      have HX1 : Kept w.heap.size (w.heap.size + 1) (BoxK w.heap.size 93 #[.int .i64 3, .slice A n c, .int .i64 t, .int .i64 i, .int .i64 a, .int .i64 N]) U1 := by rw [hU1]; exact Kept.box (Box.made_at _ _ _ rfl)
      replace HB := Lib.hid (below_step HB.out hb)
      clear hb
      have Z1 := zz; clear zz
      clear hU1
      have HLK := Lib.hid HX1.bx
      refine (l8Needs0_010 _ t i a N A n c true _ (HLK.out.look 1) (HLK.out.look 2) (HLK.out.look 3) (HLK.out.look 4) (HLK.out.look 5) ⟨fun _ => HF.out, fun _ => rfl⟩).mono ?_
      rintro e w2 ⟨rfl, rfl⟩
      clear HLK
      have c2_0 := HX1.look 2
      have c2_1 := HX1.look 3
      have c2_2 := HX1.look 4
      have l2_0 := HX1.bx.lt
      go_wp2_with fail
      clear c2_0 c2_1 c2_2 l2_0
      refine (l8Key_any t i a _).mono ?_
      rw [HRG.out]
      rintro e w3 ⟨rfl, hb⟩
      have Z2 := Lib.hid hb.size
      replace HX1 := HX1.below hb
      replace HB := Lib.hid (below_step HB.out hb)
      clear hb
      have c3_0 := HX1.look 1
      have l3_0 := HX1.bx.lt
      go_wp2
      clear c3_0 l3_0
      go_ret
      exact ⟨by rw [HQ.out]; try rfl, HB.out⟩
    · have HQ : Hid (opf 3 xs t i a N = 0) := Lib.hid (by unfold opf; rw [if_neg (fun h => h hf1), if_neg hg2, if_neg hx])
      have hlt : ¬ (400 : Int) < n := by omega
      clear hf hfi hro hl hf1 hg2 hx hg hg1
      have HB := Lib.hid (Below.refl w.heap.size w)
      go_enter Try.func65, Try.ntmps65
      go_wp2_with fail
      refine Calls.name ?_
      intro U1 hU1
      have hb : Below w.heap.size w U1 := by rw [hU1]; exact ((Below.refl _ _).alloc (Nat.le_refl _) _)
      have zz : Hid (w.heap.size + 1 = U1.heap.size) := Lib.hid (by rw [hU1]; simp)
      have HX1 : Kept w.heap.size (w.heap.size + 1) (BoxK w.heap.size 93 #[.int .i64 3, .slice A n c, .int .i64 t, .int .i64 i, .int .i64 a, .int .i64 N]) U1 := by rw [hU1]; exact Kept.box (Box.made_at _ _ _ rfl)
      replace HB := Lib.hid (below_step HB.out hb)
      clear hb
      have Z1 := zz; clear zz
      clear hU1
      have HLK := Lib.hid HX1.bx
      refine (l8Needs0_010 _ t i a N A n c true _ (HLK.out.look 1) (HLK.out.look 2) (HLK.out.look 3) (HLK.out.look 4) (HLK.out.look 5) ⟨fun _ => HF.out, fun _ => rfl⟩).mono ?_
      rintro e w2 ⟨rfl, rfl⟩
      clear HLK
      have c2_0 := HX1.look 2
      have c2_1 := HX1.look 3
      have c2_2 := HX1.look 4
      have l2_0 := HX1.bx.lt
      go_wp2_with fail
      clear c2_0 c2_1 c2_2 l2_0
      refine (l8Key_any t i a _).mono ?_
      rw [HRG.out]
      rintro e w3 ⟨rfl, hb⟩
      have Z2 := Lib.hid hb.size
      replace HX1 := HX1.below hb
      replace HB := Lib.hid (below_step HB.out hb)
      clear hb
      have c3_0 := HX1.look 1
      have l3_0 := HX1.bx.lt
      go_wp2
      clear c3_0 l3_0
      go_ret
      exact ⟨by rw [HQ.out]; try rfl, HB.out⟩
  · have hfi : opForm 4 xs t i a N ↔ n = 0 ∧ (t = 0 ∧ i = 0 ∧ a = 0) := by unfold opForm; rw [hnl]; simp
    have hro : opRange 4 t i a N = allIn 1 1000 [N] := by simp [opRange]
    clear hk hnl
    by_cases hf : ¬ (n = 0 ∧ (t = 0 ∧ i = 0 ∧ a = 0))
    · have HF := Lib.hid hf
      have HQ : Hid (opf 4 xs t i a N = 1) := Lib.hid (by unfold opf; rw [if_pos (fun h => hf (hfi.1 h))])
      obtain ⟨rg, hrg⟩ : ∃ r, allIn 1 1000 [N] = r := ⟨_, rfl⟩
      have HRG := Lib.hid hrg
      clear hrg
      clear hf hfi hro hl
      have HB := Lib.hid (Below.refl w.heap.size w)
      go_enter Try.func65, Try.ntmps65
      go_wp2_with fail
      refine Calls.name ?_
      intro U1 hU1
      have hb : Below w.heap.size w U1 := by rw [hU1]; exact ((Below.refl _ _).alloc (Nat.le_refl _) _)
      have zz : Hid (w.heap.size + 1 = U1.heap.size) := Lib.hid (by rw [hU1]; simp)
      have HX1 : Kept w.heap.size (w.heap.size + 1) (BoxK w.heap.size 93 #[.int .i64 4, .slice A n c, .int .i64 t, .int .i64 i, .int .i64 a, .int .i64 N]) U1 := by rw [hU1]; exact Kept.box (Box.made_at _ _ _ rfl)
      replace HB := Lib.hid (below_step HB.out hb)
      clear hb
      have Z1 := zz; clear zz
      clear hU1
      have HLK := Lib.hid HX1.bx
      refine (l8Needs0_001 _ t i a N A n c false _ (HLK.out.look 1) (HLK.out.look 2) (HLK.out.look 3) (HLK.out.look 4) (HLK.out.look 5) ⟨fun h => (by cases h), fun h => absurd h HF.out⟩).mono ?_
      rintro e w2 ⟨rfl, rfl⟩
      clear HLK
      have c2_0 := HX1.look 5
      have l2_0 := HX1.bx.lt
      go_wp2_with fail
      clear c2_0 l2_0
      refine (l1In_any N 1 1000 _).mono ?_
      rw [HRG.out]
      rintro e w3 ⟨rfl, rfl⟩
      have l3_0 := HX1.bx.lt
      go_wp2
      clear l3_0
      go_ret
      exact ⟨by rw [HQ.out]; try rfl, HB.out⟩
    have hf1 : opForm 4 xs t i a N := hfi.2 (Classical.byContradiction hf)
    have HF : Hid (n = 0 ∧ (t = 0 ∧ i = 0 ∧ a = 0)) := Lib.hid (Classical.byContradiction hf)
    by_cases hg : allIn 1 1000 [N] = false
    · have HRG := Lib.hid hg
      have HQ : Hid (opf 4 xs t i a N = 3) := Lib.hid (by unfold opf; rw [if_neg (fun h => h hf1), if_pos (hro.trans hg)])
      clear hf hfi hro hl hg hf1
      have HB := Lib.hid (Below.refl w.heap.size w)
      go_enter Try.func65, Try.ntmps65
      go_wp2_with fail
      refine Calls.name ?_
      intro U1 hU1
      have hb : Below w.heap.size w U1 := by rw [hU1]; exact ((Below.refl _ _).alloc (Nat.le_refl _) _)
      have zz : Hid (w.heap.size + 1 = U1.heap.size) := Lib.hid (by rw [hU1]; simp)
      have HX1 : Kept w.heap.size (w.heap.size + 1) (BoxK w.heap.size 93 #[.int .i64 4, .slice A n c, .int .i64 t, .int .i64 i, .int .i64 a, .int .i64 N]) U1 := by rw [hU1]; exact Kept.box (Box.made_at _ _ _ rfl)
      replace HB := Lib.hid (below_step HB.out hb)
      clear hb
      have Z1 := zz; clear zz
      clear hU1
      have HLK := Lib.hid HX1.bx
      refine (l8Needs0_001 _ t i a N A n c true _ (HLK.out.look 1) (HLK.out.look 2) (HLK.out.look 3) (HLK.out.look 4) (HLK.out.look 5) ⟨fun _ => HF.out, fun _ => rfl⟩).mono ?_
      rintro e w2 ⟨rfl, rfl⟩
      clear HLK
      have c2_0 := HX1.look 5
      have l2_0 := HX1.bx.lt
      go_wp2_with fail
      clear c2_0 l2_0
      refine (l1In_any N 1 1000 _).mono ?_
      rw [HRG.out]
      rintro e w3 ⟨rfl, rfl⟩
      have l3_0 := HX1.bx.lt
      go_wp2
      clear l3_0
      go_ret
      exact ⟨by rw [HQ.out]; try rfl, HB.out⟩
    have hg1 : allIn 1 1000 [N] = true := by simpa using hg
    have HRG := Lib.hid hg1
    have hg2 : ¬ opRange 4 t i a N = false := by rw [hro, hg1]; simp
    by_cases hx : 400 < xs.length
    · have HQ : Hid (opf 4 xs t i a N = 2) := Lib.hid (by unfold opf; rw [if_neg (fun h => h hf1), if_neg hg2, if_pos hx])
      have hlt : (400 : Int) < n := by omega
      clear hf hfi hro hl hf1 hg2 hx hg hg1
      have HB := Lib.hid (Below.refl w.heap.size w)
      go_enter Try.func65, Try.ntmps65
      go_wp2_with fail
      refine Calls.name ?_
      intro U1 hU1
      have hb : Below w.heap.size w U1 := by rw [hU1]; exact ((Below.refl _ _).alloc (Nat.le_refl _) _)
      have zz : Hid (w.heap.size + 1 = U1.heap.size) := Lib.hid (by rw [hU1]; simp)
      have HX1 : Kept w.heap.size (w.heap.size + 1) (BoxK w.heap.size 93 #[.int .i64 4, .slice A n c, .int .i64 t, .int .i64 i, .int .i64 a, .int .i64 N]) U1 := by rw [hU1]; exact Kept.box (Box.made_at _ _ _ rfl)
      replace HB := Lib.hid (below_step HB.out hb)
      clear hb
      have Z1 := zz; clear zz
      clear hU1
      have HLK := Lib.hid HX1.bx
      refine (l8Needs0_001 _ t i a N A n c true _ (HLK.out.look 1) (HLK.out.look 2) (HLK.out.look 3) (HLK.out.look 4) (HLK.out.look 5) ⟨fun _ => HF.out, fun _ => rfl⟩).mono ?_
      rintro e w2 ⟨rfl, rfl⟩
      clear HLK
      have c2_0 := HX1.look 5
      have l2_0 := HX1.bx.lt
      go_wp2_with fail
      clear c2_0 l2_0
      refine (l1In_any N 1 1000 _).mono ?_
      rw [HRG.out]
      rintro e w3 ⟨rfl, rfl⟩
      have c3_0 := HX1.look 1
      have l3_0 := HX1.bx.lt
      go_wp2
      clear c3_0 l3_0
      go_ret
      exact ⟨by rw [HQ.out]; try rfl, HB.out⟩
    · have HQ : Hid (opf 4 xs t i a N = 0) := Lib.hid (by unfold opf; rw [if_neg (fun h => h hf1), if_neg hg2, if_neg hx])
      have hlt : ¬ (400 : Int) < n := by omega
      clear hf hfi hro hl hf1 hg2 hx hg hg1
      have HB := Lib.hid (Below.refl w.heap.size w)
      go_enter Try.func65, Try.ntmps65
      go_wp2_with fail
      refine Calls.name ?_
      intro U1 hU1
      have hb : Below w.heap.size w U1 := by rw [hU1]; exact ((Below.refl _ _).alloc (Nat.le_refl _) _)
      have zz : Hid (w.heap.size + 1 = U1.heap.size) := Lib.hid (by rw [hU1]; simp)
      have HX1 : Kept w.heap.size (w.heap.size + 1) (BoxK w.heap.size 93 #[.int .i64 4, .slice A n c, .int .i64 t, .int .i64 i, .int .i64 a, .int .i64 N]) U1 := by rw [hU1]; exact Kept.box (Box.made_at _ _ _ rfl)
      replace HB := Lib.hid (below_step HB.out hb)
      clear hb
      have Z1 := zz; clear zz
      clear hU1
      have HLK := Lib.hid HX1.bx
      refine (l8Needs0_001 _ t i a N A n c true _ (HLK.out.look 1) (HLK.out.look 2) (HLK.out.look 3) (HLK.out.look 4) (HLK.out.look 5) ⟨fun _ => HF.out, fun _ => rfl⟩).mono ?_
      rintro e w2 ⟨rfl, rfl⟩
      clear HLK
      have c2_0 := HX1.look 5
      have l2_0 := HX1.bx.lt
      go_wp2_with fail
      clear c2_0 l2_0
      refine (l1In_any N 1 1000 _).mono ?_
      rw [HRG.out]
      rintro e w3 ⟨rfl, rfl⟩
      have c3_0 := HX1.look 1
      have l3_0 := HX1.bx.lt
      go_wp2
      clear c3_0 l3_0
      go_ret
      exact ⟨by rw [HQ.out]; try rfl, HB.out⟩
  · have hfi : opForm 5 xs t i a N ↔ n = 0 ∧ (t = 0 ∧ i = 0 ∧ a = 0) ∧ N = 0 := by unfold opForm; rw [hnl]; simp
    have hro : opRange 5 t i a N = true := by simp [opRange]
    clear hk hnl
    by_cases hf : ¬ (n = 0 ∧ (t = 0 ∧ i = 0 ∧ a = 0) ∧ N = 0)
    · have HF := Lib.hid hf
      have HQ : Hid (opf 5 xs t i a N = 1) := Lib.hid (by unfold opf; rw [if_pos (fun h => hf (hfi.1 h))])
      clear hf hfi hro hl
      have HB := Lib.hid (Below.refl w.heap.size w)
      go_enter Try.func65, Try.ntmps65
      go_wp2_with fail
      refine Calls.name ?_
      intro U1 hU1
      have hb : Below w.heap.size w U1 := by rw [hU1]; exact ((Below.refl _ _).alloc (Nat.le_refl _) _)
      have zz : Hid (w.heap.size + 1 = U1.heap.size) := Lib.hid (by rw [hU1]; simp)
      have HX1 : Kept w.heap.size (w.heap.size + 1) (BoxK w.heap.size 93 #[.int .i64 5, .slice A n c, .int .i64 t, .int .i64 i, .int .i64 a, .int .i64 N]) U1 := by rw [hU1]; exact Kept.box (Box.made_at _ _ _ rfl)
      replace HB := Lib.hid (below_step HB.out hb)
      clear hb
      have Z1 := zz; clear zz
      clear hU1
      have HLK := Lib.hid HX1.bx
      refine (l8Needs0_000 _ t i a N A n c false _ (HLK.out.look 1) (HLK.out.look 2) (HLK.out.look 3) (HLK.out.look 4) (HLK.out.look 5) ⟨fun h => (by cases h), fun h => absurd h HF.out⟩).mono ?_
      rintro e w2 ⟨rfl, rfl⟩
      clear HLK
      have l2_0 := HX1.bx.lt
      go_wp2
      clear l2_0
      go_ret
      exact ⟨by rw [HQ.out]; try rfl, HB.out⟩
    have hf1 : opForm 5 xs t i a N := hfi.2 (Classical.byContradiction hf)
    have HF : Hid (n = 0 ∧ (t = 0 ∧ i = 0 ∧ a = 0) ∧ N = 0) := Lib.hid (Classical.byContradiction hf)
    have hg2 : ¬ opRange 5 t i a N = false := by rw [hro]; simp
    by_cases hx : 400 < xs.length
    · have HQ : Hid (opf 5 xs t i a N = 2) := Lib.hid (by unfold opf; rw [if_neg (fun h => h hf1), if_neg hg2, if_pos hx])
      have hlt : (400 : Int) < n := by omega
      clear hf hfi hro hl hf1 hg2 hx
      have HB := Lib.hid (Below.refl w.heap.size w)
      go_enter Try.func65, Try.ntmps65
      go_wp2_with fail
      refine Calls.name ?_
      intro U1 hU1
      have hb : Below w.heap.size w U1 := by rw [hU1]; exact ((Below.refl _ _).alloc (Nat.le_refl _) _)
      have zz : Hid (w.heap.size + 1 = U1.heap.size) := Lib.hid (by rw [hU1]; simp)
      have HX1 : Kept w.heap.size (w.heap.size + 1) (BoxK w.heap.size 93 #[.int .i64 5, .slice A n c, .int .i64 t, .int .i64 i, .int .i64 a, .int .i64 N]) U1 := by rw [hU1]; exact Kept.box (Box.made_at _ _ _ rfl)
      replace HB := Lib.hid (below_step HB.out hb)
      clear hb
      have Z1 := zz; clear zz
      clear hU1
      have HLK := Lib.hid HX1.bx
      refine (l8Needs0_000 _ t i a N A n c true _ (HLK.out.look 1) (HLK.out.look 2) (HLK.out.look 3) (HLK.out.look 4) (HLK.out.look 5) ⟨fun _ => HF.out, fun _ => rfl⟩).mono ?_
      rintro e w2 ⟨rfl, rfl⟩
      clear HLK
      have c2_0 := HX1.look 1
      have l2_0 := HX1.bx.lt
      go_wp2
      clear c2_0 l2_0
      go_ret
      exact ⟨by rw [HQ.out]; try rfl, HB.out⟩
    · have HQ : Hid (opf 5 xs t i a N = 0) := Lib.hid (by unfold opf; rw [if_neg (fun h => h hf1), if_neg hg2, if_neg hx])
      have hlt : ¬ (400 : Int) < n := by omega
      clear hf hfi hro hl hf1 hg2 hx
      have HB := Lib.hid (Below.refl w.heap.size w)
      go_enter Try.func65, Try.ntmps65
      go_wp2_with fail
      refine Calls.name ?_
      intro U1 hU1
      have hb : Below w.heap.size w U1 := by rw [hU1]; exact ((Below.refl _ _).alloc (Nat.le_refl _) _)
      have zz : Hid (w.heap.size + 1 = U1.heap.size) := Lib.hid (by rw [hU1]; simp)
      have HX1 : Kept w.heap.size (w.heap.size + 1) (BoxK w.heap.size 93 #[.int .i64 5, .slice A n c, .int .i64 t, .int .i64 i, .int .i64 a, .int .i64 N]) U1 := by rw [hU1]; exact Kept.box (Box.made_at _ _ _ rfl)
      replace HB := Lib.hid (below_step HB.out hb)
      clear hb
      have Z1 := zz; clear zz
      clear hU1
      have HLK := Lib.hid HX1.bx
      refine (l8Needs0_000 _ t i a N A n c true _ (HLK.out.look 1) (HLK.out.look 2) (HLK.out.look 3) (HLK.out.look 4) (HLK.out.look 5) ⟨fun _ => HF.out, fun _ => rfl⟩).mono ?_
      rintro e w2 ⟨rfl, rfl⟩
      clear HLK
      have c2_0 := HX1.look 1
      have l2_0 := HX1.bx.lt
      go_wp2
      clear c2_0 l2_0
      go_ret
      exact ⟨by rw [HQ.out]; try rfl, HB.out⟩
  · have hfi : opForm 6 xs t i a N ↔ n = 0 ∧ (t = 0 ∧ i = 0 ∧ a = 0) := by unfold opForm; rw [hnl]; simp
    have hro : opRange 6 t i a N = allIn 0 1 [N] := by simp [opRange]
    clear hk hnl
    by_cases hf : ¬ (n = 0 ∧ (t = 0 ∧ i = 0 ∧ a = 0))
    · have HF := Lib.hid hf
      have HQ : Hid (opf 6 xs t i a N = 1) := Lib.hid (by unfold opf; rw [if_pos (fun h => hf (hfi.1 h))])
      obtain ⟨rg, hrg⟩ : ∃ r, allIn 0 1 [N] = r := ⟨_, rfl⟩
      have HRG := Lib.hid hrg
      clear hrg
      clear hf hfi hro hl
      have HB := Lib.hid (Below.refl w.heap.size w)
      go_enter Try.func65, Try.ntmps65
      go_wp2_with fail
      refine Calls.name ?_
      intro U1 hU1
      have hb : Below w.heap.size w U1 := by rw [hU1]; exact ((Below.refl _ _).alloc (Nat.le_refl _) _)
      have zz : Hid (w.heap.size + 1 = U1.heap.size) := Lib.hid (by rw [hU1]; simp)
      have HX1 : Kept w.heap.size (w.heap.size + 1) (BoxK w.heap.size 93 #[.int .i64 6, .slice A n c, .int .i64 t, .int .i64 i, .int .i64 a, .int .i64 N]) U1 := by rw [hU1]; exact Kept.box (Box.made_at _ _ _ rfl)
      replace HB := Lib.hid (below_step HB.out hb)
      clear hb
      have Z1 := zz; clear zz
      clear hU1
      have HLK := Lib.hid HX1.bx
      refine (l8Needs0_001 _ t i a N A n c false _ (HLK.out.look 1) (HLK.out.look 2) (HLK.out.look 3) (HLK.out.look 4) (HLK.out.look 5) ⟨fun h => (by cases h), fun h => absurd h HF.out⟩).mono ?_
      rintro e w2 ⟨rfl, rfl⟩
      clear HLK
      have c2_0 := HX1.look 5
      have l2_0 := HX1.bx.lt
      go_wp2_with fail
      clear c2_0 l2_0
      refine (l1In_any N 0 1 _).mono ?_
      rw [HRG.out]
      rintro e w3 ⟨rfl, rfl⟩
      have l3_0 := HX1.bx.lt
      go_wp2
      clear l3_0
      go_ret
      exact ⟨by rw [HQ.out]; try rfl, HB.out⟩
    have hf1 : opForm 6 xs t i a N := hfi.2 (Classical.byContradiction hf)
    have HF : Hid (n = 0 ∧ (t = 0 ∧ i = 0 ∧ a = 0)) := Lib.hid (Classical.byContradiction hf)
    by_cases hg : allIn 0 1 [N] = false
    · have HRG := Lib.hid hg
      have HQ : Hid (opf 6 xs t i a N = 3) := Lib.hid (by unfold opf; rw [if_neg (fun h => h hf1), if_pos (hro.trans hg)])
      clear hf hfi hro hl hg hf1
      have HB := Lib.hid (Below.refl w.heap.size w)
      go_enter Try.func65, Try.ntmps65
      go_wp2_with fail
      refine Calls.name ?_
      intro U1 hU1
      have hb : Below w.heap.size w U1 := by rw [hU1]; exact ((Below.refl _ _).alloc (Nat.le_refl _) _)
      have zz : Hid (w.heap.size + 1 = U1.heap.size) := Lib.hid (by rw [hU1]; simp)
      have HX1 : Kept w.heap.size (w.heap.size + 1) (BoxK w.heap.size 93 #[.int .i64 6, .slice A n c, .int .i64 t, .int .i64 i, .int .i64 a, .int .i64 N]) U1 := by rw [hU1]; exact Kept.box (Box.made_at _ _ _ rfl)
      replace HB := Lib.hid (below_step HB.out hb)
      clear hb
      have Z1 := zz; clear zz
      clear hU1
      have HLK := Lib.hid HX1.bx
      refine (l8Needs0_001 _ t i a N A n c true _ (HLK.out.look 1) (HLK.out.look 2) (HLK.out.look 3) (HLK.out.look 4) (HLK.out.look 5) ⟨fun _ => HF.out, fun _ => rfl⟩).mono ?_
      rintro e w2 ⟨rfl, rfl⟩
      clear HLK
      have c2_0 := HX1.look 5
      have l2_0 := HX1.bx.lt
      go_wp2_with fail
      clear c2_0 l2_0
      refine (l1In_any N 0 1 _).mono ?_
      rw [HRG.out]
      rintro e w3 ⟨rfl, rfl⟩
      have l3_0 := HX1.bx.lt
      go_wp2
      clear l3_0
      go_ret
      exact ⟨by rw [HQ.out]; try rfl, HB.out⟩
    have hg1 : allIn 0 1 [N] = true := by simpa using hg
    have HRG := Lib.hid hg1
    have hg2 : ¬ opRange 6 t i a N = false := by rw [hro, hg1]; simp
    by_cases hx : 400 < xs.length
    · have HQ : Hid (opf 6 xs t i a N = 2) := Lib.hid (by unfold opf; rw [if_neg (fun h => h hf1), if_neg hg2, if_pos hx])
      have hlt : (400 : Int) < n := by omega
      clear hf hfi hro hl hf1 hg2 hx hg hg1
      have HB := Lib.hid (Below.refl w.heap.size w)
      go_enter Try.func65, Try.ntmps65
      go_wp2_with fail
      refine Calls.name ?_
      intro U1 hU1
      have hb : Below w.heap.size w U1 := by rw [hU1]; exact ((Below.refl _ _).alloc (Nat.le_refl _) _)
      have zz : Hid (w.heap.size + 1 = U1.heap.size) := Lib.hid (by rw [hU1]; simp)
      have HX1 : Kept w.heap.size (w.heap.size + 1) (BoxK w.heap.size 93 #[.int .i64 6, .slice A n c, .int .i64 t, .int .i64 i, .int .i64 a, .int .i64 N]) U1 := by rw [hU1]; exact Kept.box (Box.made_at _ _ _ rfl)
      replace HB := Lib.hid (below_step HB.out hb)
      clear hb
      have Z1 := zz; clear zz
      clear hU1
      have HLK := Lib.hid HX1.bx
      refine (l8Needs0_001 _ t i a N A n c true _ (HLK.out.look 1) (HLK.out.look 2) (HLK.out.look 3) (HLK.out.look 4) (HLK.out.look 5) ⟨fun _ => HF.out, fun _ => rfl⟩).mono ?_
      rintro e w2 ⟨rfl, rfl⟩
      clear HLK
      have c2_0 := HX1.look 5
      have l2_0 := HX1.bx.lt
      go_wp2_with fail
      clear c2_0 l2_0
      refine (l1In_any N 0 1 _).mono ?_
      rw [HRG.out]
      rintro e w3 ⟨rfl, rfl⟩
      have c3_0 := HX1.look 1
      have l3_0 := HX1.bx.lt
      go_wp2
      clear c3_0 l3_0
      go_ret
      exact ⟨by rw [HQ.out]; try rfl, HB.out⟩
    · have HQ : Hid (opf 6 xs t i a N = 0) := Lib.hid (by unfold opf; rw [if_neg (fun h => h hf1), if_neg hg2, if_neg hx])
      have hlt : ¬ (400 : Int) < n := by omega
      clear hf hfi hro hl hf1 hg2 hx hg hg1
      have HB := Lib.hid (Below.refl w.heap.size w)
      go_enter Try.func65, Try.ntmps65
      go_wp2_with fail
      refine Calls.name ?_
      intro U1 hU1
      have hb : Below w.heap.size w U1 := by rw [hU1]; exact ((Below.refl _ _).alloc (Nat.le_refl _) _)
      have zz : Hid (w.heap.size + 1 = U1.heap.size) := Lib.hid (by rw [hU1]; simp)
      have HX1 : Kept w.heap.size (w.heap.size + 1) (BoxK w.heap.size 93 #[.int .i64 6, .slice A n c, .int .i64 t, .int .i64 i, .int .i64 a, .int .i64 N]) U1 := by rw [hU1]; exact Kept.box (Box.made_at _ _ _ rfl)
      replace HB := Lib.hid (below_step HB.out hb)
      clear hb
      have Z1 := zz; clear zz
      clear hU1
      have HLK := Lib.hid HX1.bx
      refine (l8Needs0_001 _ t i a N A n c true _ (HLK.out.look 1) (HLK.out.look 2) (HLK.out.look 3) (HLK.out.look 4) (HLK.out.look 5) ⟨fun _ => HF.out, fun _ => rfl⟩).mono ?_
      rintro e w2 ⟨rfl, rfl⟩
      clear HLK
      have c2_0 := HX1.look 5
      have l2_0 := HX1.bx.lt
      go_wp2_with fail
      clear c2_0 l2_0
      refine (l1In_any N 0 1 _).mono ?_
      rw [HRG.out]
      rintro e w3 ⟨rfl, rfl⟩
      have c3_0 := HX1.look 1
      have l3_0 := HX1.bx.lt
      go_wp2
      clear c3_0 l3_0
      go_ret
      exact ⟨by rw [HQ.out]; try rfl, HB.out⟩


end Go.Proofs.Ytiffhjofabaflaa
