/-
  What the laws' helpers do with wheels. No statement is proved here.
-/
import Derived.Test.YtakplomopbnekaaTimerSS
namespace Go.Proofs.Ytakplomopbnekaa
open Go.RowKit
set_option linter.unusedVariables false

/-- Rows of items of the call's own, apart from each other, in a range of blocks. -/
def RowsK {α : Type} (r : Rep α) (lo hi : Nat) (A : Option Addr) (n : Nat) (ys : List (List α)) : World → Prop := fun w => ∃ bs, r.FRows w A n ys bs ∧ bs.Nodup ∧ ∀ b ∈ bs, lo ≤ b ∧ b < hi
theorem RowsK.kept {α : Type} {r : Rep α} {lo hi : Nat} {A : Option Addr} {n : Nat} {ys : List (List α)} {w : World} (h : RowsK r lo hi A n ys w) (hs : hi ≤ w.heap.size) : Kept lo hi (RowsK r lo hi A n ys) w := by
  obtain ⟨bs, h1, h2, h3⟩ := h
  exact ⟨hs, fun w2 k => ⟨bs, h1.keep fun b hb => k b (h3 b hb).1 (h3 b hb).2, h2, h3⟩⟩
theorem Kept.rows {lo hi : Nat} {A : Option Addr} {n : Nat} {ys : List (List Tmr)} {w : World} (h : Kept lo hi (RowsK Rep.timer lo hi A n ys) w) : Rep.timer.rows.Sl false lo hi w A n ys := by
  obtain ⟨bs, h1, h2, h3⟩ := h.out
  exact h1.sl (fun _ _ _ _ _ h => h) h3
/-- An answer's rows and its list beside them, all apart. -/
def ResK {α : Type} (r : Rep α) (lo hi : Nat) (A : Option Addr) (n : Nat) (ys : List (List α)) (E : Option Addr) (m : Nat) (zs : List α) : World → Prop := fun w =>
  ∃ bs cs, r.FRows w A n ys bs ∧ r.FSl w E m zs cs ∧ (bs ++ cs).Nodup ∧ ∀ b ∈ bs ++ cs, lo ≤ b ∧ b < hi
theorem ResK.kept {α : Type} {r : Rep α} {lo hi : Nat} {A E : Option Addr} {n m : Nat} {ys : List (List α)} {zs : List α} {w : World} (h : ResK r lo hi A n ys E m zs w) (hs : hi ≤ w.heap.size) : Kept lo hi (ResK r lo hi A n ys E m zs) w := by
  obtain ⟨bs, cs, h1, h2, h3, h4⟩ := h
  exact ⟨hs, fun w2 k => ⟨bs, cs, h1.keep fun b hb => k b (h4 b (by simp [hb])).1 (h4 b (by simp [hb])).2, h2.keep fun b hb => k b (h4 b (by simp [hb])).1 (h4 b (by simp [hb])).2, h3, h4⟩⟩
theorem Kept.res_rows {lo hi : Nat} {A E : Option Addr} {n m : Nat} {ys : List (List Tmr)} {zs : List Tmr} {w : World} (h : Kept lo hi (ResK Rep.timer lo hi A n ys E m zs) w) : Rep.timer.rows.Sl false lo hi w A n ys := by
  obtain ⟨bs, cs, h1, h2, h3, h4⟩ := h.out
  exact h1.sl (fun _ _ _ _ _ h => h) fun b hb => h4 b (by simp [hb])
theorem Kept.res_due {lo hi : Nat} {A E : Option Addr} {n m : Nat} {ys : List (List Tmr)} {zs : List Tmr} {w : World} (h : Kept lo hi (ResK Rep.timer lo hi A n ys E m zs) w) : Rep.timer.Sl true lo hi w E m zs := by
  obtain ⟨bs, cs, h1, h2, h3, h4⟩ := h.out
  exact h2.sl fun b hb => h4 b (by simp [hb])
theorem szSS_neg {α : Type} : ∀ (ys : List (List α)) (left : Int), szSS left ys < 0 → szSS left ys = -1 := by
  intro ys left h
  unfold szSS at h ⊢
  split
  · rfl
  · rename_i h1
    rw [if_neg h1] at h
    have go : ∀ (ys : List (List α)) (l : Int), 0 ≤ l → szRows l ys < 0 → szRows l ys = -1 := by
      intro ys
      induction ys with
      | nil => intro l h0 h; simp [szRows] at h; omega
      | cons y t ih =>
        intro l h0 h
        unfold szRows at h ⊢
        split
        · rfl
        · rename_i h2
          rw [if_neg h2] at h
          exact ih _ (by omega) h
    exact go _ _ (by omega) h
theorem szRows_le {α : Type} : ∀ (ys : List (List α)) (l : Int), 0 ≤ l → szRows l ys ≤ l
  | [], l, h => by simp [szRows]
  | y :: t, l, h => by
    unfold szRows
    split
    · omega
    · rename_i h2
      have := szRows_le t (l - y.length) (by omega)
      omega
theorem szSS_bd {α : Type} (ys : List (List α)) (l : Int) (h : 0 ≤ l) : szSS l ys ≤ l := by
  unfold szSS
  split
  · omega
  · have := szRows_le ys (l - ys.length) (by omega)
    omega

set_option maxRecDepth 100000 in
set_option maxHeartbeats 1600000 in
theorem szWheel_any (q : Bool) (lo hi : Nat) (A : Option Addr) (n c : Nat) (ys : List (List Tmr)) (now left : Int) (w : World) (ha : Rep.timer.rows.Sl q lo hi w A n ys) (hh : hi ≤ w.heap.size) (hn : n ≤ maxLen) (hm : ∀ y ∈ ys, y.length ≤ maxLen) (h0 : 0 ≤ left) (h1 : left ≤ 1048576) :
    Calls Try.prog 40 #[.agg #[.int .i64 now, .slice A n c], .int .i64 left] w fun e w' => e = .returned (.int .i64 (szSS left ys)) ∧ Below w.heap.size w w' := by
  by_cases hz : szSS left ys < 0
  · skip
    have HB := Lib.hid (Below.refl w.heap.size w)
    have HA := Rep.Sl.kept ha hh
    have HM := Lib.hid hm
    obtain ⟨r, hr⟩ : ∃ r, szSS left ys = r := ⟨_, rfl⟩
    rw [hr] at hz
    have HR := Lib.hid hr
    have hq : r = -1 := by rw [← hr]; exact szSS_neg ys left (by omega)
    subst hq
    clear ha hm hr
    go_enter Try.func40, Try.ntmps40
    go_wp2_with fail
    refine Calls.name ?_
    intro U1 hU1
    have hb : Below w.heap.size w U1 := by rw [hU1]; exact ((Below.refl _ _).alloc (Nat.le_refl _) _)
    have zz : Hid (w.heap.size + 1 = U1.heap.size) := Lib.hid (by rw [hU1]; simp)
    have HX1 : Kept w.heap.size (w.heap.size + 1) (BoxK w.heap.size 59 #[.int .i64 now, .slice A n c]) U1 := by rw [hU1]; exact Kept.box (Box.made_at _ _ _ rfl)
    replace HA := HA.below hb
    replace HB := Lib.hid (below_step HB.out hb)
    clear hb
    have Z1 := zz; clear zz
    clear hU1
    refine (szTimerSS_any q lo hi A n c ys left _ HA.sl hn HM.out h0 h1).mono ?_
    rw [HR.out]
    rintro e w2 ⟨rfl, rfl⟩
    have l2_0 := HX1.bx.lt
    go_wp2
    clear l2_0
    go_ret
    exact ⟨by rw [HR.out]; rfl, HB.out⟩
  · skip
    have HB := Lib.hid (Below.refl w.heap.size w)
    have HA := Rep.Sl.kept ha hh
    have HM := Lib.hid hm
    obtain ⟨r, hr⟩ : ∃ r, szSS left ys = r := ⟨_, rfl⟩
    rw [hr] at hz
    have HR := Lib.hid hr
    have hq : 0 ≤ r := by omega
    clear ha hm hr
    go_enter Try.func40, Try.ntmps40
    go_wp2_with fail
    refine Calls.name ?_
    intro U1 hU1
    have hb : Below w.heap.size w U1 := by rw [hU1]; exact ((Below.refl _ _).alloc (Nat.le_refl _) _)
    have zz : Hid (w.heap.size + 1 = U1.heap.size) := Lib.hid (by rw [hU1]; simp)
    have HX1 : Kept w.heap.size (w.heap.size + 1) (BoxK w.heap.size 59 #[.int .i64 now, .slice A n c]) U1 := by rw [hU1]; exact Kept.box (Box.made_at _ _ _ rfl)
    replace HA := HA.below hb
    replace HB := Lib.hid (below_step HB.out hb)
    clear hb
    have Z1 := zz; clear zz
    clear hU1
    refine (szTimerSS_any q lo hi A n c ys left _ HA.sl hn HM.out h0 h1).mono ?_
    rw [HR.out]
    rintro e w2 ⟨rfl, rfl⟩
    have l2_0 := HX1.bx.lt
    go_wp2
    clear l2_0
    go_ret
    exact ⟨by rw [HR.out]; rfl, HB.out⟩

set_option maxRecDepth 100000 in
set_option maxHeartbeats 1600000 in
theorem toWheel_any (q : Bool) (lo hi : Nat) (A : Option Addr) (n c : Nat) (ys : List (List Tmr)) (now : Int) (w : World) (ha : Rep.timer.rows.Sl q lo hi w A n ys) (hh : hi ≤ w.heap.size) (hn : n ≤ 1048576) (hm : ∀ y ∈ ys, y.length ≤ 1048576) :
    Calls Try.prog 41 #[.agg #[.int .i64 now, .slice A n c]] w fun e w' => ∃ P, e = .returned (.agg #[.int .i64 now, .slice P n n]) ∧ Kept w.heap.size w'.heap.size (RowsK Rep.timer w.heap.size w'.heap.size P n ys) w' ∧ Below w.heap.size w w' := by
  have HB := Lib.hid (Below.refl w.heap.size w)
  have HA := Rep.Sl.kept ha hh
  have HM := Lib.hid hm
  clear ha hm
  go_enter Try.func41, Try.ntmps41
  go_wp2_with fail
  refine Calls.name ?_
  intro U1 hU1
  have hb : Below w.heap.size w U1 := by rw [hU1]; exact ((((Below.refl _ _).alloc (Nat.le_refl _) _).alloc (by simp <;> omega) _).alloc (by simp <;> omega) _)
  have zz : Hid (w.heap.size + 3 = U1.heap.size) := Lib.hid (by rw [hU1]; simp)
  have HX1 : Kept w.heap.size (w.heap.size + 1) (BoxK w.heap.size 59 #[.int .i64 now, .slice A n c]) U1 := by rw [hU1]; exact Kept.box (((Box.made_at _ _ _ rfl).over _).over _)
  have HX2 : Kept (w.heap.size + 1) (w.heap.size + 1 + 1) (BoxK (w.heap.size + 1) 26 #[.int .i64 0, .slice none 0 0]) U1 := by rw [hU1]; exact Kept.box ((Box.made_at _ _ _ (by simp <;> omega)).over _)
  have HX3 : Kept (w.heap.size + 1 + 1) (w.heap.size + 1 + 1 + 1) (BoxK (w.heap.size + 1 + 1) 26 #[.int .i64 now, .slice none 0 0]) U1 := by rw [hU1]; exact Kept.box (Box.made_at _ _ _ (by simp <;> omega))
  replace HA := HA.below hb
  replace HB := Lib.hid (below_step HB.out hb)
  clear hb
  have Z1 := zz; clear zz
  clear hU1
  refine (toTimerSS_any q lo hi A n c ys _ HA.sl HA.le hn HM.out).mono ?_
  rintro e w2 ⟨rfl, ⟨bs, hs, hd, hin⟩, hb⟩
  have Z2 := Lib.hid hb.size
  replace HA := HA.below hb
  replace HX1 := HX1.below hb
  replace HX2 := HX2.below hb
  replace HX3 := HX3.below hb
  replace HB := Lib.hid (below_step HB.out hb)
  clear hb
  have HS := RowsK.kept ⟨bs, hs, hd, hin⟩ (Nat.le_refl _); clear hs hd hin
  have c2_0 := HX2.look 0
  have c2_1 := HX2.look 1
  have c2_2 := HX3.look 0
  have c2_3 := HX3.look 1
  have f2_0 := HX2.free 0
  have f2_1 := HX2.free 1
  have f2_2 := HX3.free 1
  have l2_0 := HX1.bx.lt
  have l2_1 := HX2.bx.lt
  have l2_2 := HX3.bx.lt
  have n2_0_1 : ¬ (w.heap.size + 1) = (w.heap.size + 1 + 1) := (by have := Z1.out; have := Z2.out; omega)
  have m2_0_1 : ¬ (w.heap.size + 1 + 1) = (w.heap.size + 1) := (by have := Z1.out; have := Z2.out; omega)
  go_wp2
  clear c2_0 c2_1 c2_2 c2_3 f2_0 f2_1 f2_2 l2_0 l2_1 l2_2 n2_0_1 m2_0_1
  obtain ⟨U3, hU3⟩ : ∃ W : World, W = (w2.setCell ⟨w.heap.size + 1 + 1, 1, none⟩ (.slice (some ⟨U1.heap.size, 0, none⟩) n n)) := ⟨_, rfl⟩
  have ho : Only (w.heap.size + 1 + 1) (w.heap.size + 1 + 1 + 1) w2 U3 := by rw [hU3]; exact ((Only.refl _ _ _).set (p := ⟨w.heap.size + 1 + 1, 1, none⟩) (Nat.le_refl _) (Nat.lt_succ_self _) _)
  replace HX3 : Kept (w.heap.size + 1 + 1) (w.heap.size + 1 + 1 + 1) (BoxK (w.heap.size + 1 + 1) 26 #[.int .i64 now, .slice (some ⟨U1.heap.size, 0, none⟩) n n]) U3 := by rw [hU3]; exact Kept.box (HX3.bx.puts 1 (.slice (some ⟨U1.heap.size, 0, none⟩) n n) (cs' := #[.int .i64 now, .slice (some ⟨U1.heap.size, 0, none⟩) n n]) rfl)
  replace HA := HA.only ho (by have := Z1.out; have := Z2.out; omega)
  replace HX1 := HX1.only ho (by have := Z1.out; have := Z2.out; omega)
  replace HX2 := HX2.only ho (by have := Z1.out; have := Z2.out; omega)
  replace HS := HS.only ho (by have := Z1.out; have := Z2.out; omega)
  replace HB := Lib.hid (Below.only HB.out ho (by have := Z1.out; have := Z2.out; omega) HB.out.size)
  have Z3 : Hid (U3.heap.size = w2.heap.size) := Lib.hid (by rw [hU3]; simp [World.setCell]); clear ho
  obtain ⟨U4, hU4⟩ : ∃ W : World, W = ((U3.setCell ⟨w.heap.size + 1, 0, none⟩ (.int .i64 now)).setCell ⟨w.heap.size + 1, 1, none⟩ (.slice (some ⟨U1.heap.size, 0, none⟩) n n)) := ⟨_, rfl⟩
  have ho : Only (w.heap.size + 1) (w.heap.size + 1 + 1) U3 U4 := by rw [hU4]; exact (((Only.refl _ _ _).set (p := ⟨w.heap.size + 1, 0, none⟩) (Nat.le_refl _) (Nat.lt_succ_self _) _).set (p := ⟨w.heap.size + 1, 1, none⟩) (Nat.le_refl _) (Nat.lt_succ_self _) _)
  replace HX2 : Kept (w.heap.size + 1) (w.heap.size + 1 + 1) (BoxK (w.heap.size + 1) 26 #[.int .i64 now, .slice (some ⟨U1.heap.size, 0, none⟩) n n]) U4 := by rw [hU4]; exact Kept.box ((HX2.bx.puts 0 (.int .i64 now) (cs' := #[.int .i64 now, .slice none 0 0]) rfl).puts 1 (.slice (some ⟨U1.heap.size, 0, none⟩) n n) (cs' := #[.int .i64 now, .slice (some ⟨U1.heap.size, 0, none⟩) n n]) rfl)
  replace HA := HA.only ho (by have := Z1.out; have := Z2.out; have := Z3.out; omega)
  replace HX1 := HX1.only ho (by have := Z1.out; have := Z2.out; have := Z3.out; omega)
  replace HX3 := HX3.only ho (by have := Z1.out; have := Z2.out; have := Z3.out; omega)
  replace HS := HS.only ho (by have := Z1.out; have := Z2.out; have := Z3.out; omega)
  replace HB := Lib.hid (Below.only HB.out ho (by have := Z1.out; have := Z2.out; have := Z3.out; omega) HB.out.size)
  have Z4 : Hid (U4.heap.size = U3.heap.size) := Lib.hid (by rw [hU4]; simp [World.setCell]); clear ho
  have q_0 := HX2.look 0
  have q_1 := HX2.look 1
  subst hU4 hU3
  exact bodyPost_ret (v := .agg #[.int .i64 now, .slice (some ⟨U1.heap.size, 0, none⟩) n n]) (by simp [results, Try.results41, go_sem, q_0, q_1]) rfl ⟨_, rfl, RowsK.kept (by obtain ⟨bs, h1, h2, h3⟩ := HS.out; exact ⟨bs, h1, h2, fun b hb => by have := h3 b hb; have := HS.le; have := HB.out.size; have := Z1.out; have := Z2.out; omega⟩) (Nat.le_refl _), HB.out⟩

set_option maxRecDepth 100000 in
set_option maxHeartbeats 1600000 in
theorem eqWheel_yes (q1 q2 : Bool) (l1 h1 l2 h2 : Nat) (A B : Option Addr) (n c d : Nat) (ys : List (List Tmr)) (now : Int) (w : World) (ha : Rep.timer.rows.Sl q1 l1 h1 w A n ys) (hb : Rep.timer.rows.Sl q2 l2 h2 w B n ys) (hh1 : h1 ≤ w.heap.size) (hh2 : h2 ≤ w.heap.size) (hn : n ≤ 1048576) (hm : ∀ y ∈ ys, y.length ≤ 1048576) :
    Calls Try.prog 44 #[.agg #[.int .i64 now, .slice A n c], .agg #[.int .i64 now, .slice B n d]] w fun e w' => e = .returned (.bool true) ∧ Below w.heap.size w w' := by
  have HB := Lib.hid (Below.refl w.heap.size w)
  have HA := Rep.Sl.kept ha hh1
  have HC := Rep.Sl.kept hb hh2
  have HM := Lib.hid hm
  clear ha hb hm
  go_enter Try.func44, Try.ntmps44
  go_wp2_with fail
  refine Calls.name ?_
  intro U1 hU1
  have hb : Below w.heap.size w U1 := by rw [hU1]; exact (((Below.refl _ _).alloc (Nat.le_refl _) _).alloc (by simp <;> omega) _)
  have zz : Hid (w.heap.size + 2 = U1.heap.size) := Lib.hid (by rw [hU1]; simp)
  have HX1 : Kept w.heap.size (w.heap.size + 1) (BoxK w.heap.size 26 #[.int .i64 now, .slice A n c]) U1 := by rw [hU1]; exact Kept.box ((Box.made_at _ _ _ rfl).over _)
  have HX2 : Kept (w.heap.size + 1) (w.heap.size + 1 + 1) (BoxK (w.heap.size + 1) 26 #[.int .i64 now, .slice B n d]) U1 := by rw [hU1]; exact Kept.box (Box.made_at _ _ _ (by simp <;> omega))
  replace HA := HA.below hb
  replace HC := HC.below hb
  replace HB := Lib.hid (below_step HB.out hb)
  clear hb
  have Z1 := zz; clear zz
  clear hU1
  refine (eqTimerSS_yes q1 q2 l1 h1 l2 h2 A B n c d ys _ HA.sl HC.sl HA.le HC.le hn HM.out).mono ?_
  rintro e w2 ⟨rfl, hb⟩
  have Z2 := Lib.hid hb.size
  replace HA := HA.below hb
  replace HC := HC.below hb
  replace HX1 := HX1.below hb
  replace HX2 := HX2.below hb
  replace HB := Lib.hid (below_step HB.out hb)
  clear hb
  have l2_0 := HX1.bx.lt
  have l2_1 := HX2.bx.lt
  go_wp2
  clear l2_0 l2_1
  go_ret
  exact ⟨rfl, HB.out⟩

set_option maxRecDepth 100000 in
set_option maxHeartbeats 1600000 in
theorem eqWheelResult_yes (q1 q2 : Bool) (l1 h1 l2 h2 : Nat) (A B : Option Addr) (n c d : Nat) (ys : List (List Tmr)) (k1 g1 k2 g2 : Nat) (E F : Option Addr) (m e f : Nat) (zs : List Tmr) (code now : Int) (w : World) (ha : Rep.timer.rows.Sl q1 l1 h1 w A n ys) (hb : Rep.timer.rows.Sl q2 l2 h2 w B n ys) (hh1 : h1 ≤ w.heap.size) (hh2 : h2 ≤ w.heap.size) (hn : n ≤ 1048576) (hm : ∀ y ∈ ys, y.length ≤ 1048576) (he : Rep.timer.Sl q1 k1 g1 w E m zs) (hf : Rep.timer.Sl q2 k2 g2 w F m zs) (hg1 : g1 ≤ w.heap.size) (hg2 : g2 ≤ w.heap.size) (hk : m ≤ 1048576) :
    Calls Try.prog 43 #[.agg #[.int .i64 code, .int .i64 now, .slice A n c, .slice E m e], .agg #[.int .i64 code, .int .i64 now, .slice B n d, .slice F m f]] w fun e w' => e = .returned (.bool true) ∧ Below w.heap.size w w' := by
  have HB := Lib.hid (Below.refl w.heap.size w)
  have HA := Rep.Sl.kept ha hh1
  have HC := Rep.Sl.kept hb hh2
  have HE := Rep.Sl.kept he hg1
  have HF := Rep.Sl.kept hf hg2
  have HM := Lib.hid hm
  clear ha hb hm he hf
  go_enter Try.func43, Try.ntmps43
  go_wp2_with fail
  refine Calls.name ?_
  intro U1 hU1
  have hb : Below w.heap.size w U1 := by rw [hU1]; exact (((Below.refl _ _).alloc (Nat.le_refl _) _).alloc (by simp <;> omega) _)
  have zz : Hid (w.heap.size + 2 = U1.heap.size) := Lib.hid (by rw [hU1]; simp)
  have HX1 : Kept w.heap.size (w.heap.size + 1) (BoxK w.heap.size 31 #[.int .i64 code, .int .i64 now, .slice A n c, .slice E m e]) U1 := by rw [hU1]; exact Kept.box ((Box.made_at _ _ _ rfl).over _)
  have HX2 : Kept (w.heap.size + 1) (w.heap.size + 1 + 1) (BoxK (w.heap.size + 1) 31 #[.int .i64 code, .int .i64 now, .slice B n d, .slice F m f]) U1 := by rw [hU1]; exact Kept.box (Box.made_at _ _ _ (by simp <;> omega))
  replace HA := HA.below hb
  replace HC := HC.below hb
  replace HE := HE.below hb
  replace HF := HF.below hb
  replace HB := Lib.hid (below_step HB.out hb)
  clear hb
  have Z1 := zz; clear zz
  clear hU1
  refine (eqWheel_yes q1 q2 l1 h1 l2 h2 A B n c d ys now _ HA.sl HC.sl HA.le HC.le hn HM.out).mono ?_
  rintro e w2 ⟨rfl, hb⟩
  have Z2 := Lib.hid hb.size
  replace HA := HA.below hb
  replace HC := HC.below hb
  replace HE := HE.below hb
  replace HF := HF.below hb
  replace HX1 := HX1.below hb
  replace HX2 := HX2.below hb
  replace HB := Lib.hid (below_step HB.out hb)
  clear hb
  have c2_0 := HX1.look 3
  have c2_1 := HX2.look 3
  have l2_0 := HX1.bx.lt
  have l2_1 := HX2.bx.lt
  go_wp2_with fail
  clear c2_0 c2_1 l2_0 l2_1
  refine (eqTimerS_yes q1 q2 k1 g1 k2 g2 E F m e f zs _ HE.sl HF.sl HE.le HF.le hk).mono ?_
  rintro e w3 ⟨rfl, hb⟩
  have Z3 := Lib.hid hb.size
  replace HA := HA.below hb
  replace HC := HC.below hb
  replace HE := HE.below hb
  replace HF := HF.below hb
  replace HX1 := HX1.below hb
  replace HX2 := HX2.below hb
  replace HB := Lib.hid (below_step HB.out hb)
  clear hb
  have l3_0 := HX1.bx.lt
  have l3_1 := HX2.bx.lt
  go_wp2
  clear l3_0 l3_1
  go_ret
  exact ⟨rfl, HB.out⟩


end Go.Proofs.Ytakplomopbnekaa
