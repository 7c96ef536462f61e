/-
  Both ShardOf. No statement is proved here.
-/
import Derived.Test.YtiffhjofabaflaaConfigFault
import Derived.Test.YtiffhjofabaflaaShardKey
namespace Go.Proofs.Ytiffhjofabaflaa
open Go.RowKit
set_option linter.unusedVariables false

/-- What ShardOf answers: code and value. -/
def shC (sh wk : Int) (cs : List Int) (t i a : Int) : Int := if cf sh wk cs = 0 then (if sk t i a = true then 0 else 3) else cf sh wk cs
def shV (sh wk : Int) (cs : List Int) (t i a : Int) : Int := if cf sh wk cs = 0 then (if sk t i a = true then (t + 3 * i + a) % sh else 0) else 0
theorem shard_rem {t i a sh : Int} (h : sk t i a = true) : (t + 3 * i + a).tmod sh = (t + 3 * i + a) % sh := by
  have := sk_iff.1 h
  exact Int.tmod_eq_emod_of_nonneg (by omega)

set_option maxRecDepth 100000 in
set_option maxHeartbeats 1600000 in
theorem l8Shard_any (sh t i a : Int) (w : World) (hs : 1 ≤ sh ∧ sh ≤ 4) (hk : sk t i a = true) :
    Calls Try.prog 153 #[.int .i64 sh, .agg #[.int .i64 t, .int .i64 i, .int .i64 a]] w fun e w' => e = .returned (.int .i64 ((t + 3 * i + a) % sh)) ∧ Below w.heap.size w w' := by
  have HB := Lib.hid (Below.refl w.heap.size w)
  obtain ⟨⟨t0, t1⟩, ⟨i0, i1⟩, a0, a1⟩ := sk_iff.1 hk
  have hs0 : ¬ sh = 0 := by omega
  have hs1 : ¬ sh = -1 := by omega
  obtain ⟨x, hx⟩ : ∃ x, (t + 3 * i + a) % sh = x := ⟨_, rfl⟩
  have hxx : (t + 3 * i + a).tmod sh = x := by rw [shard_rem hk, hx]
  have hb0 : 0 ≤ x := by rw [← hx]; exact Int.emod_nonneg _ hs0
  have hb1 : x < sh := by rw [← hx]; exact Int.emod_lt_of_pos _ (by omega)
  rw [hx]
  clear hx hk
  go_enter Try.func153, Try.ntmps153
  go_wp2
  obtain ⟨U1, hU1⟩ : ∃ W : World, W = (w.alloc (.cells #[.int .i64 t, .int .i64 i, .int .i64 a] 34)) := ⟨_, rfl⟩
  have hb : Below w.heap.size w U1 := by rw [hU1]; exact ((Below.refl _ _).alloc (Nat.le_refl _) _)
  have zz : Hid (w.heap.size + 1 = U1.heap.size) := Lib.hid (by rw [hU1]; simp)
  have HX1 : Kept w.heap.size (w.heap.size + 1) (BoxK w.heap.size 34 #[.int .i64 t, .int .i64 i, .int .i64 a]) U1 := by rw [hU1]; exact Kept.box (Box.made_at _ _ _ rfl)
  replace HB := Lib.hid (below_step HB.out hb)
  clear hb
  have Z1 := zz; clear zz
  subst hU1
  go_ret
  exact ⟨rfl, HB.out⟩

set_option maxRecDepth 100000 in
set_option maxHeartbeats 3200000 in
theorem shardOf_any (sh wk : Int) (q : Bool) (lo hi : Nat) (A : Option Addr) (n c : Nat) (ys : List Int) (t i a : Int) (w : World) (ha : Rep.int.Sl q lo hi w A n ys) (hh : hi ≤ w.heap.size) (hn : n ≤ 1048576) :
    Calls Try.prog 76 #[.agg #[.int .i64 sh, .int .i64 wk, .slice A n c], .agg #[.int .i64 t, .int .i64 i, .int .i64 a]] w fun e w' => e = .returned (.agg #[.int .i64 (shC sh wk ys t i a), .int .i64 (shV sh wk ys t i a)]) ∧ Below w.heap.size w w' := by
  obtain ⟨r, hr⟩ : ∃ r, cf sh wk ys = r := ⟨_, rfl⟩
  by_cases h0 : ¬ r = 0
  · have HB := Lib.hid (Below.refl w.heap.size w)
    have HA := Rep.Sl.kept ha hh
    have HC := Lib.hid hr
    have HQ : Hid (shC sh wk ys t i a = r ∧ shV sh wk ys t i a = 0) := Lib.hid (by unfold shC shV; rw [hr]; simp [h0])
    have hr0 : (r != 0) = true := by simpa using h0
    clear hr h0
    clear ha
    go_enter Try.func76, Try.ntmps76
    go_wp2_with fail
    refine Calls.name ?_
    intro U1 hU1
    have hb : Below w.heap.size w U1 := by rw [hU1]; exact ((((Below.refl _ _).alloc (Nat.le_refl _) _).alloc (by simp <;> omega) _).alloc (by simp <;> omega) _)
    have zz : Hid (w.heap.size + 3 = U1.heap.size) := Lib.hid (by rw [hU1]; simp)
    have HX1 : Kept w.heap.size (w.heap.size + 1) (BoxK w.heap.size 83 #[.int .i64 sh, .int .i64 wk, .slice A n c]) U1 := by rw [hU1]; exact Kept.box (((Box.made_at _ _ _ rfl).over _).over _)
    have HX2 : Kept (w.heap.size + 1) (w.heap.size + 1 + 1) (BoxK (w.heap.size + 1) 34 #[.int .i64 t, .int .i64 i, .int .i64 a]) U1 := by rw [hU1]; exact Kept.box ((Box.made_at _ _ _ (by simp <;> omega)).over _)
    have HX3 : Kept (w.heap.size + 1 + 1) (w.heap.size + 1 + 1 + 1) (BoxK (w.heap.size + 1 + 1) 52 #[.int .i64 0, .int .i64 0]) U1 := by rw [hU1]; exact Kept.box (Box.made_at _ _ _ (by simp <;> omega))
    replace HA := HA.below hb
    replace HB := Lib.hid (below_step HB.out hb)
    clear hb
    have Z1 := zz; clear zz
    clear hU1
    refine (configFault_any sh wk q lo hi A n c ys _ HA.sl HA.le hn).mono ?_
    rw [HC.out]
    rintro e w2 ⟨rfl, hb⟩
    have Z2 := Lib.hid hb.size
    replace HA := HA.below hb
    replace HX1 := HX1.below hb
    replace HX2 := HX2.below hb
    replace HX3 := HX3.below hb
    replace HB := Lib.hid (below_step HB.out hb)
    clear hb
    have c2_0 := HX3.look 0
    have c2_1 := HX3.look 1
    have f2_0 := HX3.free 0
    have f2_1 := HX3.free 1
    have l2_0 := HX1.bx.lt
    have l2_1 := HX2.bx.lt
    have l2_2 := HX3.bx.lt
    go_wp2
    clear c2_0 c2_1 f2_0 f2_1 l2_0 l2_1 l2_2
    obtain ⟨U3, hU3⟩ : ∃ W : World, W = ((w2.setCell ⟨w.heap.size + 1 + 1, 0, none⟩ (.int .i64 r)).setCell ⟨w.heap.size + 1 + 1, 1, none⟩ (.int .i64 0)) := ⟨_, rfl⟩
    have ho : Only (w.heap.size + 1 + 1) (w.heap.size + 1 + 1 + 1) w2 U3 := by rw [hU3]; exact (((Only.refl _ _ _).set (p := ⟨w.heap.size + 1 + 1, 0, none⟩) (Nat.le_refl _) (Nat.lt_succ_self _) _).set (p := ⟨w.heap.size + 1 + 1, 1, none⟩) (Nat.le_refl _) (Nat.lt_succ_self _) _)
    replace HX3 : Kept (w.heap.size + 1 + 1) (w.heap.size + 1 + 1 + 1) (BoxK (w.heap.size + 1 + 1) 52 #[.int .i64 r, .int .i64 0]) U3 := by rw [hU3]; exact Kept.box ((HX3.bx.puts 0 (.int .i64 r) (cs' := #[.int .i64 r, .int .i64 0]) rfl).puts 1 (.int .i64 0) (cs' := #[.int .i64 r, .int .i64 0]) rfl)
    replace HA := HA.only ho (by have := Z1.out; have := Z2.out; omega)
    replace HX1 := HX1.only ho (by have := Z1.out; have := Z2.out; omega)
    replace HX2 := HX2.only ho (by have := Z1.out; have := Z2.out; omega)
    replace HB := Lib.hid (Below.only HB.out ho (by have := Z1.out; have := Z2.out; omega) HB.out.size)
    have Z3 : Hid (U3.heap.size = w2.heap.size) := Lib.hid (by rw [hU3]; simp [World.setCell]); clear ho
    have q_0 := HX3.look 0
    have q_1 := HX3.look 1
    subst hU3
    exact bodyPost_ret (v := .agg #[.int .i64 r, .int .i64 0]) (by simp [results, Try.results76, go_sem, q_0, q_1]) rfl ⟨by rw [HQ.out.1, HQ.out.2]; try rfl, HB.out⟩
  obtain rfl : r = 0 := Classical.byContradiction h0
  have HC := Lib.hid hr
  by_cases h1 : sk t i a = false
  · have HB := Lib.hid (Below.refl w.heap.size w)
    have HA := Rep.Sl.kept ha hh
    have HK := Lib.hid h1
    have HQ : Hid (shC sh wk ys t i a = 3 ∧ shV sh wk ys t i a = 0) := Lib.hid (by unfold shC shV; rw [hr, h1]; simp)
    clear hr h0 h1
    clear ha
    go_enter Try.func76, Try.ntmps76
    go_wp2_with fail
    refine Calls.name ?_
    intro U1 hU1
    have hb : Below w.heap.size w U1 := by rw [hU1]; exact ((((Below.refl _ _).alloc (Nat.le_refl _) _).alloc (by simp <;> omega) _).alloc (by simp <;> omega) _)
    have zz : Hid (w.heap.size + 3 = U1.heap.size) := Lib.hid (by rw [hU1]; simp)
    have HX1 : Kept w.heap.size (w.heap.size + 1) (BoxK w.heap.size 83 #[.int .i64 sh, .int .i64 wk, .slice A n c]) U1 := by rw [hU1]; exact Kept.box (((Box.made_at _ _ _ rfl).over _).over _)
    have HX2 : Kept (w.heap.size + 1) (w.heap.size + 1 + 1) (BoxK (w.heap.size + 1) 34 #[.int .i64 t, .int .i64 i, .int .i64 a]) U1 := by rw [hU1]; exact Kept.box ((Box.made_at _ _ _ (by simp <;> omega)).over _)
    have HX3 : Kept (w.heap.size + 1 + 1) (w.heap.size + 1 + 1 + 1) (BoxK (w.heap.size + 1 + 1) 52 #[.int .i64 0, .int .i64 0]) U1 := by rw [hU1]; exact Kept.box (Box.made_at _ _ _ (by simp <;> omega))
    replace HA := HA.below hb
    replace HB := Lib.hid (below_step HB.out hb)
    clear hb
    have Z1 := zz; clear zz
    clear hU1
    refine (configFault_any sh wk q lo hi A n c ys _ HA.sl HA.le hn).mono ?_
    rw [HC.out]
    rintro e w2 ⟨rfl, hb⟩
    have Z2 := Lib.hid hb.size
    replace HA := HA.below hb
    replace HX1 := HX1.below hb
    replace HX2 := HX2.below hb
    replace HX3 := HX3.below hb
    replace HB := Lib.hid (below_step HB.out hb)
    clear hb
    have c2_0 := HX2.look 0
    have c2_1 := HX2.look 1
    have c2_2 := HX2.look 2
    have l2_0 := HX1.bx.lt
    have l2_1 := HX2.bx.lt
    have l2_2 := HX3.bx.lt
    go_wp2_with fail
    clear c2_0 c2_1 c2_2 l2_0 l2_1 l2_2
    refine (isShardKey_any t i a _).mono ?_
    rw [HK.out]
    rintro e w3 ⟨rfl, hb⟩
    have Z3 := Lib.hid hb.size
    replace HA := HA.below hb
    replace HX1 := HX1.below hb
    replace HX2 := HX2.below hb
    replace HX3 := HX3.below hb
    replace HB := Lib.hid (below_step HB.out hb)
    clear hb
    have c3_0 := HX3.look 0
    have c3_1 := HX3.look 1
    have f3_0 := HX3.free 0
    have f3_1 := HX3.free 1
    have l3_0 := HX1.bx.lt
    have l3_1 := HX2.bx.lt
    have l3_2 := HX3.bx.lt
    go_wp2
    clear c3_0 c3_1 f3_0 f3_1 l3_0 l3_1 l3_2
    obtain ⟨U4, hU4⟩ : ∃ W : World, W = ((w3.setCell ⟨w.heap.size + 1 + 1, 0, none⟩ (.int .i64 3)).setCell ⟨w.heap.size + 1 + 1, 1, none⟩ (.int .i64 0)) := ⟨_, rfl⟩
    have ho : Only (w.heap.size + 1 + 1) (w.heap.size + 1 + 1 + 1) w3 U4 := by rw [hU4]; exact (((Only.refl _ _ _).set (p := ⟨w.heap.size + 1 + 1, 0, none⟩) (Nat.le_refl _) (Nat.lt_succ_self _) _).set (p := ⟨w.heap.size + 1 + 1, 1, none⟩) (Nat.le_refl _) (Nat.lt_succ_self _) _)
    replace HX3 : Kept (w.heap.size + 1 + 1) (w.heap.size + 1 + 1 + 1) (BoxK (w.heap.size + 1 + 1) 52 #[.int .i64 3, .int .i64 0]) U4 := by rw [hU4]; exact Kept.box ((HX3.bx.puts 0 (.int .i64 3) (cs' := #[.int .i64 3, .int .i64 0]) rfl).puts 1 (.int .i64 0) (cs' := #[.int .i64 3, .int .i64 0]) rfl)
    replace HA := HA.only ho (by have := Z1.out; have := Z2.out; have := Z3.out; omega)
    replace HX1 := HX1.only ho (by have := Z1.out; have := Z2.out; have := Z3.out; omega)
    replace HX2 := HX2.only ho (by have := Z1.out; have := Z2.out; have := Z3.out; omega)
    replace HB := Lib.hid (Below.only HB.out ho (by have := Z1.out; have := Z2.out; have := Z3.out; omega) HB.out.size)
    have Z4 : Hid (U4.heap.size = w3.heap.size) := Lib.hid (by rw [hU4]; simp [World.setCell]); clear ho
    have q_0 := HX3.look 0
    have q_1 := HX3.look 1
    subst hU4
    exact bodyPost_ret (v := .agg #[.int .i64 3, .int .i64 0]) (by simp [results, Try.results76, go_sem, q_0, q_1]) rfl ⟨by rw [HQ.out.1, HQ.out.2]; try rfl, HB.out⟩
  have hk : sk t i a = true := by simpa using h1
  have hs := (cf_ok hr).1
  · have HB := Lib.hid (Below.refl w.heap.size w)
    have HA := Rep.Sl.kept ha hh
    have HK := Lib.hid hk
    obtain ⟨⟨t0, t1⟩, ⟨i0, i1⟩, a0, a1⟩ := sk_iff.1 hk
    have hs0 : ¬ sh = 0 := by omega
    have hs1 : ¬ sh = -1 := by omega
    obtain ⟨x, hx⟩ : ∃ x, (t + 3 * i + a) % sh = x := ⟨_, rfl⟩
    have hxx : (t + 3 * i + a).tmod sh = x := by rw [shard_rem hk, hx]
    have hb0 : 0 ≤ x := by rw [← hx]; exact Int.emod_nonneg _ hs0
    have hb1 : x < sh := by rw [← hx]; exact Int.emod_lt_of_pos _ (by omega)
    have HQ : Hid (shC sh wk ys t i a = 0 ∧ shV sh wk ys t i a = x) := Lib.hid (by unfold shC shV; rw [hr, hk, hx]; simp)
    clear hr h0 h1 hk hs hx
    clear ha
    go_enter Try.func76, Try.ntmps76
    go_wp2_with fail
    refine Calls.name ?_
    intro U1 hU1
    have hb : Below w.heap.size w U1 := by rw [hU1]; exact ((((Below.refl _ _).alloc (Nat.le_refl _) _).alloc (by simp <;> omega) _).alloc (by simp <;> omega) _)
    have zz : Hid (w.heap.size + 3 = U1.heap.size) := Lib.hid (by rw [hU1]; simp)
    have HX1 : Kept w.heap.size (w.heap.size + 1) (BoxK w.heap.size 83 #[.int .i64 sh, .int .i64 wk, .slice A n c]) U1 := by rw [hU1]; exact Kept.box (((Box.made_at _ _ _ rfl).over _).over _)
    have HX2 : Kept (w.heap.size + 1) (w.heap.size + 1 + 1) (BoxK (w.heap.size + 1) 34 #[.int .i64 t, .int .i64 i, .int .i64 a]) U1 := by rw [hU1]; exact Kept.box ((Box.made_at _ _ _ (by simp <;> omega)).over _)
    have HX3 : Kept (w.heap.size + 1 + 1) (w.heap.size + 1 + 1 + 1) (BoxK (w.heap.size + 1 + 1) 52 #[.int .i64 0, .int .i64 0]) U1 := by rw [hU1]; exact Kept.box (Box.made_at _ _ _ (by simp <;> omega))
    replace HA := HA.below hb
    replace HB := Lib.hid (below_step HB.out hb)
    clear hb
    have Z1 := zz; clear zz
    clear hU1
    refine (configFault_any sh wk q lo hi A n c ys _ HA.sl HA.le hn).mono ?_
    rw [HC.out]
    rintro e w2 ⟨rfl, hb⟩
    have Z2 := Lib.hid hb.size
    replace HA := HA.below hb
    replace HX1 := HX1.below hb
    replace HX2 := HX2.below hb
    replace HX3 := HX3.below hb
    replace HB := Lib.hid (below_step HB.out hb)
    clear hb
    have c2_0 := HX2.look 0
    have c2_1 := HX2.look 1
    have c2_2 := HX2.look 2
    have l2_0 := HX1.bx.lt
    have l2_1 := HX2.bx.lt
    have l2_2 := HX3.bx.lt
    go_wp2_with fail
    clear c2_0 c2_1 c2_2 l2_0 l2_1 l2_2
    refine (isShardKey_any t i a _).mono ?_
    rw [HK.out]
    rintro e w3 ⟨rfl, hb⟩
    have Z3 := Lib.hid hb.size
    replace HA := HA.below hb
    replace HX1 := HX1.below hb
    replace HX2 := HX2.below hb
    replace HX3 := HX3.below hb
    replace HB := Lib.hid (below_step HB.out hb)
    clear hb
    have c3_0 := HX1.look 0
    have c3_1 := HX2.look 0
    have c3_2 := HX2.look 1
    have c3_3 := HX2.look 2
    have c3_4 := HX3.look 0
    have c3_5 := HX3.look 1
    have f3_0 := HX3.free 0
    have f3_1 := HX3.free 1
    have l3_0 := HX1.bx.lt
    have l3_1 := HX2.bx.lt
    have l3_2 := HX3.bx.lt
    have n3_0_0 : ¬ (w.heap.size + 1 + 1) = w.heap.size := (by have := Z1.out; have := Z2.out; have := Z3.out; omega)
    have m3_0_0 : ¬ w.heap.size = (w.heap.size + 1 + 1) := (by have := Z1.out; have := Z2.out; have := Z3.out; omega)
    have n3_0_1 : ¬ (w.heap.size + 1 + 1) = (w.heap.size + 1) := (by have := Z1.out; have := Z2.out; have := Z3.out; omega)
    have m3_0_1 : ¬ (w.heap.size + 1) = (w.heap.size + 1 + 1) := (by have := Z1.out; have := Z2.out; have := Z3.out; omega)
    go_wp2
    clear c3_0 c3_1 c3_2 c3_3 c3_4 c3_5 f3_0 f3_1 l3_0 l3_1 l3_2 n3_0_0 m3_0_0 n3_0_1 m3_0_1
    obtain ⟨U4, hU4⟩ : ∃ W : World, W = ((w3.setCell ⟨w.heap.size + 1 + 1, 0, none⟩ (.int .i64 0)).setCell ⟨w.heap.size + 1 + 1, 1, none⟩ (.int .i64 x)) := ⟨_, rfl⟩
    have ho : Only (w.heap.size + 1 + 1) (w.heap.size + 1 + 1 + 1) w3 U4 := by rw [hU4]; exact (((Only.refl _ _ _).set (p := ⟨w.heap.size + 1 + 1, 0, none⟩) (Nat.le_refl _) (Nat.lt_succ_self _) _).set (p := ⟨w.heap.size + 1 + 1, 1, none⟩) (Nat.le_refl _) (Nat.lt_succ_self _) _)
    replace HX3 : Kept (w.heap.size + 1 + 1) (w.heap.size + 1 + 1 + 1) (BoxK (w.heap.size + 1 + 1) 52 #[.int .i64 0, .int .i64 x]) U4 := by rw [hU4]; exact Kept.box ((HX3.bx.puts 0 (.int .i64 0) (cs' := #[.int .i64 0, .int .i64 0]) rfl).puts 1 (.int .i64 x) (cs' := #[.int .i64 0, .int .i64 x]) rfl)
    replace HA := HA.only ho (by have := Z1.out; have := Z2.out; have := Z3.out; omega)
    replace HX1 := HX1.only ho (by have := Z1.out; have := Z2.out; have := Z3.out; omega)
    replace HX2 := HX2.only ho (by have := Z1.out; have := Z2.out; have := Z3.out; omega)
    replace HB := Lib.hid (Below.only HB.out ho (by have := Z1.out; have := Z2.out; have := Z3.out; omega) HB.out.size)
    have Z4 : Hid (U4.heap.size = w3.heap.size) := Lib.hid (by rw [hU4]; simp [World.setCell]); clear ho
    have q_0 := HX3.look 0
    have q_1 := HX3.look 1
    subst hU4
    exact bodyPost_ret (v := .agg #[.int .i64 0, .int .i64 x]) (by simp [results, Try.results76, go_sem, q_0, q_1]) rfl ⟨by rw [HQ.out.1, HQ.out.2]; try rfl, HB.out⟩

set_option maxRecDepth 100000 in
set_option maxHeartbeats 3200000 in
theorem specShardOf_any (sh wk : Int) (q : Bool) (lo hi : Nat) (A : Option Addr) (n c : Nat) (ys : List Int) (t i a : Int) (w : World) (ha : Rep.int.Sl q lo hi w A n ys) (hh : hi ≤ w.heap.size) (hn : n ≤ 1048576) :
    Calls Try.prog 74 #[.agg #[.int .i64 sh, .int .i64 wk, .slice A n c], .agg #[.int .i64 t, .int .i64 i, .int .i64 a]] w fun e w' => e = .returned (.agg #[.int .i64 (shC sh wk ys t i a), .int .i64 (shV sh wk ys t i a)]) ∧ Below w.heap.size w w' := by
  obtain ⟨r, hr⟩ : ∃ r, cf sh wk ys = r := ⟨_, rfl⟩
  by_cases h0 : ¬ r = 0
  · have HB := Lib.hid (Below.refl w.heap.size w)
    have HA := Rep.Sl.kept ha hh
    have HC := Lib.hid hr
    have HQ : Hid (shC sh wk ys t i a = r ∧ shV sh wk ys t i a = 0) := Lib.hid (by unfold shC shV; rw [hr]; simp [h0])
    have hr0 : (r != 0) = true := by simpa using h0
    clear hr h0
    clear ha
    go_enter Try.func74, Try.ntmps74
    go_wp2_with fail
    refine Calls.name ?_
    intro U1 hU1
    have hb : Below w.heap.size w U1 := by rw [hU1]; exact ((((Below.refl _ _).alloc (Nat.le_refl _) _).alloc (by simp <;> omega) _).alloc (by simp <;> omega) _)
    have zz : Hid (w.heap.size + 3 = U1.heap.size) := Lib.hid (by rw [hU1]; simp)
    have HX1 : Kept w.heap.size (w.heap.size + 1) (BoxK w.heap.size 83 #[.int .i64 sh, .int .i64 wk, .slice A n c]) U1 := by rw [hU1]; exact Kept.box (((Box.made_at _ _ _ rfl).over _).over _)
    have HX2 : Kept (w.heap.size + 1) (w.heap.size + 1 + 1) (BoxK (w.heap.size + 1) 34 #[.int .i64 t, .int .i64 i, .int .i64 a]) U1 := by rw [hU1]; exact Kept.box ((Box.made_at _ _ _ (by simp <;> omega)).over _)
    have HX3 : Kept (w.heap.size + 1 + 1) (w.heap.size + 1 + 1 + 1) (BoxK (w.heap.size + 1 + 1) 52 #[.int .i64 0, .int .i64 0]) U1 := by rw [hU1]; exact Kept.box (Box.made_at _ _ _ (by simp <;> omega))
    replace HA := HA.below hb
    replace HB := Lib.hid (below_step HB.out hb)
    clear hb
    have Z1 := zz; clear zz
    clear hU1
    refine (specConfigFault_any sh wk q lo hi A n c ys _ HA.sl HA.le hn).mono ?_
    rw [HC.out]
    rintro e w2 ⟨rfl, hb⟩
    have Z2 := Lib.hid hb.size
    replace HA := HA.below hb
    replace HX1 := HX1.below hb
    replace HX2 := HX2.below hb
    replace HX3 := HX3.below hb
    replace HB := Lib.hid (below_step HB.out hb)
    clear hb
    have c2_0 := HX3.look 0
    have c2_1 := HX3.look 1
    have f2_0 := HX3.free 0
    have f2_1 := HX3.free 1
    have l2_0 := HX1.bx.lt
    have l2_1 := HX2.bx.lt
    have l2_2 := HX3.bx.lt
    go_wp2
    clear c2_0 c2_1 f2_0 f2_1 l2_0 l2_1 l2_2
    obtain ⟨U3, hU3⟩ : ∃ W : World, W = ((w2.setCell ⟨w.heap.size + 1 + 1, 0, none⟩ (.int .i64 r)).setCell ⟨w.heap.size + 1 + 1, 1, none⟩ (.int .i64 0)) := ⟨_, rfl⟩
    have ho : Only (w.heap.size + 1 + 1) (w.heap.size + 1 + 1 + 1) w2 U3 := by rw [hU3]; exact (((Only.refl _ _ _).set (p := ⟨w.heap.size + 1 + 1, 0, none⟩) (Nat.le_refl _) (Nat.lt_succ_self _) _).set (p := ⟨w.heap.size + 1 + 1, 1, none⟩) (Nat.le_refl _) (Nat.lt_succ_self _) _)
    replace HX3 : Kept (w.heap.size + 1 + 1) (w.heap.size + 1 + 1 + 1) (BoxK (w.heap.size + 1 + 1) 52 #[.int .i64 r, .int .i64 0]) U3 := by rw [hU3]; exact Kept.box ((HX3.bx.puts 0 (.int .i64 r) (cs' := #[.int .i64 r, .int .i64 0]) rfl).puts 1 (.int .i64 0) (cs' := #[.int .i64 r, .int .i64 0]) rfl)
    replace HA := HA.only ho (by have := Z1.out; have := Z2.out; omega)
    replace HX1 := HX1.only ho (by have := Z1.out; have := Z2.out; omega)
    replace HX2 := HX2.only ho (by have := Z1.out; have := Z2.out; omega)
    replace HB := Lib.hid (Below.only HB.out ho (by have := Z1.out; have := Z2.out; omega) HB.out.size)
    have Z3 : Hid (U3.heap.size = w2.heap.size) := Lib.hid (by rw [hU3]; simp [World.setCell]); clear ho
    have q_0 := HX3.look 0
    have q_1 := HX3.look 1
    subst hU3
    exact bodyPost_ret (v := .agg #[.int .i64 r, .int .i64 0]) (by simp [results, Try.results74, go_sem, q_0, q_1]) rfl ⟨by rw [HQ.out.1, HQ.out.2]; try rfl, HB.out⟩
  obtain rfl : r = 0 := Classical.byContradiction h0
  have HC := Lib.hid hr
  by_cases h1 : sk t i a = false
  · have HB := Lib.hid (Below.refl w.heap.size w)
    have HA := Rep.Sl.kept ha hh
    have HK := Lib.hid h1
    have HQ : Hid (shC sh wk ys t i a = 3 ∧ shV sh wk ys t i a = 0) := Lib.hid (by unfold shC shV; rw [hr, h1]; simp)
    clear hr h0 h1
    clear ha
    go_enter Try.func74, Try.ntmps74
    go_wp2_with fail
    refine Calls.name ?_
    intro U1 hU1
    have hb : Below w.heap.size w U1 := by rw [hU1]; exact ((((Below.refl _ _).alloc (Nat.le_refl _) _).alloc (by simp <;> omega) _).alloc (by simp <;> omega) _)
    have zz : Hid (w.heap.size + 3 = U1.heap.size) := Lib.hid (by rw [hU1]; simp)
    have HX1 : Kept w.heap.size (w.heap.size + 1) (BoxK w.heap.size 83 #[.int .i64 sh, .int .i64 wk, .slice A n c]) U1 := by rw [hU1]; exact Kept.box (((Box.made_at _ _ _ rfl).over _).over _)
    have HX2 : Kept (w.heap.size + 1) (w.heap.size + 1 + 1) (BoxK (w.heap.size + 1) 34 #[.int .i64 t, .int .i64 i, .int .i64 a]) U1 := by rw [hU1]; exact Kept.box ((Box.made_at _ _ _ (by simp <;> omega)).over _)
    have HX3 : Kept (w.heap.size + 1 + 1) (w.heap.size + 1 + 1 + 1) (BoxK (w.heap.size + 1 + 1) 52 #[.int .i64 0, .int .i64 0]) U1 := by rw [hU1]; exact Kept.box (Box.made_at _ _ _ (by simp <;> omega))
    replace HA := HA.below hb
    replace HB := Lib.hid (below_step HB.out hb)
    clear hb
    have Z1 := zz; clear zz
    clear hU1
    refine (specConfigFault_any sh wk q lo hi A n c ys _ HA.sl HA.le hn).mono ?_
    rw [HC.out]
    rintro e w2 ⟨rfl, hb⟩
    have Z2 := Lib.hid hb.size
    replace HA := HA.below hb
    replace HX1 := HX1.below hb
    replace HX2 := HX2.below hb
    replace HX3 := HX3.below hb
    replace HB := Lib.hid (below_step HB.out hb)
    clear hb
    have c2_0 := HX2.look 0
    have c2_1 := HX2.look 1
    have c2_2 := HX2.look 2
    have l2_0 := HX1.bx.lt
    have l2_1 := HX2.bx.lt
    have l2_2 := HX3.bx.lt
    go_wp2_with fail
    clear c2_0 c2_1 c2_2 l2_0 l2_1 l2_2
    refine (l8Key_any t i a _).mono ?_
    rw [HK.out]
    rintro e w3 ⟨rfl, hb⟩
    have Z3 := Lib.hid hb.size
    replace HA := HA.below hb
    replace HX1 := HX1.below hb
    replace HX2 := HX2.below hb
    replace HX3 := HX3.below hb
    replace HB := Lib.hid (below_step HB.out hb)
    clear hb
    have c3_0 := HX3.look 0
    have c3_1 := HX3.look 1
    have f3_0 := HX3.free 0
    have f3_1 := HX3.free 1
    have l3_0 := HX1.bx.lt
    have l3_1 := HX2.bx.lt
    have l3_2 := HX3.bx.lt
    go_wp2
    clear c3_0 c3_1 f3_0 f3_1 l3_0 l3_1 l3_2
    obtain ⟨U4, hU4⟩ : ∃ W : World, W = ((w3.setCell ⟨w.heap.size + 1 + 1, 0, none⟩ (.int .i64 3)).setCell ⟨w.heap.size + 1 + 1, 1, none⟩ (.int .i64 0)) := ⟨_, rfl⟩
    have ho : Only (w.heap.size + 1 + 1) (w.heap.size + 1 + 1 + 1) w3 U4 := by rw [hU4]; exact (((Only.refl _ _ _).set (p := ⟨w.heap.size + 1 + 1, 0, none⟩) (Nat.le_refl _) (Nat.lt_succ_self _) _).set (p := ⟨w.heap.size + 1 + 1, 1, none⟩) (Nat.le_refl _) (Nat.lt_succ_self _) _)
    replace HX3 : Kept (w.heap.size + 1 + 1) (w.heap.size + 1 + 1 + 1) (BoxK (w.heap.size + 1 + 1) 52 #[.int .i64 3, .int .i64 0]) U4 := by rw [hU4]; exact Kept.box ((HX3.bx.puts 0 (.int .i64 3) (cs' := #[.int .i64 3, .int .i64 0]) rfl).puts 1 (.int .i64 0) (cs' := #[.int .i64 3, .int .i64 0]) rfl)
    replace HA := HA.only ho (by have := Z1.out; have := Z2.out; have := Z3.out; omega)
    replace HX1 := HX1.only ho (by have := Z1.out; have := Z2.out; have := Z3.out; omega)
    replace HX2 := HX2.only ho (by have := Z1.out; have := Z2.out; have := Z3.out; omega)
    replace HB := Lib.hid (Below.only HB.out ho (by have := Z1.out; have := Z2.out; have := Z3.out; omega) HB.out.size)
    have Z4 : Hid (U4.heap.size = w3.heap.size) := Lib.hid (by rw [hU4]; simp [World.setCell]); clear ho
    have q_0 := HX3.look 0
    have q_1 := HX3.look 1
    subst hU4
    exact bodyPost_ret (v := .agg #[.int .i64 3, .int .i64 0]) (by simp [results, Try.results74, go_sem, q_0, q_1]) rfl ⟨by rw [HQ.out.1, HQ.out.2]; try rfl, HB.out⟩
  have hk : sk t i a = true := by simpa using h1
  have hs := (cf_ok hr).1
  · have HB := Lib.hid (Below.refl w.heap.size w)
    have HA := Rep.Sl.kept ha hh
    have HK := Lib.hid hk
    have HS := Lib.hid hs
    obtain ⟨x, hx⟩ : ∃ x, (t + 3 * i + a) % sh = x := ⟨_, rfl⟩
    have HX := Lib.hid hx
    have HQ : Hid (shC sh wk ys t i a = 0 ∧ shV sh wk ys t i a = x) := Lib.hid (by unfold shC shV; rw [hr, hk, hx]; simp)
    clear hr h0 h1 hk hs hx
    clear ha
    go_enter Try.func74, Try.ntmps74
    go_wp2_with fail
    refine Calls.name ?_
    intro U1 hU1
    have hb : Below w.heap.size w U1 := by rw [hU1]; exact ((((Below.refl _ _).alloc (Nat.le_refl _) _).alloc (by simp <;> omega) _).alloc (by simp <;> omega) _)
    have zz : Hid (w.heap.size + 3 = U1.heap.size) := Lib.hid (by rw [hU1]; simp)
    have HX1 : Kept w.heap.size (w.heap.size + 1) (BoxK w.heap.size 83 #[.int .i64 sh, .int .i64 wk, .slice A n c]) U1 := by rw [hU1]; exact Kept.box (((Box.made_at _ _ _ rfl).over _).over _)
    have HX2 : Kept (w.heap.size + 1) (w.heap.size + 1 + 1) (BoxK (w.heap.size + 1) 34 #[.int .i64 t, .int .i64 i, .int .i64 a]) U1 := by rw [hU1]; exact Kept.box ((Box.made_at _ _ _ (by simp <;> omega)).over _)
    have HX3 : Kept (w.heap.size + 1 + 1) (w.heap.size + 1 + 1 + 1) (BoxK (w.heap.size + 1 + 1) 52 #[.int .i64 0, .int .i64 0]) U1 := by rw [hU1]; exact Kept.box (Box.made_at _ _ _ (by simp <;> omega))
    replace HA := HA.below hb
    replace HB := Lib.hid (below_step HB.out hb)
    clear hb
    have Z1 := zz; clear zz
    clear hU1
    refine (specConfigFault_any sh wk q lo hi A n c ys _ HA.sl HA.le hn).mono ?_
    rw [HC.out]
    rintro e w2 ⟨rfl, hb⟩
    have Z2 := Lib.hid hb.size
    replace HA := HA.below hb
    replace HX1 := HX1.below hb
    replace HX2 := HX2.below hb
    replace HX3 := HX3.below hb
    replace HB := Lib.hid (below_step HB.out hb)
    clear hb
    have c2_0 := HX2.look 0
    have c2_1 := HX2.look 1
    have c2_2 := HX2.look 2
    have l2_0 := HX1.bx.lt
    have l2_1 := HX2.bx.lt
    have l2_2 := HX3.bx.lt
    go_wp2_with fail
    clear c2_0 c2_1 c2_2 l2_0 l2_1 l2_2
    refine (l8Key_any t i a _).mono ?_
    rw [HK.out]
    rintro e w3 ⟨rfl, hb⟩
    have Z3 := Lib.hid hb.size
    replace HA := HA.below hb
    replace HX1 := HX1.below hb
    replace HX2 := HX2.below hb
    replace HX3 := HX3.below hb
    replace HB := Lib.hid (below_step HB.out hb)
    clear hb
    have c3_0 := HX1.look 0
    have c3_1 := HX2.look 0
    have c3_2 := HX2.look 1
    have c3_3 := HX2.look 2
    have l3_0 := HX1.bx.lt
    have l3_1 := HX2.bx.lt
    have l3_2 := HX3.bx.lt
    go_wp2_with fail
    clear c3_0 c3_1 c3_2 c3_3 l3_0 l3_1 l3_2
    refine (l8Shard_any sh t i a _ HS.out HK.out).mono ?_
    rw [HX.out]
    rintro e w4 ⟨rfl, hb⟩
    have Z4 := Lib.hid hb.size
    replace HA := HA.below hb
    replace HX1 := HX1.below hb
    replace HX2 := HX2.below hb
    replace HX3 := HX3.below hb
    replace HB := Lib.hid (below_step HB.out hb)
    clear hb
    have c4_0 := HX3.look 0
    have c4_1 := HX3.look 1
    have f4_0 := HX3.free 0
    have f4_1 := HX3.free 1
    have l4_0 := HX1.bx.lt
    have l4_1 := HX2.bx.lt
    have l4_2 := HX3.bx.lt
    go_wp2
    clear c4_0 c4_1 f4_0 f4_1 l4_0 l4_1 l4_2
    obtain ⟨U5, hU5⟩ : ∃ W : World, W = ((w4.setCell ⟨w.heap.size + 1 + 1, 0, none⟩ (.int .i64 0)).setCell ⟨w.heap.size + 1 + 1, 1, none⟩ (.int .i64 x)) := ⟨_, rfl⟩
    have ho : Only (w.heap.size + 1 + 1) (w.heap.size + 1 + 1 + 1) w4 U5 := by rw [hU5]; exact (((Only.refl _ _ _).set (p := ⟨w.heap.size + 1 + 1, 0, none⟩) (Nat.le_refl _) (Nat.lt_succ_self _) _).set (p := ⟨w.heap.size + 1 + 1, 1, none⟩) (Nat.le_refl _) (Nat.lt_succ_self _) _)
    replace HX3 : Kept (w.heap.size + 1 + 1) (w.heap.size + 1 + 1 + 1) (BoxK (w.heap.size + 1 + 1) 52 #[.int .i64 0, .int .i64 x]) U5 := by rw [hU5]; exact Kept.box ((HX3.bx.puts 0 (.int .i64 0) (cs' := #[.int .i64 0, .int .i64 0]) rfl).puts 1 (.int .i64 x) (cs' := #[.int .i64 0, .int .i64 x]) rfl)
    replace HA := HA.only ho (by have := Z1.out; have := Z2.out; have := Z3.out; have := Z4.out; omega)
    replace HX1 := HX1.only ho (by have := Z1.out; have := Z2.out; have := Z3.out; have := Z4.out; omega)
    replace HX2 := HX2.only ho (by have := Z1.out; have := Z2.out; have := Z3.out; have := Z4.out; omega)
    replace HB := Lib.hid (Below.only HB.out ho (by have := Z1.out; have := Z2.out; have := Z3.out; have := Z4.out; omega) HB.out.size)
    have Z5 : Hid (U5.heap.size = w4.heap.size) := Lib.hid (by rw [hU5]; simp [World.setCell]); clear ho
    have q_0 := HX3.look 0
    have q_1 := HX3.look 1
    subst hU5
    exact bodyPost_ret (v := .agg #[.int .i64 0, .int .i64 x]) (by simp [results, Try.results74, go_sem, q_0, q_1]) rfl ⟨by rw [HQ.out.1, HQ.out.2]; try rfl, HB.out⟩


end Go.Proofs.Ytiffhjofabaflaa
