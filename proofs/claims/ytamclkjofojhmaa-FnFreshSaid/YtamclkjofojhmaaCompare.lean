/-
  What the program's CompareLsas answers. No statement is proved here.
-/
import Derived.Test.YtamclkjofojhmaaPair
namespace Go.Proofs.Ytamclkjofojhmaa
open Go.RowKit
set_option linter.unusedVariables false

theorem ires_val (a b : Value) (W : World) : (Instr.field 42 (.agg #[a, b]) 1).run Try.prog W = .ok b W := by kernel_rfl
attribute [local go_sem] ires_val

set_option maxRecDepth 100000 in
set_option maxHeartbeats 3200000 in
theorem compareLsas_0 (l : LsaM) (q : Bool) (lo hi : Nat) (A B : Option Addr) (n c m d : Nat) (k : LsaM) (q2 : Bool) (lo2 hi2 : Nat) (A2 B2 : Option Addr) (n2 c2 m2 d2 : Nat) (w : World) (hl : LsaAt q lo hi w A n B m l) (hn : n ≤ 1048576) (hm : m ≤ 1048576) (hk : LsaAt q2 lo2 hi2 w A2 n2 B2 m2 k) (hn2 : n2 ≤ 1048576) (hm2 : m2 ≤ 1048576) (h0 : ¬ pairC l k = 0) :
    Calls Try.prog 28 #[.agg (lsaCells l A B n c m d), .agg (lsaCells k A2 B2 n2 c2 m2 d2)] w fun e w' => e = .returned (.agg #[.int .i64 (pairC l k), .int .i64 (ordV l k)]) ∧ Below w.heap.size w w' := by
  have HB := Lib.hid (Below.refl w.heap.size w)
  have HL := hl.kept
  have Z0 := Lib.hid hl.le
  clear hl
  have HK := hk.kept
  have Z00 := Lib.hid hk.le
  clear hk
  have HO := Lib.hid (ordV_0 h0)
  obtain ⟨r, hr⟩ : ∃ r, pairC l k = r := ⟨_, rfl⟩
  rw [hr] at h0
  have hne : (r != 0) = true := by rw [bne_iff_ne]; exact h0
  have HC := Lib.hid hr
  clear hr h0
  go_enter Try.func28, Try.ntmps28
  go_wp2
  refine Code.wp_name ?_
  intro U1 hU1
  have hb : Below w.heap.size w U1 := by rw [hU1]; exact ((((Below.refl _ _).alloc (Nat.le_refl _) _).alloc (by simp <;> omega) _).alloc (by simp <;> omega) _)
  have zz : Hid (w.heap.size + 3 = U1.heap.size) := Lib.hid (by rw [hU1]; simp)
  have HX1 : Kept w.heap.size (w.heap.size + 1) (BoxK w.heap.size 29 #[.int .i64 l.age, .int .i64 l.options, .int .i64 l.typ, .int .i64 l.id, .int .i64 l.adv, .int .i64 l.seq, .slice A n c, .slice B m d, .int .i64 l.mask, .int .i64 l.cost]) U1 := by rw [hU1]; exact Kept.box (((Box.made_at _ _ _ rfl).over _).over _)
  have HX2 : Kept (w.heap.size + 1) (w.heap.size + 1 + 1) (BoxK (w.heap.size + 1) 29 #[.int .i64 k.age, .int .i64 k.options, .int .i64 k.typ, .int .i64 k.id, .int .i64 k.adv, .int .i64 k.seq, .slice A2 n2 c2, .slice B2 m2 d2, .int .i64 k.mask, .int .i64 k.cost]) U1 := by rw [hU1]; exact Kept.box ((Box.made_at _ _ _ (by simp <;> omega)).over _)
  have HX3 : Kept (w.heap.size + 1 + 1) (w.heap.size + 1 + 1 + 1) (BoxK (w.heap.size + 1 + 1) 49 #[.int .i64 0, .int .i64 0]) U1 := by rw [hU1]; exact Kept.box (Box.made_at _ _ _ (by simp <;> omega))
  replace HL := HL.below hb
  replace HK := HK.below hb
  replace HB := Lib.hid (below_step HB.out hb)
  clear hb
  have Z1 := zz; clear zz
  clear hU1
  refine wp_scope_fwd 0 rfl ?_
  have c2_0 := HX1.look 0
  have c2_1 := HX1.look 1
  have c2_2 := HX1.look 2
  have c2_3 := HX1.look 3
  have c2_4 := HX1.look 4
  have c2_5 := HX1.look 5
  have c2_6 := HX1.look 6
  have c2_7 := HX1.look 7
  have c2_8 := HX1.look 8
  have c2_9 := HX1.look 9
  have c2_10 := HX2.look 0
  have c2_11 := HX2.look 1
  have c2_12 := HX2.look 2
  have c2_13 := HX2.look 3
  have c2_14 := HX2.look 4
  have c2_15 := HX2.look 5
  have c2_16 := HX2.look 6
  have c2_17 := HX2.look 7
  have c2_18 := HX2.look 8
  have c2_19 := HX2.look 9
  have l2_0 := HX1.bx.lt
  have l2_1 := HX2.bx.lt
  have l2_2 := HX3.bx.lt
  go_wp2_with fail
  clear c2_0 c2_1 c2_2 c2_3 c2_4 c2_5 c2_6 c2_7 c2_8 c2_9 c2_10 c2_11 c2_12 c2_13 c2_14 c2_15 c2_16 c2_17 c2_18 c2_19 l2_0 l2_1 l2_2
  refine (pairFault_any l q lo hi A B n c m d k q2 lo2 hi2 A2 B2 n2 c2 m2 d2 _ HL.lsa hn hm HK.lsa hn2 hm2).mono ?_
  rw [HC.out]
  rintro e w2 ⟨rfl, hb⟩
  have Z2 := Lib.hid hb.size
  replace HL := HL.below hb
  replace HK := HK.below hb
  replace HX1 := HX1.below hb
  replace HX2 := HX2.below hb
  replace HX3 := HX3.below hb
  replace HB := Lib.hid (below_step HB.out hb)
  clear hb
  have l3_0 := HX1.bx.lt
  have l3_1 := HX2.bx.lt
  have l3_2 := HX3.bx.lt
  go_wp2
  clear l3_0 l3_1 l3_2
  go_step3
  refine ⟨rfl, ?_⟩
  have c4_0 := HX3.look 0
  have c4_1 := HX3.look 1
  have f4_0 := HX3.free 0
  have f4_1 := HX3.free 1
  have l4_0 := HX1.bx.lt
  have l4_1 := HX2.bx.lt
  have l4_2 := HX3.bx.lt
  go_wp2
  clear c4_0 c4_1 f4_0 f4_1 l4_0 l4_1 l4_2
  obtain ⟨U3, hU3⟩ : ∃ W : World, W = ((w2.setCell ⟨w.heap.size + 1 + 1, 0, none⟩ (.int .i64 r)).setCell ⟨w.heap.size + 1 + 1, 1, none⟩ (.int .i64 0)) := ⟨_, rfl⟩
  have ho : Only (w.heap.size + 1 + 1) (w.heap.size + 1 + 1 + 1) w2 U3 := by rw [hU3]; exact (((Only.refl _ _ _).set (p := ⟨w.heap.size + 1 + 1, 0, none⟩) (Nat.le_refl _) (Nat.lt_succ_self _) _).set (p := ⟨w.heap.size + 1 + 1, 1, none⟩) (Nat.le_refl _) (Nat.lt_succ_self _) _)
  replace HX3 : Kept (w.heap.size + 1 + 1) (w.heap.size + 1 + 1 + 1) (BoxK (w.heap.size + 1 + 1) 49 #[.int .i64 r, .int .i64 0]) U3 := by rw [hU3]; exact Kept.box ((HX3.bx.puts 0 (.int .i64 r) (cs' := #[.int .i64 r, .int .i64 0]) rfl).puts 1 (.int .i64 0) (cs' := #[.int .i64 r, .int .i64 0]) rfl)
  replace HL := HL.only ho (by have := Z0.out; have := Z00.out; have := Z1.out; have := Z2.out; omega)
  replace HK := HK.only ho (by have := Z0.out; have := Z00.out; have := Z1.out; have := Z2.out; omega)
  replace HX1 := HX1.only ho (by have := Z0.out; have := Z00.out; have := Z1.out; have := Z2.out; omega)
  replace HX2 := HX2.only ho (by have := Z0.out; have := Z00.out; have := Z1.out; have := Z2.out; omega)
  replace HB := Lib.hid (Below.only HB.out ho (by have := Z0.out; have := Z00.out; have := Z1.out; have := Z2.out; omega) HB.out.size)
  have Z3 := Lib.hid ho.size; clear ho
  have q_0 := HX3.look 0
  have q_1 := HX3.look 1
  simp only [Exit.jump]
  subst hU3
  exact bodyPost_ret (v := .agg #[.int .i64 r, .int .i64 0]) (by simp [results, Try.results28, go_sem, q_0, q_1]) rfl ⟨by rw [HC.out, HO.out], HB.out⟩

set_option maxRecDepth 100000 in
set_option maxHeartbeats 3200000 in
theorem compareLsas_1 (l : LsaM) (q : Bool) (lo hi : Nat) (A B : Option Addr) (n c m d : Nat) (k : LsaM) (q2 : Bool) (lo2 hi2 : Nat) (A2 B2 : Option Addr) (n2 c2 m2 d2 : Nat) (w : World) (hl : LsaAt q lo hi w A n B m l) (hn : n ≤ 1048576) (hm : m ≤ 1048576) (hk : LsaAt q2 lo2 hi2 w A2 n2 B2 m2 k) (hn2 : n2 ≤ 1048576) (hm2 : m2 ≤ 1048576) (h0 : pairC l k = 0) (h1 : ¬ cmpI l.seq k.seq = 0) :
    Calls Try.prog 28 #[.agg (lsaCells l A B n c m d), .agg (lsaCells k A2 B2 n2 c2 m2 d2)] w fun e w' => e = .returned (.agg #[.int .i64 (pairC l k), .int .i64 (ordV l k)]) ∧ Below w.heap.size w w' := by
  have HB := Lib.hid (Below.refl w.heap.size w)
  have HL := hl.kept
  have Z0 := Lib.hid hl.le
  clear hl
  have HK := hk.kept
  have Z00 := Lib.hid hk.le
  clear hk
  have HC := Lib.hid h0
  obtain ⟨g1, g2, g3⟩ := pairC_sound h0
  have HF := Lib.hid g1
  have HG := Lib.hid g2
  have S1 := Lib.hid (sound_of l g1)
  have S2 := Lib.hid (sound_of k g2)
  have HO := Lib.hid (ordV_1 h0 h1)
  obtain ⟨x1, hx1⟩ : ∃ z, cmpI l.seq k.seq = z := ⟨_, rfl⟩
  rw [hx1] at h1
  rw [hx1] at HO
  have hn1 : (x1 != 0) = true := by rw [bne_iff_ne]; exact h1
  have HX := Lib.hid hx1
  clear hx1 h1 h0
  go_enter Try.func28, Try.ntmps28
  go_wp2
  refine Code.wp_name ?_
  intro U1 hU1
  have hb : Below w.heap.size w U1 := by rw [hU1]; exact ((((Below.refl _ _).alloc (Nat.le_refl _) _).alloc (by simp <;> omega) _).alloc (by simp <;> omega) _)
  have zz : Hid (w.heap.size + 3 = U1.heap.size) := Lib.hid (by rw [hU1]; simp)
  have HX1 : Kept w.heap.size (w.heap.size + 1) (BoxK w.heap.size 29 #[.int .i64 l.age, .int .i64 l.options, .int .i64 l.typ, .int .i64 l.id, .int .i64 l.adv, .int .i64 l.seq, .slice A n c, .slice B m d, .int .i64 l.mask, .int .i64 l.cost]) U1 := by rw [hU1]; exact Kept.box (((Box.made_at _ _ _ rfl).over _).over _)
  have HX2 : Kept (w.heap.size + 1) (w.heap.size + 1 + 1) (BoxK (w.heap.size + 1) 29 #[.int .i64 k.age, .int .i64 k.options, .int .i64 k.typ, .int .i64 k.id, .int .i64 k.adv, .int .i64 k.seq, .slice A2 n2 c2, .slice B2 m2 d2, .int .i64 k.mask, .int .i64 k.cost]) U1 := by rw [hU1]; exact Kept.box ((Box.made_at _ _ _ (by simp <;> omega)).over _)
  have HX3 : Kept (w.heap.size + 1 + 1) (w.heap.size + 1 + 1 + 1) (BoxK (w.heap.size + 1 + 1) 49 #[.int .i64 0, .int .i64 0]) U1 := by rw [hU1]; exact Kept.box (Box.made_at _ _ _ (by simp <;> omega))
  replace HL := HL.below hb
  replace HK := HK.below hb
  replace HB := Lib.hid (below_step HB.out hb)
  clear hb
  have Z1 := zz; clear zz
  clear hU1
  refine wp_scope_fwd 0 rfl ?_
  have c2_0 := HX1.look 0
  have c2_1 := HX1.look 1
  have c2_2 := HX1.look 2
  have c2_3 := HX1.look 3
  have c2_4 := HX1.look 4
  have c2_5 := HX1.look 5
  have c2_6 := HX1.look 6
  have c2_7 := HX1.look 7
  have c2_8 := HX1.look 8
  have c2_9 := HX1.look 9
  have c2_10 := HX2.look 0
  have c2_11 := HX2.look 1
  have c2_12 := HX2.look 2
  have c2_13 := HX2.look 3
  have c2_14 := HX2.look 4
  have c2_15 := HX2.look 5
  have c2_16 := HX2.look 6
  have c2_17 := HX2.look 7
  have c2_18 := HX2.look 8
  have c2_19 := HX2.look 9
  have l2_0 := HX1.bx.lt
  have l2_1 := HX2.bx.lt
  have l2_2 := HX3.bx.lt
  go_wp2_with fail
  clear c2_0 c2_1 c2_2 c2_3 c2_4 c2_5 c2_6 c2_7 c2_8 c2_9 c2_10 c2_11 c2_12 c2_13 c2_14 c2_15 c2_16 c2_17 c2_18 c2_19 l2_0 l2_1 l2_2
  refine (pairFault_any l q lo hi A B n c m d k q2 lo2 hi2 A2 B2 n2 c2 m2 d2 _ HL.lsa hn hm HK.lsa hn2 hm2).mono ?_
  rw [HC.out]
  rintro e w2 ⟨rfl, hb⟩
  have Z2 := Lib.hid hb.size
  replace HL := HL.below hb
  replace HK := HK.below hb
  replace HX1 := HX1.below hb
  replace HX2 := HX2.below hb
  replace HX3 := HX3.below hb
  replace HB := Lib.hid (below_step HB.out hb)
  clear hb
  have c3_0 := HX1.look 5
  have c3_1 := HX2.look 5
  have l3_0 := HX1.bx.lt
  have l3_1 := HX2.bx.lt
  have l3_2 := HX3.bx.lt
  go_wp2_with fail
  clear c3_0 c3_1 l3_0 l3_1 l3_2
  refine (compare_any l.seq k.seq _).mono ?_
  rw [HX.out]
  rintro e w3 ⟨rfl, rfl⟩
  have l4_0 := HX1.bx.lt
  have l4_1 := HX2.bx.lt
  have l4_2 := HX3.bx.lt
  go_wp2
  clear l4_0 l4_1 l4_2
  go_step3
  refine ⟨rfl, ?_⟩
  have c5_0 := HX3.look 0
  have c5_1 := HX3.look 1
  have f5_0 := HX3.free 0
  have f5_1 := HX3.free 1
  have l5_0 := HX1.bx.lt
  have l5_1 := HX2.bx.lt
  have l5_2 := HX3.bx.lt
  go_wp2
  clear c5_0 c5_1 f5_0 f5_1 l5_0 l5_1 l5_2
  obtain ⟨U4, hU4⟩ : ∃ W : World, W = ((w3.setCell ⟨w.heap.size + 1 + 1, 0, none⟩ (.int .i64 0)).setCell ⟨w.heap.size + 1 + 1, 1, none⟩ (.int .i64 x1)) := ⟨_, rfl⟩
  have ho : Only (w.heap.size + 1 + 1) (w.heap.size + 1 + 1 + 1) w3 U4 := by rw [hU4]; exact (((Only.refl _ _ _).set (p := ⟨w.heap.size + 1 + 1, 0, none⟩) (Nat.le_refl _) (Nat.lt_succ_self _) _).set (p := ⟨w.heap.size + 1 + 1, 1, none⟩) (Nat.le_refl _) (Nat.lt_succ_self _) _)
  replace HX3 : Kept (w.heap.size + 1 + 1) (w.heap.size + 1 + 1 + 1) (BoxK (w.heap.size + 1 + 1) 49 #[.int .i64 0, .int .i64 x1]) U4 := by rw [hU4]; exact Kept.box ((HX3.bx.puts 0 (.int .i64 0) (cs' := #[.int .i64 0, .int .i64 0]) rfl).puts 1 (.int .i64 x1) (cs' := #[.int .i64 0, .int .i64 x1]) rfl)
  replace HL := HL.only ho (by have := Z0.out; have := Z00.out; have := Z1.out; have := Z2.out; omega)
  replace HK := HK.only ho (by have := Z0.out; have := Z00.out; have := Z1.out; have := Z2.out; omega)
  replace HX1 := HX1.only ho (by have := Z0.out; have := Z00.out; have := Z1.out; have := Z2.out; omega)
  replace HX2 := HX2.only ho (by have := Z0.out; have := Z00.out; have := Z1.out; have := Z2.out; omega)
  replace HB := Lib.hid (Below.only HB.out ho (by have := Z0.out; have := Z00.out; have := Z1.out; have := Z2.out; omega) HB.out.size)
  have Z3 := Lib.hid ho.size; clear ho
  have q_0 := HX3.look 0
  have q_1 := HX3.look 1
  simp only [Exit.jump]
  subst hU4
  exact bodyPost_ret (v := .agg #[.int .i64 0, .int .i64 x1]) (by simp [results, Try.results28, go_sem, q_0, q_1]) rfl ⟨by rw [HC.out, HO.out], HB.out⟩

set_option maxRecDepth 100000 in
set_option maxHeartbeats 3200000 in
theorem compareLsas_2 (l : LsaM) (q : Bool) (lo hi : Nat) (A B : Option Addr) (n c m d : Nat) (k : LsaM) (q2 : Bool) (lo2 hi2 : Nat) (A2 B2 : Option Addr) (n2 c2 m2 d2 : Nat) (w : World) (hl : LsaAt q lo hi w A n B m l) (hn : n ≤ 1048576) (hm : m ≤ 1048576) (hk : LsaAt q2 lo2 hi2 w A2 n2 B2 m2 k) (hn2 : n2 ≤ 1048576) (hm2 : m2 ≤ 1048576) (h0 : pairC l k = 0) (h1 : cmpI l.seq k.seq = 0) (h2 : ¬ cmpI (sumV l) (sumV k) = 0) :
    Calls Try.prog 28 #[.agg (lsaCells l A B n c m d), .agg (lsaCells k A2 B2 n2 c2 m2 d2)] w fun e w' => e = .returned (.agg #[.int .i64 (pairC l k), .int .i64 (ordV l k)]) ∧ Below w.heap.size w w' := by
  have HB := Lib.hid (Below.refl w.heap.size w)
  have HL := hl.kept
  have Z0 := Lib.hid hl.le
  clear hl
  have HK := hk.kept
  have Z00 := Lib.hid hk.le
  clear hk
  have HC := Lib.hid h0
  obtain ⟨g1, g2, g3⟩ := pairC_sound h0
  have HF := Lib.hid g1
  have HG := Lib.hid g2
  have S1 := Lib.hid (sound_of l g1)
  have S2 := Lib.hid (sound_of k g2)
  have HO := Lib.hid (ordV_2 h0 h1 h2)
  obtain ⟨x1, hx1⟩ : ∃ z, cmpI l.seq k.seq = z := ⟨_, rfl⟩
  rw [hx1] at h1
  subst h1
  have HX := Lib.hid hx1
  obtain ⟨x2, hx2⟩ : ∃ z, cmpI (sumV l) (sumV k) = z := ⟨_, rfl⟩
  rw [hx2] at h2
  have HS1 : Hid (∃ z, sumV l = z) := Lib.hid ⟨_, rfl⟩
  obtain ⟨s1, hs1⟩ := HS1.out
  obtain ⟨s2, hs2⟩ : ∃ z, sumV k = z := ⟨_, rfl⟩
  rw [hs1, hs2] at hx2
  have HV1 := Lib.hid hs1
  have HV2 := Lib.hid hs2
  clear HS1
  rw [hs1, hs2, hx2] at HO
  have hn1 : (x2 != 0) = true := by rw [bne_iff_ne]; exact h2
  have HY := Lib.hid hx2
  clear hx1 hx2 h2 h0 hs1 hs2
  go_enter Try.func28, Try.ntmps28
  go_wp2
  refine Code.wp_name ?_
  intro U1 hU1
  have hb : Below w.heap.size w U1 := by rw [hU1]; exact ((((Below.refl _ _).alloc (Nat.le_refl _) _).alloc (by simp <;> omega) _).alloc (by simp <;> omega) _)
  have zz : Hid (w.heap.size + 3 = U1.heap.size) := Lib.hid (by rw [hU1]; simp)
  have HX1 : Kept w.heap.size (w.heap.size + 1) (BoxK w.heap.size 29 #[.int .i64 l.age, .int .i64 l.options, .int .i64 l.typ, .int .i64 l.id, .int .i64 l.adv, .int .i64 l.seq, .slice A n c, .slice B m d, .int .i64 l.mask, .int .i64 l.cost]) U1 := by rw [hU1]; exact Kept.box (((Box.made_at _ _ _ rfl).over _).over _)
  have HX2 : Kept (w.heap.size + 1) (w.heap.size + 1 + 1) (BoxK (w.heap.size + 1) 29 #[.int .i64 k.age, .int .i64 k.options, .int .i64 k.typ, .int .i64 k.id, .int .i64 k.adv, .int .i64 k.seq, .slice A2 n2 c2, .slice B2 m2 d2, .int .i64 k.mask, .int .i64 k.cost]) U1 := by rw [hU1]; exact Kept.box ((Box.made_at _ _ _ (by simp <;> omega)).over _)
  have HX3 : Kept (w.heap.size + 1 + 1) (w.heap.size + 1 + 1 + 1) (BoxK (w.heap.size + 1 + 1) 49 #[.int .i64 0, .int .i64 0]) U1 := by rw [hU1]; exact Kept.box (Box.made_at _ _ _ (by simp <;> omega))
  replace HL := HL.below hb
  replace HK := HK.below hb
  replace HB := Lib.hid (below_step HB.out hb)
  clear hb
  have Z1 := zz; clear zz
  clear hU1
  refine wp_scope_fwd 0 rfl ?_
  have c2_0 := HX1.look 0
  have c2_1 := HX1.look 1
  have c2_2 := HX1.look 2
  have c2_3 := HX1.look 3
  have c2_4 := HX1.look 4
  have c2_5 := HX1.look 5
  have c2_6 := HX1.look 6
  have c2_7 := HX1.look 7
  have c2_8 := HX1.look 8
  have c2_9 := HX1.look 9
  have c2_10 := HX2.look 0
  have c2_11 := HX2.look 1
  have c2_12 := HX2.look 2
  have c2_13 := HX2.look 3
  have c2_14 := HX2.look 4
  have c2_15 := HX2.look 5
  have c2_16 := HX2.look 6
  have c2_17 := HX2.look 7
  have c2_18 := HX2.look 8
  have c2_19 := HX2.look 9
  have l2_0 := HX1.bx.lt
  have l2_1 := HX2.bx.lt
  have l2_2 := HX3.bx.lt
  go_wp2_with fail
  clear c2_0 c2_1 c2_2 c2_3 c2_4 c2_5 c2_6 c2_7 c2_8 c2_9 c2_10 c2_11 c2_12 c2_13 c2_14 c2_15 c2_16 c2_17 c2_18 c2_19 l2_0 l2_1 l2_2
  refine (pairFault_any l q lo hi A B n c m d k q2 lo2 hi2 A2 B2 n2 c2 m2 d2 _ HL.lsa hn hm HK.lsa hn2 hm2).mono ?_
  rw [HC.out]
  rintro e w2 ⟨rfl, hb⟩
  have Z2 := Lib.hid hb.size
  replace HL := HL.below hb
  replace HK := HK.below hb
  replace HX1 := HX1.below hb
  replace HX2 := HX2.below hb
  replace HX3 := HX3.below hb
  replace HB := Lib.hid (below_step HB.out hb)
  clear hb
  have c3_0 := HX1.look 5
  have c3_1 := HX2.look 5
  have l3_0 := HX1.bx.lt
  have l3_1 := HX2.bx.lt
  have l3_2 := HX3.bx.lt
  go_wp2_with fail
  clear c3_0 c3_1 l3_0 l3_1 l3_2
  refine (compare_any l.seq k.seq _).mono ?_
  rw [HX.out]
  rintro e w3 ⟨rfl, rfl⟩
  have l4_0 := HX1.bx.lt
  have l4_1 := HX2.bx.lt
  have l4_2 := HX3.bx.lt
  go_wp2_with fail
  clear l4_0 l4_1 l4_2
  have SB : Hid (∀ W, Hid (Below w3.heap.size w3 W) → (fun W => W.cell? ⟨w.heap.size, 0, none⟩ = some (.int .i64 l.age) ∧ W.cell? ⟨w.heap.size, 1, none⟩ = some (.int .i64 l.options) ∧ W.cell? ⟨w.heap.size, 2, none⟩ = some (.int .i64 l.typ) ∧ W.cell? ⟨w.heap.size, 3, none⟩ = some (.int .i64 l.id) ∧ W.cell? ⟨w.heap.size, 4, none⟩ = some (.int .i64 l.adv) ∧ W.cell? ⟨w.heap.size, 5, none⟩ = some (.int .i64 l.seq) ∧ W.cell? ⟨w.heap.size, 6, none⟩ = some (.slice A n c) ∧ W.cell? ⟨w.heap.size, 7, none⟩ = some (.slice B m d) ∧ W.cell? ⟨w.heap.size, 8, none⟩ = some (.int .i64 l.mask) ∧ W.cell? ⟨w.heap.size, 9, none⟩ = some (.int .i64 l.cost) ∧ W.cell? ⟨w.heap.size + 1, 0, none⟩ = some (.int .i64 k.age) ∧ W.cell? ⟨w.heap.size + 1, 1, none⟩ = some (.int .i64 k.options) ∧ W.cell? ⟨w.heap.size + 1, 2, none⟩ = some (.int .i64 k.typ) ∧ W.cell? ⟨w.heap.size + 1, 3, none⟩ = some (.int .i64 k.id) ∧ W.cell? ⟨w.heap.size + 1, 4, none⟩ = some (.int .i64 k.adv) ∧ W.cell? ⟨w.heap.size + 1, 5, none⟩ = some (.int .i64 k.seq) ∧ W.cell? ⟨w.heap.size + 1, 6, none⟩ = some (.slice A2 n2 c2) ∧ W.cell? ⟨w.heap.size + 1, 7, none⟩ = some (.slice B2 m2 d2) ∧ W.cell? ⟨w.heap.size + 1, 8, none⟩ = some (.int .i64 k.mask) ∧ W.cell? ⟨w.heap.size + 1, 9, none⟩ = some (.int .i64 k.cost)) W) := fun W h => ⟨(HX1.below h.out).look 0, (HX1.below h.out).look 1, (HX1.below h.out).look 2, (HX1.below h.out).look 3, (HX1.below h.out).look 4, (HX1.below h.out).look 5, (HX1.below h.out).look 6, (HX1.below h.out).look 7, (HX1.below h.out).look 8, (HX1.below h.out).look 9, (HX2.below h.out).look 0, (HX2.below h.out).look 1, (HX2.below h.out).look 2, (HX2.below h.out).look 3, (HX2.below h.out).look 4, (HX2.below h.out).look 5, (HX2.below h.out).look 6, (HX2.below h.out).look 7, (HX2.below h.out).look 8, (HX2.below h.out).look 9⟩
  have V0 : Hid (Below w3.heap.size w3 w3.drew) := (Below.refl _ _).drew
  go_region_held3 (fun W => W.cell? ⟨w.heap.size, 0, none⟩ = some (.int .i64 l.age) ∧ W.cell? ⟨w.heap.size, 1, none⟩ = some (.int .i64 l.options) ∧ W.cell? ⟨w.heap.size, 2, none⟩ = some (.int .i64 l.typ) ∧ W.cell? ⟨w.heap.size, 3, none⟩ = some (.int .i64 l.id) ∧ W.cell? ⟨w.heap.size, 4, none⟩ = some (.int .i64 l.adv) ∧ W.cell? ⟨w.heap.size, 5, none⟩ = some (.int .i64 l.seq) ∧ W.cell? ⟨w.heap.size, 6, none⟩ = some (.slice A n c) ∧ W.cell? ⟨w.heap.size, 7, none⟩ = some (.slice B m d) ∧ W.cell? ⟨w.heap.size, 8, none⟩ = some (.int .i64 l.mask) ∧ W.cell? ⟨w.heap.size, 9, none⟩ = some (.int .i64 l.cost) ∧ W.cell? ⟨w.heap.size + 1, 0, none⟩ = some (.int .i64 k.age) ∧ W.cell? ⟨w.heap.size + 1, 1, none⟩ = some (.int .i64 k.options) ∧ W.cell? ⟨w.heap.size + 1, 2, none⟩ = some (.int .i64 k.typ) ∧ W.cell? ⟨w.heap.size + 1, 3, none⟩ = some (.int .i64 k.id) ∧ W.cell? ⟨w.heap.size + 1, 4, none⟩ = some (.int .i64 k.adv) ∧ W.cell? ⟨w.heap.size + 1, 5, none⟩ = some (.int .i64 k.seq) ∧ W.cell? ⟨w.heap.size + 1, 6, none⟩ = some (.slice A2 n2 c2) ∧ W.cell? ⟨w.heap.size + 1, 7, none⟩ = some (.slice B2 m2 d2) ∧ W.cell? ⟨w.heap.size + 1, 8, none⟩ = some (.int .i64 k.mask) ∧ W.cell? ⟨w.heap.size + 1, 9, none⟩ = some (.int .i64 k.cost)) (exact SB.out _ (by assumption))
    (first | (go_at_call 21; ((with_reducible refine (sum_any l q lo hi A B n c m d _ (HL.below V0.out).lsa hn hm).mono ?_); rw [HF.out, HV1.out]; rintro e u1_0 ⟨rfl, hb⟩; have V1 := Lib.hid (below_step V0.out hb); clear hb)) | (go_at_call 21; ((with_reducible refine (sum_any k q2 lo2 hi2 A2 B2 n2 c2 m2 d2 _ (HK.below V1.out).lsa hn2 hm2).mono ?_); rw [HG.out, HV2.out]; rintro e u1_1 ⟨rfl, hb⟩; have V2 := Lib.hid (below_step V1.out hb); clear hb)) | (go_at_call 89; ((with_reducible refine (compare_any s1 s2 _).mono ?_); rw [HY.out]; rintro e u1_2 ⟨rfl, rfl⟩)))
  have hb := V2.out
  clear SB V0 V1 V2
  have Z3 := Lib.hid hb.size
  replace HL := HL.below hb
  replace HK := HK.below hb
  replace HX1 := HX1.below hb
  replace HX2 := HX2.below hb
  replace HX3 := HX3.below hb
  replace HB := Lib.hid (below_step HB.out hb)
  clear hb
  have l5_0 := HX1.bx.lt
  have l5_1 := HX2.bx.lt
  have l5_2 := HX3.bx.lt
  go_wp2
  clear l5_0 l5_1 l5_2
  go_step3
  refine ⟨rfl, ?_⟩
  have c6_0 := HX3.look 0
  have c6_1 := HX3.look 1
  have f6_0 := HX3.free 0
  have f6_1 := HX3.free 1
  have l6_0 := HX1.bx.lt
  have l6_1 := HX2.bx.lt
  have l6_2 := HX3.bx.lt
  go_wp2
  clear c6_0 c6_1 f6_0 f6_1 l6_0 l6_1 l6_2
  obtain ⟨U4, hU4⟩ : ∃ W : World, W = ((u1_2.setCell ⟨w.heap.size + 1 + 1, 0, none⟩ (.int .i64 0)).setCell ⟨w.heap.size + 1 + 1, 1, none⟩ (.int .i64 x2)) := ⟨_, rfl⟩
  have ho : Only (w.heap.size + 1 + 1) (w.heap.size + 1 + 1 + 1) u1_2 U4 := by rw [hU4]; exact (((Only.refl _ _ _).set (p := ⟨w.heap.size + 1 + 1, 0, none⟩) (Nat.le_refl _) (Nat.lt_succ_self _) _).set (p := ⟨w.heap.size + 1 + 1, 1, none⟩) (Nat.le_refl _) (Nat.lt_succ_self _) _)
  replace HX3 : Kept (w.heap.size + 1 + 1) (w.heap.size + 1 + 1 + 1) (BoxK (w.heap.size + 1 + 1) 49 #[.int .i64 0, .int .i64 x2]) U4 := by rw [hU4]; exact Kept.box ((HX3.bx.puts 0 (.int .i64 0) (cs' := #[.int .i64 0, .int .i64 0]) rfl).puts 1 (.int .i64 x2) (cs' := #[.int .i64 0, .int .i64 x2]) rfl)
  replace HL := HL.only ho (by have := Z0.out; have := Z00.out; have := Z1.out; have := Z2.out; have := Z3.out; omega)
  replace HK := HK.only ho (by have := Z0.out; have := Z00.out; have := Z1.out; have := Z2.out; have := Z3.out; omega)
  replace HX1 := HX1.only ho (by have := Z0.out; have := Z00.out; have := Z1.out; have := Z2.out; have := Z3.out; omega)
  replace HX2 := HX2.only ho (by have := Z0.out; have := Z00.out; have := Z1.out; have := Z2.out; have := Z3.out; omega)
  replace HB := Lib.hid (Below.only HB.out ho (by have := Z0.out; have := Z00.out; have := Z1.out; have := Z2.out; have := Z3.out; omega) HB.out.size)
  have Z4 := Lib.hid ho.size; clear ho
  have q_0 := HX3.look 0
  have q_1 := HX3.look 1
  simp only [Exit.jump]
  subst hU4
  exact bodyPost_ret (v := .agg #[.int .i64 0, .int .i64 x2]) (by simp [results, Try.results28, go_sem, q_0, q_1]) rfl ⟨by rw [HC.out, HO.out], HB.out⟩

set_option maxRecDepth 100000 in
set_option maxHeartbeats 3200000 in
theorem compareLsas_3t (l : LsaM) (q : Bool) (lo hi : Nat) (A B : Option Addr) (n c m d : Nat) (k : LsaM) (q2 : Bool) (lo2 hi2 : Nat) (A2 B2 : Option Addr) (n2 c2 m2 d2 : Nat) (w : World) (hl : LsaAt q lo hi w A n B m l) (hn : n ≤ 1048576) (hm : m ≤ 1048576) (hk : LsaAt q2 lo2 hi2 w A2 n2 B2 m2 k) (hn2 : n2 ≤ 1048576) (hm2 : m2 ≤ 1048576) (h0 : pairC l k = 0) (h1 : cmpI l.seq k.seq = 0) (h2 : cmpI (sumV l) (sumV k) = 0) (h3 : oldB l = true ∧ oldB k = false) :
    Calls Try.prog 28 #[.agg (lsaCells l A B n c m d), .agg (lsaCells k A2 B2 n2 c2 m2 d2)] w fun e w' => e = .returned (.agg #[.int .i64 (pairC l k), .int .i64 (ordV l k)]) ∧ Below w.heap.size w w' := by
  have HB := Lib.hid (Below.refl w.heap.size w)
  have HL := hl.kept
  have Z0 := Lib.hid hl.le
  clear hl
  have HK := hk.kept
  have Z00 := Lib.hid hk.le
  clear hk
  have HC := Lib.hid h0
  obtain ⟨g1, g2, g3⟩ := pairC_sound h0
  have HF := Lib.hid g1
  have HG := Lib.hid g2
  have S1 := Lib.hid (sound_of l g1)
  have S2 := Lib.hid (sound_of k g2)
  have HO := Lib.hid (ordV_3 h0 h1 h2 (by rw [h3.1, h3.2]; decide))
  obtain ⟨x1, hx1⟩ : ∃ z, cmpI l.seq k.seq = z := ⟨_, rfl⟩
  rw [hx1] at h1
  subst h1
  have HX := Lib.hid hx1
  obtain ⟨x2, hx2⟩ : ∃ z, cmpI (sumV l) (sumV k) = z := ⟨_, rfl⟩
  rw [hx2] at h2
  have HS1 : Hid (∃ z, sumV l = z) := Lib.hid ⟨_, rfl⟩
  obtain ⟨s1, hs1⟩ := HS1.out
  obtain ⟨s2, hs2⟩ : ∃ z, sumV k = z := ⟨_, rfl⟩
  rw [hs1, hs2] at hx2
  have HV1 := Lib.hid hs1
  have HV2 := Lib.hid hs2
  clear HS1
  subst h2
  have HY := Lib.hid hx2
  have HP1 := Lib.hid h3.1
  have HP2 := Lib.hid h3.2
  clear hx1 hx2 hs1 hs2 h0 h3
  go_enter Try.func28, Try.ntmps28
  go_wp2
  refine Code.wp_name ?_
  intro U1 hU1
  have hb : Below w.heap.size w U1 := by rw [hU1]; exact ((((Below.refl _ _).alloc (Nat.le_refl _) _).alloc (by simp <;> omega) _).alloc (by simp <;> omega) _)
  have zz : Hid (w.heap.size + 3 = U1.heap.size) := Lib.hid (by rw [hU1]; simp)
  have HX1 : Kept w.heap.size (w.heap.size + 1) (BoxK w.heap.size 29 #[.int .i64 l.age, .int .i64 l.options, .int .i64 l.typ, .int .i64 l.id, .int .i64 l.adv, .int .i64 l.seq, .slice A n c, .slice B m d, .int .i64 l.mask, .int .i64 l.cost]) U1 := by rw [hU1]; exact Kept.box (((Box.made_at _ _ _ rfl).over _).over _)
  have HX2 : Kept (w.heap.size + 1) (w.heap.size + 1 + 1) (BoxK (w.heap.size + 1) 29 #[.int .i64 k.age, .int .i64 k.options, .int .i64 k.typ, .int .i64 k.id, .int .i64 k.adv, .int .i64 k.seq, .slice A2 n2 c2, .slice B2 m2 d2, .int .i64 k.mask, .int .i64 k.cost]) U1 := by rw [hU1]; exact Kept.box ((Box.made_at _ _ _ (by simp <;> omega)).over _)
  have HX3 : Kept (w.heap.size + 1 + 1) (w.heap.size + 1 + 1 + 1) (BoxK (w.heap.size + 1 + 1) 49 #[.int .i64 0, .int .i64 0]) U1 := by rw [hU1]; exact Kept.box (Box.made_at _ _ _ (by simp <;> omega))
  replace HL := HL.below hb
  replace HK := HK.below hb
  replace HB := Lib.hid (below_step HB.out hb)
  clear hb
  have Z1 := zz; clear zz
  clear hU1
  refine wp_scope_fwd 0 rfl ?_
  have c2_0 := HX1.look 0
  have c2_1 := HX1.look 1
  have c2_2 := HX1.look 2
  have c2_3 := HX1.look 3
  have c2_4 := HX1.look 4
  have c2_5 := HX1.look 5
  have c2_6 := HX1.look 6
  have c2_7 := HX1.look 7
  have c2_8 := HX1.look 8
  have c2_9 := HX1.look 9
  have c2_10 := HX2.look 0
  have c2_11 := HX2.look 1
  have c2_12 := HX2.look 2
  have c2_13 := HX2.look 3
  have c2_14 := HX2.look 4
  have c2_15 := HX2.look 5
  have c2_16 := HX2.look 6
  have c2_17 := HX2.look 7
  have c2_18 := HX2.look 8
  have c2_19 := HX2.look 9
  have l2_0 := HX1.bx.lt
  have l2_1 := HX2.bx.lt
  have l2_2 := HX3.bx.lt
  go_wp2_with fail
  clear c2_0 c2_1 c2_2 c2_3 c2_4 c2_5 c2_6 c2_7 c2_8 c2_9 c2_10 c2_11 c2_12 c2_13 c2_14 c2_15 c2_16 c2_17 c2_18 c2_19 l2_0 l2_1 l2_2
  refine (pairFault_any l q lo hi A B n c m d k q2 lo2 hi2 A2 B2 n2 c2 m2 d2 _ HL.lsa hn hm HK.lsa hn2 hm2).mono ?_
  rw [HC.out]
  rintro e w2 ⟨rfl, hb⟩
  have Z2 := Lib.hid hb.size
  replace HL := HL.below hb
  replace HK := HK.below hb
  replace HX1 := HX1.below hb
  replace HX2 := HX2.below hb
  replace HX3 := HX3.below hb
  replace HB := Lib.hid (below_step HB.out hb)
  clear hb
  have c3_0 := HX1.look 5
  have c3_1 := HX2.look 5
  have l3_0 := HX1.bx.lt
  have l3_1 := HX2.bx.lt
  have l3_2 := HX3.bx.lt
  go_wp2_with fail
  clear c3_0 c3_1 l3_0 l3_1 l3_2
  refine (compare_any l.seq k.seq _).mono ?_
  rw [HX.out]
  rintro e w3 ⟨rfl, rfl⟩
  have l4_0 := HX1.bx.lt
  have l4_1 := HX2.bx.lt
  have l4_2 := HX3.bx.lt
  go_wp2_with fail
  clear l4_0 l4_1 l4_2
  have SB : Hid (∀ W, Hid (Below w3.heap.size w3 W) → (fun W => W.cell? ⟨w.heap.size, 0, none⟩ = some (.int .i64 l.age) ∧ W.cell? ⟨w.heap.size, 1, none⟩ = some (.int .i64 l.options) ∧ W.cell? ⟨w.heap.size, 2, none⟩ = some (.int .i64 l.typ) ∧ W.cell? ⟨w.heap.size, 3, none⟩ = some (.int .i64 l.id) ∧ W.cell? ⟨w.heap.size, 4, none⟩ = some (.int .i64 l.adv) ∧ W.cell? ⟨w.heap.size, 5, none⟩ = some (.int .i64 l.seq) ∧ W.cell? ⟨w.heap.size, 6, none⟩ = some (.slice A n c) ∧ W.cell? ⟨w.heap.size, 7, none⟩ = some (.slice B m d) ∧ W.cell? ⟨w.heap.size, 8, none⟩ = some (.int .i64 l.mask) ∧ W.cell? ⟨w.heap.size, 9, none⟩ = some (.int .i64 l.cost) ∧ W.cell? ⟨w.heap.size + 1, 0, none⟩ = some (.int .i64 k.age) ∧ W.cell? ⟨w.heap.size + 1, 1, none⟩ = some (.int .i64 k.options) ∧ W.cell? ⟨w.heap.size + 1, 2, none⟩ = some (.int .i64 k.typ) ∧ W.cell? ⟨w.heap.size + 1, 3, none⟩ = some (.int .i64 k.id) ∧ W.cell? ⟨w.heap.size + 1, 4, none⟩ = some (.int .i64 k.adv) ∧ W.cell? ⟨w.heap.size + 1, 5, none⟩ = some (.int .i64 k.seq) ∧ W.cell? ⟨w.heap.size + 1, 6, none⟩ = some (.slice A2 n2 c2) ∧ W.cell? ⟨w.heap.size + 1, 7, none⟩ = some (.slice B2 m2 d2) ∧ W.cell? ⟨w.heap.size + 1, 8, none⟩ = some (.int .i64 k.mask) ∧ W.cell? ⟨w.heap.size + 1, 9, none⟩ = some (.int .i64 k.cost)) W) := fun W h => ⟨(HX1.below h.out).look 0, (HX1.below h.out).look 1, (HX1.below h.out).look 2, (HX1.below h.out).look 3, (HX1.below h.out).look 4, (HX1.below h.out).look 5, (HX1.below h.out).look 6, (HX1.below h.out).look 7, (HX1.below h.out).look 8, (HX1.below h.out).look 9, (HX2.below h.out).look 0, (HX2.below h.out).look 1, (HX2.below h.out).look 2, (HX2.below h.out).look 3, (HX2.below h.out).look 4, (HX2.below h.out).look 5, (HX2.below h.out).look 6, (HX2.below h.out).look 7, (HX2.below h.out).look 8, (HX2.below h.out).look 9⟩
  have V0 : Hid (Below w3.heap.size w3 w3.drew) := (Below.refl _ _).drew
  go_region_held3 (fun W => W.cell? ⟨w.heap.size, 0, none⟩ = some (.int .i64 l.age) ∧ W.cell? ⟨w.heap.size, 1, none⟩ = some (.int .i64 l.options) ∧ W.cell? ⟨w.heap.size, 2, none⟩ = some (.int .i64 l.typ) ∧ W.cell? ⟨w.heap.size, 3, none⟩ = some (.int .i64 l.id) ∧ W.cell? ⟨w.heap.size, 4, none⟩ = some (.int .i64 l.adv) ∧ W.cell? ⟨w.heap.size, 5, none⟩ = some (.int .i64 l.seq) ∧ W.cell? ⟨w.heap.size, 6, none⟩ = some (.slice A n c) ∧ W.cell? ⟨w.heap.size, 7, none⟩ = some (.slice B m d) ∧ W.cell? ⟨w.heap.size, 8, none⟩ = some (.int .i64 l.mask) ∧ W.cell? ⟨w.heap.size, 9, none⟩ = some (.int .i64 l.cost) ∧ W.cell? ⟨w.heap.size + 1, 0, none⟩ = some (.int .i64 k.age) ∧ W.cell? ⟨w.heap.size + 1, 1, none⟩ = some (.int .i64 k.options) ∧ W.cell? ⟨w.heap.size + 1, 2, none⟩ = some (.int .i64 k.typ) ∧ W.cell? ⟨w.heap.size + 1, 3, none⟩ = some (.int .i64 k.id) ∧ W.cell? ⟨w.heap.size + 1, 4, none⟩ = some (.int .i64 k.adv) ∧ W.cell? ⟨w.heap.size + 1, 5, none⟩ = some (.int .i64 k.seq) ∧ W.cell? ⟨w.heap.size + 1, 6, none⟩ = some (.slice A2 n2 c2) ∧ W.cell? ⟨w.heap.size + 1, 7, none⟩ = some (.slice B2 m2 d2) ∧ W.cell? ⟨w.heap.size + 1, 8, none⟩ = some (.int .i64 k.mask) ∧ W.cell? ⟨w.heap.size + 1, 9, none⟩ = some (.int .i64 k.cost)) (exact SB.out _ (by assumption))
    (first | (go_at_call 21; ((with_reducible refine (sum_any l q lo hi A B n c m d _ (HL.below V0.out).lsa hn hm).mono ?_); rw [HF.out, HV1.out]; rintro e u1_0 ⟨rfl, hb⟩; have V1 := Lib.hid (below_step V0.out hb); clear hb)) | (go_at_call 21; ((with_reducible refine (sum_any k q2 lo2 hi2 A2 B2 n2 c2 m2 d2 _ (HK.below V1.out).lsa hn2 hm2).mono ?_); rw [HG.out, HV2.out]; rintro e u1_1 ⟨rfl, hb⟩; have V2 := Lib.hid (below_step V1.out hb); clear hb)) | (go_at_call 89; ((with_reducible refine (compare_any s1 s2 _).mono ?_); rw [HY.out]; rintro e u1_2 ⟨rfl, rfl⟩)))
  have hb := V2.out
  clear SB V0 V1 V2
  have Z3 := Lib.hid hb.size
  replace HL := HL.below hb
  replace HK := HK.below hb
  replace HX1 := HX1.below hb
  replace HX2 := HX2.below hb
  replace HX3 := HX3.below hb
  replace HB := Lib.hid (below_step HB.out hb)
  clear hb
  have l5_0 := HX1.bx.lt
  have l5_1 := HX2.bx.lt
  have l5_2 := HX3.bx.lt
  go_wp2_with fail
  clear l5_0 l5_1 l5_2
  have SB : Hid (∀ W, Hid (Below u1_2.heap.size u1_2 W) → (fun W => W.cell? ⟨w.heap.size, 0, none⟩ = some (.int .i64 l.age) ∧ W.cell? ⟨w.heap.size, 1, none⟩ = some (.int .i64 l.options) ∧ W.cell? ⟨w.heap.size, 2, none⟩ = some (.int .i64 l.typ) ∧ W.cell? ⟨w.heap.size, 3, none⟩ = some (.int .i64 l.id) ∧ W.cell? ⟨w.heap.size, 4, none⟩ = some (.int .i64 l.adv) ∧ W.cell? ⟨w.heap.size, 5, none⟩ = some (.int .i64 l.seq) ∧ W.cell? ⟨w.heap.size, 6, none⟩ = some (.slice A n c) ∧ W.cell? ⟨w.heap.size, 7, none⟩ = some (.slice B m d) ∧ W.cell? ⟨w.heap.size, 8, none⟩ = some (.int .i64 l.mask) ∧ W.cell? ⟨w.heap.size, 9, none⟩ = some (.int .i64 l.cost) ∧ W.cell? ⟨w.heap.size + 1, 0, none⟩ = some (.int .i64 k.age) ∧ W.cell? ⟨w.heap.size + 1, 1, none⟩ = some (.int .i64 k.options) ∧ W.cell? ⟨w.heap.size + 1, 2, none⟩ = some (.int .i64 k.typ) ∧ W.cell? ⟨w.heap.size + 1, 3, none⟩ = some (.int .i64 k.id) ∧ W.cell? ⟨w.heap.size + 1, 4, none⟩ = some (.int .i64 k.adv) ∧ W.cell? ⟨w.heap.size + 1, 5, none⟩ = some (.int .i64 k.seq) ∧ W.cell? ⟨w.heap.size + 1, 6, none⟩ = some (.slice A2 n2 c2) ∧ W.cell? ⟨w.heap.size + 1, 7, none⟩ = some (.slice B2 m2 d2) ∧ W.cell? ⟨w.heap.size + 1, 8, none⟩ = some (.int .i64 k.mask) ∧ W.cell? ⟨w.heap.size + 1, 9, none⟩ = some (.int .i64 k.cost)) W) := fun W h => ⟨(HX1.below h.out).look 0, (HX1.below h.out).look 1, (HX1.below h.out).look 2, (HX1.below h.out).look 3, (HX1.below h.out).look 4, (HX1.below h.out).look 5, (HX1.below h.out).look 6, (HX1.below h.out).look 7, (HX1.below h.out).look 8, (HX1.below h.out).look 9, (HX2.below h.out).look 0, (HX2.below h.out).look 1, (HX2.below h.out).look 2, (HX2.below h.out).look 3, (HX2.below h.out).look 4, (HX2.below h.out).look 5, (HX2.below h.out).look 6, (HX2.below h.out).look 7, (HX2.below h.out).look 8, (HX2.below h.out).look 9⟩
  have V0 : Hid (Below u1_2.heap.size u1_2 u1_2.drew) := (Below.refl _ _).drew
  go_region_held3 (fun W => W.cell? ⟨w.heap.size, 0, none⟩ = some (.int .i64 l.age) ∧ W.cell? ⟨w.heap.size, 1, none⟩ = some (.int .i64 l.options) ∧ W.cell? ⟨w.heap.size, 2, none⟩ = some (.int .i64 l.typ) ∧ W.cell? ⟨w.heap.size, 3, none⟩ = some (.int .i64 l.id) ∧ W.cell? ⟨w.heap.size, 4, none⟩ = some (.int .i64 l.adv) ∧ W.cell? ⟨w.heap.size, 5, none⟩ = some (.int .i64 l.seq) ∧ W.cell? ⟨w.heap.size, 6, none⟩ = some (.slice A n c) ∧ W.cell? ⟨w.heap.size, 7, none⟩ = some (.slice B m d) ∧ W.cell? ⟨w.heap.size, 8, none⟩ = some (.int .i64 l.mask) ∧ W.cell? ⟨w.heap.size, 9, none⟩ = some (.int .i64 l.cost) ∧ W.cell? ⟨w.heap.size + 1, 0, none⟩ = some (.int .i64 k.age) ∧ W.cell? ⟨w.heap.size + 1, 1, none⟩ = some (.int .i64 k.options) ∧ W.cell? ⟨w.heap.size + 1, 2, none⟩ = some (.int .i64 k.typ) ∧ W.cell? ⟨w.heap.size + 1, 3, none⟩ = some (.int .i64 k.id) ∧ W.cell? ⟨w.heap.size + 1, 4, none⟩ = some (.int .i64 k.adv) ∧ W.cell? ⟨w.heap.size + 1, 5, none⟩ = some (.int .i64 k.seq) ∧ W.cell? ⟨w.heap.size + 1, 6, none⟩ = some (.slice A2 n2 c2) ∧ W.cell? ⟨w.heap.size + 1, 7, none⟩ = some (.slice B2 m2 d2) ∧ W.cell? ⟨w.heap.size + 1, 8, none⟩ = some (.int .i64 k.mask) ∧ W.cell? ⟨w.heap.size + 1, 9, none⟩ = some (.int .i64 k.cost)) (exact SB.out _ (by assumption))
    (first | (go_at_call 90; ((with_reducible refine (isOldest_any l q lo hi A B n c m d _).mono ?_); rw [HP1.out]; rintro e u2_0 ⟨rfl, hb⟩; have V1 := Lib.hid (below_step V0.out hb); clear hb)) | (go_at_call 90; ((with_reducible refine (isOldest_any k q2 lo2 hi2 A2 B2 n2 c2 m2 d2 _).mono ?_); rw [HP2.out]; rintro e u2_1 ⟨rfl, hb⟩; have V2 := Lib.hid (below_step V1.out hb); clear hb)))
  have hb := V2.out
  clear SB V0 V1 V2
  have Z4 := Lib.hid hb.size
  replace HL := HL.below hb
  replace HK := HK.below hb
  replace HX1 := HX1.below hb
  replace HX2 := HX2.below hb
  replace HX3 := HX3.below hb
  replace HB := Lib.hid (below_step HB.out hb)
  clear hb
  have c6_0 := HX1.look 0
  have c6_1 := HX2.look 0
  have l6_0 := HX1.bx.lt
  have l6_1 := HX2.bx.lt
  have l6_2 := HX3.bx.lt
  go_wp2_with fail
  clear c6_0 c6_1 l6_0 l6_1 l6_2
  refine (compare_any l.age k.age _).mono ?_
  rintro e w4 ⟨rfl, rfl⟩
  have l7_0 := HX1.bx.lt
  have l7_1 := HX2.bx.lt
  have l7_2 := HX3.bx.lt
  go_wp2
  clear l7_0 l7_1 l7_2
  go_step3
  refine ⟨rfl, ?_⟩
  have c8_0 := HX3.look 0
  have c8_1 := HX3.look 1
  have f8_0 := HX3.free 0
  have f8_1 := HX3.free 1
  have l8_0 := HX1.bx.lt
  have l8_1 := HX2.bx.lt
  have l8_2 := HX3.bx.lt
  go_wp2
  clear c8_0 c8_1 f8_0 f8_1 l8_0 l8_1 l8_2
  obtain ⟨U5, hU5⟩ : ∃ W : World, W = ((w4.setCell ⟨w.heap.size + 1 + 1, 0, none⟩ (.int .i64 0)).setCell ⟨w.heap.size + 1 + 1, 1, none⟩ (.int .i64 (cmpI l.age k.age))) := ⟨_, rfl⟩
  have ho : Only (w.heap.size + 1 + 1) (w.heap.size + 1 + 1 + 1) w4 U5 := by rw [hU5]; exact (((Only.refl _ _ _).set (p := ⟨w.heap.size + 1 + 1, 0, none⟩) (Nat.le_refl _) (Nat.lt_succ_self _) _).set (p := ⟨w.heap.size + 1 + 1, 1, none⟩) (Nat.le_refl _) (Nat.lt_succ_self _) _)
  replace HX3 : Kept (w.heap.size + 1 + 1) (w.heap.size + 1 + 1 + 1) (BoxK (w.heap.size + 1 + 1) 49 #[.int .i64 0, .int .i64 (cmpI l.age k.age)]) U5 := by rw [hU5]; exact Kept.box ((HX3.bx.puts 0 (.int .i64 0) (cs' := #[.int .i64 0, .int .i64 0]) rfl).puts 1 (.int .i64 (cmpI l.age k.age)) (cs' := #[.int .i64 0, .int .i64 (cmpI l.age k.age)]) rfl)
  replace HL := HL.only ho (by have := Z0.out; have := Z00.out; have := Z1.out; have := Z2.out; have := Z3.out; have := Z4.out; omega)
  replace HK := HK.only ho (by have := Z0.out; have := Z00.out; have := Z1.out; have := Z2.out; have := Z3.out; have := Z4.out; omega)
  replace HX1 := HX1.only ho (by have := Z0.out; have := Z00.out; have := Z1.out; have := Z2.out; have := Z3.out; have := Z4.out; omega)
  replace HX2 := HX2.only ho (by have := Z0.out; have := Z00.out; have := Z1.out; have := Z2.out; have := Z3.out; have := Z4.out; omega)
  replace HB := Lib.hid (Below.only HB.out ho (by have := Z0.out; have := Z00.out; have := Z1.out; have := Z2.out; have := Z3.out; have := Z4.out; omega) HB.out.size)
  have Z5 := Lib.hid ho.size; clear ho
  have q_0 := HX3.look 0
  have q_1 := HX3.look 1
  simp only [Exit.jump]
  subst hU5
  exact bodyPost_ret (v := .agg #[.int .i64 0, .int .i64 (cmpI l.age k.age)]) (by simp [results, Try.results28, go_sem, q_0, q_1]) rfl ⟨by rw [HC.out, HO.out], HB.out⟩

set_option maxRecDepth 100000 in
set_option maxHeartbeats 3200000 in
theorem compareLsas_3f (l : LsaM) (q : Bool) (lo hi : Nat) (A B : Option Addr) (n c m d : Nat) (k : LsaM) (q2 : Bool) (lo2 hi2 : Nat) (A2 B2 : Option Addr) (n2 c2 m2 d2 : Nat) (w : World) (hl : LsaAt q lo hi w A n B m l) (hn : n ≤ 1048576) (hm : m ≤ 1048576) (hk : LsaAt q2 lo2 hi2 w A2 n2 B2 m2 k) (hn2 : n2 ≤ 1048576) (hm2 : m2 ≤ 1048576) (h0 : pairC l k = 0) (h1 : cmpI l.seq k.seq = 0) (h2 : cmpI (sumV l) (sumV k) = 0) (h3 : oldB l = false ∧ oldB k = true) :
    Calls Try.prog 28 #[.agg (lsaCells l A B n c m d), .agg (lsaCells k A2 B2 n2 c2 m2 d2)] w fun e w' => e = .returned (.agg #[.int .i64 (pairC l k), .int .i64 (ordV l k)]) ∧ Below w.heap.size w w' := by
  have HB := Lib.hid (Below.refl w.heap.size w)
  have HL := hl.kept
  have Z0 := Lib.hid hl.le
  clear hl
  have HK := hk.kept
  have Z00 := Lib.hid hk.le
  clear hk
  have HC := Lib.hid h0
  obtain ⟨g1, g2, g3⟩ := pairC_sound h0
  have HF := Lib.hid g1
  have HG := Lib.hid g2
  have S1 := Lib.hid (sound_of l g1)
  have S2 := Lib.hid (sound_of k g2)
  have HO := Lib.hid (ordV_3 h0 h1 h2 (by rw [h3.1, h3.2]; decide))
  obtain ⟨x1, hx1⟩ : ∃ z, cmpI l.seq k.seq = z := ⟨_, rfl⟩
  rw [hx1] at h1
  subst h1
  have HX := Lib.hid hx1
  obtain ⟨x2, hx2⟩ : ∃ z, cmpI (sumV l) (sumV k) = z := ⟨_, rfl⟩
  rw [hx2] at h2
  have HS1 : Hid (∃ z, sumV l = z) := Lib.hid ⟨_, rfl⟩
  obtain ⟨s1, hs1⟩ := HS1.out
  obtain ⟨s2, hs2⟩ : ∃ z, sumV k = z := ⟨_, rfl⟩
  rw [hs1, hs2] at hx2
  have HV1 := Lib.hid hs1
  have HV2 := Lib.hid hs2
  clear HS1
  subst h2
  have HY := Lib.hid hx2
  have HP1 := Lib.hid h3.1
  have HP2 := Lib.hid h3.2
  clear hx1 hx2 hs1 hs2 h0 h3
  go_enter Try.func28, Try.ntmps28
  go_wp2
  refine Code.wp_name ?_
  intro U1 hU1
  have hb : Below w.heap.size w U1 := by rw [hU1]; exact ((((Below.refl _ _).alloc (Nat.le_refl _) _).alloc (by simp <;> omega) _).alloc (by simp <;> omega) _)
  have zz : Hid (w.heap.size + 3 = U1.heap.size) := Lib.hid (by rw [hU1]; simp)
  have HX1 : Kept w.heap.size (w.heap.size + 1) (BoxK w.heap.size 29 #[.int .i64 l.age, .int .i64 l.options, .int .i64 l.typ, .int .i64 l.id, .int .i64 l.adv, .int .i64 l.seq, .slice A n c, .slice B m d, .int .i64 l.mask, .int .i64 l.cost]) U1 := by rw [hU1]; exact Kept.box (((Box.made_at _ _ _ rfl).over _).over _)
  have HX2 : Kept (w.heap.size + 1) (w.heap.size + 1 + 1) (BoxK (w.heap.size + 1) 29 #[.int .i64 k.age, .int .i64 k.options, .int .i64 k.typ, .int .i64 k.id, .int .i64 k.adv, .int .i64 k.seq, .slice A2 n2 c2, .slice B2 m2 d2, .int .i64 k.mask, .int .i64 k.cost]) U1 := by rw [hU1]; exact Kept.box ((Box.made_at _ _ _ (by simp <;> omega)).over _)
  have HX3 : Kept (w.heap.size + 1 + 1) (w.heap.size + 1 + 1 + 1) (BoxK (w.heap.size + 1 + 1) 49 #[.int .i64 0, .int .i64 0]) U1 := by rw [hU1]; exact Kept.box (Box.made_at _ _ _ (by simp <;> omega))
  replace HL := HL.below hb
  replace HK := HK.below hb
  replace HB := Lib.hid (below_step HB.out hb)
  clear hb
  have Z1 := zz; clear zz
  clear hU1
  refine wp_scope_fwd 0 rfl ?_
  have c2_0 := HX1.look 0
  have c2_1 := HX1.look 1
  have c2_2 := HX1.look 2
  have c2_3 := HX1.look 3
  have c2_4 := HX1.look 4
  have c2_5 := HX1.look 5
  have c2_6 := HX1.look 6
  have c2_7 := HX1.look 7
  have c2_8 := HX1.look 8
  have c2_9 := HX1.look 9
  have c2_10 := HX2.look 0
  have c2_11 := HX2.look 1
  have c2_12 := HX2.look 2
  have c2_13 := HX2.look 3
  have c2_14 := HX2.look 4
  have c2_15 := HX2.look 5
  have c2_16 := HX2.look 6
  have c2_17 := HX2.look 7
  have c2_18 := HX2.look 8
  have c2_19 := HX2.look 9
  have l2_0 := HX1.bx.lt
  have l2_1 := HX2.bx.lt
  have l2_2 := HX3.bx.lt
  go_wp2_with fail
  clear c2_0 c2_1 c2_2 c2_3 c2_4 c2_5 c2_6 c2_7 c2_8 c2_9 c2_10 c2_11 c2_12 c2_13 c2_14 c2_15 c2_16 c2_17 c2_18 c2_19 l2_0 l2_1 l2_2
  refine (pairFault_any l q lo hi A B n c m d k q2 lo2 hi2 A2 B2 n2 c2 m2 d2 _ HL.lsa hn hm HK.lsa hn2 hm2).mono ?_
  rw [HC.out]
  rintro e w2 ⟨rfl, hb⟩
  have Z2 := Lib.hid hb.size
  replace HL := HL.below hb
  replace HK := HK.below hb
  replace HX1 := HX1.below hb
  replace HX2 := HX2.below hb
  replace HX3 := HX3.below hb
  replace HB := Lib.hid (below_step HB.out hb)
  clear hb
  have c3_0 := HX1.look 5
  have c3_1 := HX2.look 5
  have l3_0 := HX1.bx.lt
  have l3_1 := HX2.bx.lt
  have l3_2 := HX3.bx.lt
  go_wp2_with fail
  clear c3_0 c3_1 l3_0 l3_1 l3_2
  refine (compare_any l.seq k.seq _).mono ?_
  rw [HX.out]
  rintro e w3 ⟨rfl, rfl⟩
  have l4_0 := HX1.bx.lt
  have l4_1 := HX2.bx.lt
  have l4_2 := HX3.bx.lt
  go_wp2_with fail
  clear l4_0 l4_1 l4_2
  have SB : Hid (∀ W, Hid (Below w3.heap.size w3 W) → (fun W => W.cell? ⟨w.heap.size, 0, none⟩ = some (.int .i64 l.age) ∧ W.cell? ⟨w.heap.size, 1, none⟩ = some (.int .i64 l.options) ∧ W.cell? ⟨w.heap.size, 2, none⟩ = some (.int .i64 l.typ) ∧ W.cell? ⟨w.heap.size, 3, none⟩ = some (.int .i64 l.id) ∧ W.cell? ⟨w.heap.size, 4, none⟩ = some (.int .i64 l.adv) ∧ W.cell? ⟨w.heap.size, 5, none⟩ = some (.int .i64 l.seq) ∧ W.cell? ⟨w.heap.size, 6, none⟩ = some (.slice A n c) ∧ W.cell? ⟨w.heap.size, 7, none⟩ = some (.slice B m d) ∧ W.cell? ⟨w.heap.size, 8, none⟩ = some (.int .i64 l.mask) ∧ W.cell? ⟨w.heap.size, 9, none⟩ = some (.int .i64 l.cost) ∧ W.cell? ⟨w.heap.size + 1, 0, none⟩ = some (.int .i64 k.age) ∧ W.cell? ⟨w.heap.size + 1, 1, none⟩ = some (.int .i64 k.options) ∧ W.cell? ⟨w.heap.size + 1, 2, none⟩ = some (.int .i64 k.typ) ∧ W.cell? ⟨w.heap.size + 1, 3, none⟩ = some (.int .i64 k.id) ∧ W.cell? ⟨w.heap.size + 1, 4, none⟩ = some (.int .i64 k.adv) ∧ W.cell? ⟨w.heap.size + 1, 5, none⟩ = some (.int .i64 k.seq) ∧ W.cell? ⟨w.heap.size + 1, 6, none⟩ = some (.slice A2 n2 c2) ∧ W.cell? ⟨w.heap.size + 1, 7, none⟩ = some (.slice B2 m2 d2) ∧ W.cell? ⟨w.heap.size + 1, 8, none⟩ = some (.int .i64 k.mask) ∧ W.cell? ⟨w.heap.size + 1, 9, none⟩ = some (.int .i64 k.cost)) W) := fun W h => ⟨(HX1.below h.out).look 0, (HX1.below h.out).look 1, (HX1.below h.out).look 2, (HX1.below h.out).look 3, (HX1.below h.out).look 4, (HX1.below h.out).look 5, (HX1.below h.out).look 6, (HX1.below h.out).look 7, (HX1.below h.out).look 8, (HX1.below h.out).look 9, (HX2.below h.out).look 0, (HX2.below h.out).look 1, (HX2.below h.out).look 2, (HX2.below h.out).look 3, (HX2.below h.out).look 4, (HX2.below h.out).look 5, (HX2.below h.out).look 6, (HX2.below h.out).look 7, (HX2.below h.out).look 8, (HX2.below h.out).look 9⟩
  have V0 : Hid (Below w3.heap.size w3 w3.drew) := (Below.refl _ _).drew
  go_region_held3 (fun W => W.cell? ⟨w.heap.size, 0, none⟩ = some (.int .i64 l.age) ∧ W.cell? ⟨w.heap.size, 1, none⟩ = some (.int .i64 l.options) ∧ W.cell? ⟨w.heap.size, 2, none⟩ = some (.int .i64 l.typ) ∧ W.cell? ⟨w.heap.size, 3, none⟩ = some (.int .i64 l.id) ∧ W.cell? ⟨w.heap.size, 4, none⟩ = some (.int .i64 l.adv) ∧ W.cell? ⟨w.heap.size, 5, none⟩ = some (.int .i64 l.seq) ∧ W.cell? ⟨w.heap.size, 6, none⟩ = some (.slice A n c) ∧ W.cell? ⟨w.heap.size, 7, none⟩ = some (.slice B m d) ∧ W.cell? ⟨w.heap.size, 8, none⟩ = some (.int .i64 l.mask) ∧ W.cell? ⟨w.heap.size, 9, none⟩ = some (.int .i64 l.cost) ∧ W.cell? ⟨w.heap.size + 1, 0, none⟩ = some (.int .i64 k.age) ∧ W.cell? ⟨w.heap.size + 1, 1, none⟩ = some (.int .i64 k.options) ∧ W.cell? ⟨w.heap.size + 1, 2, none⟩ = some (.int .i64 k.typ) ∧ W.cell? ⟨w.heap.size + 1, 3, none⟩ = some (.int .i64 k.id) ∧ W.cell? ⟨w.heap.size + 1, 4, none⟩ = some (.int .i64 k.adv) ∧ W.cell? ⟨w.heap.size + 1, 5, none⟩ = some (.int .i64 k.seq) ∧ W.cell? ⟨w.heap.size + 1, 6, none⟩ = some (.slice A2 n2 c2) ∧ W.cell? ⟨w.heap.size + 1, 7, none⟩ = some (.slice B2 m2 d2) ∧ W.cell? ⟨w.heap.size + 1, 8, none⟩ = some (.int .i64 k.mask) ∧ W.cell? ⟨w.heap.size + 1, 9, none⟩ = some (.int .i64 k.cost)) (exact SB.out _ (by assumption))
    (first | (go_at_call 21; ((with_reducible refine (sum_any l q lo hi A B n c m d _ (HL.below V0.out).lsa hn hm).mono ?_); rw [HF.out, HV1.out]; rintro e u1_0 ⟨rfl, hb⟩; have V1 := Lib.hid (below_step V0.out hb); clear hb)) | (go_at_call 21; ((with_reducible refine (sum_any k q2 lo2 hi2 A2 B2 n2 c2 m2 d2 _ (HK.below V1.out).lsa hn2 hm2).mono ?_); rw [HG.out, HV2.out]; rintro e u1_1 ⟨rfl, hb⟩; have V2 := Lib.hid (below_step V1.out hb); clear hb)) | (go_at_call 89; ((with_reducible refine (compare_any s1 s2 _).mono ?_); rw [HY.out]; rintro e u1_2 ⟨rfl, rfl⟩)))
  have hb := V2.out
  clear SB V0 V1 V2
  have Z3 := Lib.hid hb.size
  replace HL := HL.below hb
  replace HK := HK.below hb
  replace HX1 := HX1.below hb
  replace HX2 := HX2.below hb
  replace HX3 := HX3.below hb
  replace HB := Lib.hid (below_step HB.out hb)
  clear hb
  have l5_0 := HX1.bx.lt
  have l5_1 := HX2.bx.lt
  have l5_2 := HX3.bx.lt
  go_wp2_with fail
  clear l5_0 l5_1 l5_2
  have SB : Hid (∀ W, Hid (Below u1_2.heap.size u1_2 W) → (fun W => W.cell? ⟨w.heap.size, 0, none⟩ = some (.int .i64 l.age) ∧ W.cell? ⟨w.heap.size, 1, none⟩ = some (.int .i64 l.options) ∧ W.cell? ⟨w.heap.size, 2, none⟩ = some (.int .i64 l.typ) ∧ W.cell? ⟨w.heap.size, 3, none⟩ = some (.int .i64 l.id) ∧ W.cell? ⟨w.heap.size, 4, none⟩ = some (.int .i64 l.adv) ∧ W.cell? ⟨w.heap.size, 5, none⟩ = some (.int .i64 l.seq) ∧ W.cell? ⟨w.heap.size, 6, none⟩ = some (.slice A n c) ∧ W.cell? ⟨w.heap.size, 7, none⟩ = some (.slice B m d) ∧ W.cell? ⟨w.heap.size, 8, none⟩ = some (.int .i64 l.mask) ∧ W.cell? ⟨w.heap.size, 9, none⟩ = some (.int .i64 l.cost) ∧ W.cell? ⟨w.heap.size + 1, 0, none⟩ = some (.int .i64 k.age) ∧ W.cell? ⟨w.heap.size + 1, 1, none⟩ = some (.int .i64 k.options) ∧ W.cell? ⟨w.heap.size + 1, 2, none⟩ = some (.int .i64 k.typ) ∧ W.cell? ⟨w.heap.size + 1, 3, none⟩ = some (.int .i64 k.id) ∧ W.cell? ⟨w.heap.size + 1, 4, none⟩ = some (.int .i64 k.adv) ∧ W.cell? ⟨w.heap.size + 1, 5, none⟩ = some (.int .i64 k.seq) ∧ W.cell? ⟨w.heap.size + 1, 6, none⟩ = some (.slice A2 n2 c2) ∧ W.cell? ⟨w.heap.size + 1, 7, none⟩ = some (.slice B2 m2 d2) ∧ W.cell? ⟨w.heap.size + 1, 8, none⟩ = some (.int .i64 k.mask) ∧ W.cell? ⟨w.heap.size + 1, 9, none⟩ = some (.int .i64 k.cost)) W) := fun W h => ⟨(HX1.below h.out).look 0, (HX1.below h.out).look 1, (HX1.below h.out).look 2, (HX1.below h.out).look 3, (HX1.below h.out).look 4, (HX1.below h.out).look 5, (HX1.below h.out).look 6, (HX1.below h.out).look 7, (HX1.below h.out).look 8, (HX1.below h.out).look 9, (HX2.below h.out).look 0, (HX2.below h.out).look 1, (HX2.below h.out).look 2, (HX2.below h.out).look 3, (HX2.below h.out).look 4, (HX2.below h.out).look 5, (HX2.below h.out).look 6, (HX2.below h.out).look 7, (HX2.below h.out).look 8, (HX2.below h.out).look 9⟩
  have V0 : Hid (Below u1_2.heap.size u1_2 u1_2.drew) := (Below.refl _ _).drew
  go_region_held3 (fun W => W.cell? ⟨w.heap.size, 0, none⟩ = some (.int .i64 l.age) ∧ W.cell? ⟨w.heap.size, 1, none⟩ = some (.int .i64 l.options) ∧ W.cell? ⟨w.heap.size, 2, none⟩ = some (.int .i64 l.typ) ∧ W.cell? ⟨w.heap.size, 3, none⟩ = some (.int .i64 l.id) ∧ W.cell? ⟨w.heap.size, 4, none⟩ = some (.int .i64 l.adv) ∧ W.cell? ⟨w.heap.size, 5, none⟩ = some (.int .i64 l.seq) ∧ W.cell? ⟨w.heap.size, 6, none⟩ = some (.slice A n c) ∧ W.cell? ⟨w.heap.size, 7, none⟩ = some (.slice B m d) ∧ W.cell? ⟨w.heap.size, 8, none⟩ = some (.int .i64 l.mask) ∧ W.cell? ⟨w.heap.size, 9, none⟩ = some (.int .i64 l.cost) ∧ W.cell? ⟨w.heap.size + 1, 0, none⟩ = some (.int .i64 k.age) ∧ W.cell? ⟨w.heap.size + 1, 1, none⟩ = some (.int .i64 k.options) ∧ W.cell? ⟨w.heap.size + 1, 2, none⟩ = some (.int .i64 k.typ) ∧ W.cell? ⟨w.heap.size + 1, 3, none⟩ = some (.int .i64 k.id) ∧ W.cell? ⟨w.heap.size + 1, 4, none⟩ = some (.int .i64 k.adv) ∧ W.cell? ⟨w.heap.size + 1, 5, none⟩ = some (.int .i64 k.seq) ∧ W.cell? ⟨w.heap.size + 1, 6, none⟩ = some (.slice A2 n2 c2) ∧ W.cell? ⟨w.heap.size + 1, 7, none⟩ = some (.slice B2 m2 d2) ∧ W.cell? ⟨w.heap.size + 1, 8, none⟩ = some (.int .i64 k.mask) ∧ W.cell? ⟨w.heap.size + 1, 9, none⟩ = some (.int .i64 k.cost)) (exact SB.out _ (by assumption))
    (first | (go_at_call 90; ((with_reducible refine (isOldest_any l q lo hi A B n c m d _).mono ?_); rw [HP1.out]; rintro e u2_0 ⟨rfl, hb⟩; have V1 := Lib.hid (below_step V0.out hb); clear hb)) | (go_at_call 90; ((with_reducible refine (isOldest_any k q2 lo2 hi2 A2 B2 n2 c2 m2 d2 _).mono ?_); rw [HP2.out]; rintro e u2_1 ⟨rfl, hb⟩; have V2 := Lib.hid (below_step V1.out hb); clear hb)))
  have hb := V2.out
  clear SB V0 V1 V2
  have Z4 := Lib.hid hb.size
  replace HL := HL.below hb
  replace HK := HK.below hb
  replace HX1 := HX1.below hb
  replace HX2 := HX2.below hb
  replace HX3 := HX3.below hb
  replace HB := Lib.hid (below_step HB.out hb)
  clear hb
  have c6_0 := HX1.look 0
  have c6_1 := HX2.look 0
  have l6_0 := HX1.bx.lt
  have l6_1 := HX2.bx.lt
  have l6_2 := HX3.bx.lt
  go_wp2_with fail
  clear c6_0 c6_1 l6_0 l6_1 l6_2
  refine (compare_any l.age k.age _).mono ?_
  rintro e w4 ⟨rfl, rfl⟩
  have l7_0 := HX1.bx.lt
  have l7_1 := HX2.bx.lt
  have l7_2 := HX3.bx.lt
  go_wp2
  clear l7_0 l7_1 l7_2
  go_step3
  refine ⟨rfl, ?_⟩
  have c8_0 := HX3.look 0
  have c8_1 := HX3.look 1
  have f8_0 := HX3.free 0
  have f8_1 := HX3.free 1
  have l8_0 := HX1.bx.lt
  have l8_1 := HX2.bx.lt
  have l8_2 := HX3.bx.lt
  go_wp2
  clear c8_0 c8_1 f8_0 f8_1 l8_0 l8_1 l8_2
  obtain ⟨U5, hU5⟩ : ∃ W : World, W = ((w4.setCell ⟨w.heap.size + 1 + 1, 0, none⟩ (.int .i64 0)).setCell ⟨w.heap.size + 1 + 1, 1, none⟩ (.int .i64 (cmpI l.age k.age))) := ⟨_, rfl⟩
  have ho : Only (w.heap.size + 1 + 1) (w.heap.size + 1 + 1 + 1) w4 U5 := by rw [hU5]; exact (((Only.refl _ _ _).set (p := ⟨w.heap.size + 1 + 1, 0, none⟩) (Nat.le_refl _) (Nat.lt_succ_self _) _).set (p := ⟨w.heap.size + 1 + 1, 1, none⟩) (Nat.le_refl _) (Nat.lt_succ_self _) _)
  replace HX3 : Kept (w.heap.size + 1 + 1) (w.heap.size + 1 + 1 + 1) (BoxK (w.heap.size + 1 + 1) 49 #[.int .i64 0, .int .i64 (cmpI l.age k.age)]) U5 := by rw [hU5]; exact Kept.box ((HX3.bx.puts 0 (.int .i64 0) (cs' := #[.int .i64 0, .int .i64 0]) rfl).puts 1 (.int .i64 (cmpI l.age k.age)) (cs' := #[.int .i64 0, .int .i64 (cmpI l.age k.age)]) rfl)
  replace HL := HL.only ho (by have := Z0.out; have := Z00.out; have := Z1.out; have := Z2.out; have := Z3.out; have := Z4.out; omega)
  replace HK := HK.only ho (by have := Z0.out; have := Z00.out; have := Z1.out; have := Z2.out; have := Z3.out; have := Z4.out; omega)
  replace HX1 := HX1.only ho (by have := Z0.out; have := Z00.out; have := Z1.out; have := Z2.out; have := Z3.out; have := Z4.out; omega)
  replace HX2 := HX2.only ho (by have := Z0.out; have := Z00.out; have := Z1.out; have := Z2.out; have := Z3.out; have := Z4.out; omega)
  replace HB := Lib.hid (Below.only HB.out ho (by have := Z0.out; have := Z00.out; have := Z1.out; have := Z2.out; have := Z3.out; have := Z4.out; omega) HB.out.size)
  have Z5 := Lib.hid ho.size; clear ho
  have q_0 := HX3.look 0
  have q_1 := HX3.look 1
  simp only [Exit.jump]
  subst hU5
  exact bodyPost_ret (v := .agg #[.int .i64 0, .int .i64 (cmpI l.age k.age)]) (by simp [results, Try.results28, go_sem, q_0, q_1]) rfl ⟨by rw [HC.out, HO.out], HB.out⟩

set_option maxRecDepth 100000 in
set_option maxHeartbeats 3200000 in
theorem compareLsas_4 (l : LsaM) (q : Bool) (lo hi : Nat) (A B : Option Addr) (n c m d : Nat) (k : LsaM) (q2 : Bool) (lo2 hi2 : Nat) (A2 B2 : Option Addr) (n2 c2 m2 d2 : Nat) (w : World) (hl : LsaAt q lo hi w A n B m l) (hn : n ≤ 1048576) (hm : m ≤ 1048576) (hk : LsaAt q2 lo2 hi2 w A2 n2 B2 m2 k) (hn2 : n2 ≤ 1048576) (hm2 : m2 ≤ 1048576) (h0 : pairC l k = 0) (h1 : cmpI l.seq k.seq = 0) (h2 : cmpI (sumV l) (sumV k) = 0) (h3 : oldB l = oldB k) (h4 : allIn (-900) 900 [l.age - k.age] = false) :
    Calls Try.prog 28 #[.agg (lsaCells l A B n c m d), .agg (lsaCells k A2 B2 n2 c2 m2 d2)] w fun e w' => e = .returned (.agg #[.int .i64 (pairC l k), .int .i64 (ordV l k)]) ∧ Below w.heap.size w w' := by
  have HB := Lib.hid (Below.refl w.heap.size w)
  have HL := hl.kept
  have Z0 := Lib.hid hl.le
  clear hl
  have HK := hk.kept
  have Z00 := Lib.hid hk.le
  clear hk
  have HC := Lib.hid h0
  obtain ⟨g1, g2, g3⟩ := pairC_sound h0
  have HF := Lib.hid g1
  have HG := Lib.hid g2
  have S1 := Lib.hid (sound_of l g1)
  have S2 := Lib.hid (sound_of k g2)
  have HO := Lib.hid (ordV_4 h0 h1 h2 h3 h4)
  obtain ⟨x1, hx1⟩ : ∃ z, cmpI l.seq k.seq = z := ⟨_, rfl⟩
  rw [hx1] at h1
  subst h1
  have HX := Lib.hid hx1
  obtain ⟨x2, hx2⟩ : ∃ z, cmpI (sumV l) (sumV k) = z := ⟨_, rfl⟩
  rw [hx2] at h2
  have HS1 : Hid (∃ z, sumV l = z) := Lib.hid ⟨_, rfl⟩
  obtain ⟨s1, hs1⟩ := HS1.out
  obtain ⟨s2, hs2⟩ : ∃ z, sumV k = z := ⟨_, rfl⟩
  rw [hs1, hs2] at hx2
  have HV1 := Lib.hid hs1
  have HV2 := Lib.hid hs2
  clear HS1
  subst h2
  have HY := Lib.hid hx2
  obtain ⟨o1, ho1⟩ : ∃ z, oldB l = z := ⟨_, rfl⟩
  obtain ⟨o2, ho2⟩ : ∃ z, oldB k = z := ⟨_, rfl⟩
  rw [ho1, ho2] at h3
  have HP1 := Lib.hid ho1
  have HP2 := Lib.hid ho2
  subst h3
  have hn1 : (o1 != o1) = false := by simp
  have e1 := S1.out.age
  have e2 := S2.out.age
  obtain ⟨e11, e12⟩ := e1
  obtain ⟨e21, e22⟩ := e2
  have HA := Lib.hid h4
  clear hx1 hx2 hs1 hs2 h0 ho1 ho2 h4
  go_enter Try.func28, Try.ntmps28
  go_wp2
  refine Code.wp_name ?_
  intro U1 hU1
  have hb : Below w.heap.size w U1 := by rw [hU1]; exact ((((Below.refl _ _).alloc (Nat.le_refl _) _).alloc (by simp <;> omega) _).alloc (by simp <;> omega) _)
  have zz : Hid (w.heap.size + 3 = U1.heap.size) := Lib.hid (by rw [hU1]; simp)
  have HX1 : Kept w.heap.size (w.heap.size + 1) (BoxK w.heap.size 29 #[.int .i64 l.age, .int .i64 l.options, .int .i64 l.typ, .int .i64 l.id, .int .i64 l.adv, .int .i64 l.seq, .slice A n c, .slice B m d, .int .i64 l.mask, .int .i64 l.cost]) U1 := by rw [hU1]; exact Kept.box (((Box.made_at _ _ _ rfl).over _).over _)
  have HX2 : Kept (w.heap.size + 1) (w.heap.size + 1 + 1) (BoxK (w.heap.size + 1) 29 #[.int .i64 k.age, .int .i64 k.options, .int .i64 k.typ, .int .i64 k.id, .int .i64 k.adv, .int .i64 k.seq, .slice A2 n2 c2, .slice B2 m2 d2, .int .i64 k.mask, .int .i64 k.cost]) U1 := by rw [hU1]; exact Kept.box ((Box.made_at _ _ _ (by simp <;> omega)).over _)
  have HX3 : Kept (w.heap.size + 1 + 1) (w.heap.size + 1 + 1 + 1) (BoxK (w.heap.size + 1 + 1) 49 #[.int .i64 0, .int .i64 0]) U1 := by rw [hU1]; exact Kept.box (Box.made_at _ _ _ (by simp <;> omega))
  replace HL := HL.below hb
  replace HK := HK.below hb
  replace HB := Lib.hid (below_step HB.out hb)
  clear hb
  have Z1 := zz; clear zz
  clear hU1
  refine wp_scope_fwd 0 rfl ?_
  have c2_0 := HX1.look 0
  have c2_1 := HX1.look 1
  have c2_2 := HX1.look 2
  have c2_3 := HX1.look 3
  have c2_4 := HX1.look 4
  have c2_5 := HX1.look 5
  have c2_6 := HX1.look 6
  have c2_7 := HX1.look 7
  have c2_8 := HX1.look 8
  have c2_9 := HX1.look 9
  have c2_10 := HX2.look 0
  have c2_11 := HX2.look 1
  have c2_12 := HX2.look 2
  have c2_13 := HX2.look 3
  have c2_14 := HX2.look 4
  have c2_15 := HX2.look 5
  have c2_16 := HX2.look 6
  have c2_17 := HX2.look 7
  have c2_18 := HX2.look 8
  have c2_19 := HX2.look 9
  have l2_0 := HX1.bx.lt
  have l2_1 := HX2.bx.lt
  have l2_2 := HX3.bx.lt
  go_wp2_with fail
  clear c2_0 c2_1 c2_2 c2_3 c2_4 c2_5 c2_6 c2_7 c2_8 c2_9 c2_10 c2_11 c2_12 c2_13 c2_14 c2_15 c2_16 c2_17 c2_18 c2_19 l2_0 l2_1 l2_2
  refine (pairFault_any l q lo hi A B n c m d k q2 lo2 hi2 A2 B2 n2 c2 m2 d2 _ HL.lsa hn hm HK.lsa hn2 hm2).mono ?_
  rw [HC.out]
  rintro e w2 ⟨rfl, hb⟩
  have Z2 := Lib.hid hb.size
  replace HL := HL.below hb
  replace HK := HK.below hb
  replace HX1 := HX1.below hb
  replace HX2 := HX2.below hb
  replace HX3 := HX3.below hb
  replace HB := Lib.hid (below_step HB.out hb)
  clear hb
  have c3_0 := HX1.look 5
  have c3_1 := HX2.look 5
  have l3_0 := HX1.bx.lt
  have l3_1 := HX2.bx.lt
  have l3_2 := HX3.bx.lt
  go_wp2_with fail
  clear c3_0 c3_1 l3_0 l3_1 l3_2
  refine (compare_any l.seq k.seq _).mono ?_
  rw [HX.out]
  rintro e w3 ⟨rfl, rfl⟩
  have l4_0 := HX1.bx.lt
  have l4_1 := HX2.bx.lt
  have l4_2 := HX3.bx.lt
  go_wp2_with fail
  clear l4_0 l4_1 l4_2
  have SB : Hid (∀ W, Hid (Below w3.heap.size w3 W) → (fun W => W.cell? ⟨w.heap.size, 0, none⟩ = some (.int .i64 l.age) ∧ W.cell? ⟨w.heap.size, 1, none⟩ = some (.int .i64 l.options) ∧ W.cell? ⟨w.heap.size, 2, none⟩ = some (.int .i64 l.typ) ∧ W.cell? ⟨w.heap.size, 3, none⟩ = some (.int .i64 l.id) ∧ W.cell? ⟨w.heap.size, 4, none⟩ = some (.int .i64 l.adv) ∧ W.cell? ⟨w.heap.size, 5, none⟩ = some (.int .i64 l.seq) ∧ W.cell? ⟨w.heap.size, 6, none⟩ = some (.slice A n c) ∧ W.cell? ⟨w.heap.size, 7, none⟩ = some (.slice B m d) ∧ W.cell? ⟨w.heap.size, 8, none⟩ = some (.int .i64 l.mask) ∧ W.cell? ⟨w.heap.size, 9, none⟩ = some (.int .i64 l.cost) ∧ W.cell? ⟨w.heap.size + 1, 0, none⟩ = some (.int .i64 k.age) ∧ W.cell? ⟨w.heap.size + 1, 1, none⟩ = some (.int .i64 k.options) ∧ W.cell? ⟨w.heap.size + 1, 2, none⟩ = some (.int .i64 k.typ) ∧ W.cell? ⟨w.heap.size + 1, 3, none⟩ = some (.int .i64 k.id) ∧ W.cell? ⟨w.heap.size + 1, 4, none⟩ = some (.int .i64 k.adv) ∧ W.cell? ⟨w.heap.size + 1, 5, none⟩ = some (.int .i64 k.seq) ∧ W.cell? ⟨w.heap.size + 1, 6, none⟩ = some (.slice A2 n2 c2) ∧ W.cell? ⟨w.heap.size + 1, 7, none⟩ = some (.slice B2 m2 d2) ∧ W.cell? ⟨w.heap.size + 1, 8, none⟩ = some (.int .i64 k.mask) ∧ W.cell? ⟨w.heap.size + 1, 9, none⟩ = some (.int .i64 k.cost)) W) := fun W h => ⟨(HX1.below h.out).look 0, (HX1.below h.out).look 1, (HX1.below h.out).look 2, (HX1.below h.out).look 3, (HX1.below h.out).look 4, (HX1.below h.out).look 5, (HX1.below h.out).look 6, (HX1.below h.out).look 7, (HX1.below h.out).look 8, (HX1.below h.out).look 9, (HX2.below h.out).look 0, (HX2.below h.out).look 1, (HX2.below h.out).look 2, (HX2.below h.out).look 3, (HX2.below h.out).look 4, (HX2.below h.out).look 5, (HX2.below h.out).look 6, (HX2.below h.out).look 7, (HX2.below h.out).look 8, (HX2.below h.out).look 9⟩
  have V0 : Hid (Below w3.heap.size w3 w3.drew) := (Below.refl _ _).drew
  go_region_held3 (fun W => W.cell? ⟨w.heap.size, 0, none⟩ = some (.int .i64 l.age) ∧ W.cell? ⟨w.heap.size, 1, none⟩ = some (.int .i64 l.options) ∧ W.cell? ⟨w.heap.size, 2, none⟩ = some (.int .i64 l.typ) ∧ W.cell? ⟨w.heap.size, 3, none⟩ = some (.int .i64 l.id) ∧ W.cell? ⟨w.heap.size, 4, none⟩ = some (.int .i64 l.adv) ∧ W.cell? ⟨w.heap.size, 5, none⟩ = some (.int .i64 l.seq) ∧ W.cell? ⟨w.heap.size, 6, none⟩ = some (.slice A n c) ∧ W.cell? ⟨w.heap.size, 7, none⟩ = some (.slice B m d) ∧ W.cell? ⟨w.heap.size, 8, none⟩ = some (.int .i64 l.mask) ∧ W.cell? ⟨w.heap.size, 9, none⟩ = some (.int .i64 l.cost) ∧ W.cell? ⟨w.heap.size + 1, 0, none⟩ = some (.int .i64 k.age) ∧ W.cell? ⟨w.heap.size + 1, 1, none⟩ = some (.int .i64 k.options) ∧ W.cell? ⟨w.heap.size + 1, 2, none⟩ = some (.int .i64 k.typ) ∧ W.cell? ⟨w.heap.size + 1, 3, none⟩ = some (.int .i64 k.id) ∧ W.cell? ⟨w.heap.size + 1, 4, none⟩ = some (.int .i64 k.adv) ∧ W.cell? ⟨w.heap.size + 1, 5, none⟩ = some (.int .i64 k.seq) ∧ W.cell? ⟨w.heap.size + 1, 6, none⟩ = some (.slice A2 n2 c2) ∧ W.cell? ⟨w.heap.size + 1, 7, none⟩ = some (.slice B2 m2 d2) ∧ W.cell? ⟨w.heap.size + 1, 8, none⟩ = some (.int .i64 k.mask) ∧ W.cell? ⟨w.heap.size + 1, 9, none⟩ = some (.int .i64 k.cost)) (exact SB.out _ (by assumption))
    (first | (go_at_call 21; ((with_reducible refine (sum_any l q lo hi A B n c m d _ (HL.below V0.out).lsa hn hm).mono ?_); rw [HF.out, HV1.out]; rintro e u1_0 ⟨rfl, hb⟩; have V1 := Lib.hid (below_step V0.out hb); clear hb)) | (go_at_call 21; ((with_reducible refine (sum_any k q2 lo2 hi2 A2 B2 n2 c2 m2 d2 _ (HK.below V1.out).lsa hn2 hm2).mono ?_); rw [HG.out, HV2.out]; rintro e u1_1 ⟨rfl, hb⟩; have V2 := Lib.hid (below_step V1.out hb); clear hb)) | (go_at_call 89; ((with_reducible refine (compare_any s1 s2 _).mono ?_); rw [HY.out]; rintro e u1_2 ⟨rfl, rfl⟩)))
  have hb := V2.out
  clear SB V0 V1 V2
  have Z3 := Lib.hid hb.size
  replace HL := HL.below hb
  replace HK := HK.below hb
  replace HX1 := HX1.below hb
  replace HX2 := HX2.below hb
  replace HX3 := HX3.below hb
  replace HB := Lib.hid (below_step HB.out hb)
  clear hb
  have l5_0 := HX1.bx.lt
  have l5_1 := HX2.bx.lt
  have l5_2 := HX3.bx.lt
  go_wp2_with fail
  clear l5_0 l5_1 l5_2
  have SB : Hid (∀ W, Hid (Below u1_2.heap.size u1_2 W) → (fun W => W.cell? ⟨w.heap.size, 0, none⟩ = some (.int .i64 l.age) ∧ W.cell? ⟨w.heap.size, 1, none⟩ = some (.int .i64 l.options) ∧ W.cell? ⟨w.heap.size, 2, none⟩ = some (.int .i64 l.typ) ∧ W.cell? ⟨w.heap.size, 3, none⟩ = some (.int .i64 l.id) ∧ W.cell? ⟨w.heap.size, 4, none⟩ = some (.int .i64 l.adv) ∧ W.cell? ⟨w.heap.size, 5, none⟩ = some (.int .i64 l.seq) ∧ W.cell? ⟨w.heap.size, 6, none⟩ = some (.slice A n c) ∧ W.cell? ⟨w.heap.size, 7, none⟩ = some (.slice B m d) ∧ W.cell? ⟨w.heap.size, 8, none⟩ = some (.int .i64 l.mask) ∧ W.cell? ⟨w.heap.size, 9, none⟩ = some (.int .i64 l.cost) ∧ W.cell? ⟨w.heap.size + 1, 0, none⟩ = some (.int .i64 k.age) ∧ W.cell? ⟨w.heap.size + 1, 1, none⟩ = some (.int .i64 k.options) ∧ W.cell? ⟨w.heap.size + 1, 2, none⟩ = some (.int .i64 k.typ) ∧ W.cell? ⟨w.heap.size + 1, 3, none⟩ = some (.int .i64 k.id) ∧ W.cell? ⟨w.heap.size + 1, 4, none⟩ = some (.int .i64 k.adv) ∧ W.cell? ⟨w.heap.size + 1, 5, none⟩ = some (.int .i64 k.seq) ∧ W.cell? ⟨w.heap.size + 1, 6, none⟩ = some (.slice A2 n2 c2) ∧ W.cell? ⟨w.heap.size + 1, 7, none⟩ = some (.slice B2 m2 d2) ∧ W.cell? ⟨w.heap.size + 1, 8, none⟩ = some (.int .i64 k.mask) ∧ W.cell? ⟨w.heap.size + 1, 9, none⟩ = some (.int .i64 k.cost)) W) := fun W h => ⟨(HX1.below h.out).look 0, (HX1.below h.out).look 1, (HX1.below h.out).look 2, (HX1.below h.out).look 3, (HX1.below h.out).look 4, (HX1.below h.out).look 5, (HX1.below h.out).look 6, (HX1.below h.out).look 7, (HX1.below h.out).look 8, (HX1.below h.out).look 9, (HX2.below h.out).look 0, (HX2.below h.out).look 1, (HX2.below h.out).look 2, (HX2.below h.out).look 3, (HX2.below h.out).look 4, (HX2.below h.out).look 5, (HX2.below h.out).look 6, (HX2.below h.out).look 7, (HX2.below h.out).look 8, (HX2.below h.out).look 9⟩
  have V0 : Hid (Below u1_2.heap.size u1_2 u1_2.drew) := (Below.refl _ _).drew
  go_region_held3 (fun W => W.cell? ⟨w.heap.size, 0, none⟩ = some (.int .i64 l.age) ∧ W.cell? ⟨w.heap.size, 1, none⟩ = some (.int .i64 l.options) ∧ W.cell? ⟨w.heap.size, 2, none⟩ = some (.int .i64 l.typ) ∧ W.cell? ⟨w.heap.size, 3, none⟩ = some (.int .i64 l.id) ∧ W.cell? ⟨w.heap.size, 4, none⟩ = some (.int .i64 l.adv) ∧ W.cell? ⟨w.heap.size, 5, none⟩ = some (.int .i64 l.seq) ∧ W.cell? ⟨w.heap.size, 6, none⟩ = some (.slice A n c) ∧ W.cell? ⟨w.heap.size, 7, none⟩ = some (.slice B m d) ∧ W.cell? ⟨w.heap.size, 8, none⟩ = some (.int .i64 l.mask) ∧ W.cell? ⟨w.heap.size, 9, none⟩ = some (.int .i64 l.cost) ∧ W.cell? ⟨w.heap.size + 1, 0, none⟩ = some (.int .i64 k.age) ∧ W.cell? ⟨w.heap.size + 1, 1, none⟩ = some (.int .i64 k.options) ∧ W.cell? ⟨w.heap.size + 1, 2, none⟩ = some (.int .i64 k.typ) ∧ W.cell? ⟨w.heap.size + 1, 3, none⟩ = some (.int .i64 k.id) ∧ W.cell? ⟨w.heap.size + 1, 4, none⟩ = some (.int .i64 k.adv) ∧ W.cell? ⟨w.heap.size + 1, 5, none⟩ = some (.int .i64 k.seq) ∧ W.cell? ⟨w.heap.size + 1, 6, none⟩ = some (.slice A2 n2 c2) ∧ W.cell? ⟨w.heap.size + 1, 7, none⟩ = some (.slice B2 m2 d2) ∧ W.cell? ⟨w.heap.size + 1, 8, none⟩ = some (.int .i64 k.mask) ∧ W.cell? ⟨w.heap.size + 1, 9, none⟩ = some (.int .i64 k.cost)) (exact SB.out _ (by assumption))
    (first | (go_at_call 90; ((with_reducible refine (isOldest_any l q lo hi A B n c m d _).mono ?_); rw [HP1.out]; rintro e u2_0 ⟨rfl, hb⟩; have V1 := Lib.hid (below_step V0.out hb); clear hb)) | (go_at_call 90; ((with_reducible refine (isOldest_any k q2 lo2 hi2 A2 B2 n2 c2 m2 d2 _).mono ?_); rw [HP2.out]; rintro e u2_1 ⟨rfl, hb⟩; have V2 := Lib.hid (below_step V1.out hb); clear hb)))
  have hb := V2.out
  clear SB V0 V1 V2
  have Z4 := Lib.hid hb.size
  replace HL := HL.below hb
  replace HK := HK.below hb
  replace HX1 := HX1.below hb
  replace HX2 := HX2.below hb
  replace HX3 := HX3.below hb
  replace HB := Lib.hid (below_step HB.out hb)
  clear hb
  have c6_0 := HX1.look 0
  have c6_1 := HX2.look 0
  have l6_0 := HX1.bx.lt
  have l6_1 := HX2.bx.lt
  have l6_2 := HX3.bx.lt
  go_wp2_with fail
  clear c6_0 c6_1 l6_0 l6_1 l6_2
  refine Calls.name ?_
  intro U4 hU4
  have hb : Below u2_1.heap.size u2_1 U4 := by rw [hU4]; exact ((Below.refl _ _).alloc (Nat.le_refl _) _)
  have zz : Hid (u2_1.heap.size + 1 = U4.heap.size) := Lib.hid (by rw [hU4]; simp)
  have HX4 : Kept u2_1.heap.size (u2_1.heap.size + 1) (BoxK u2_1.heap.size 2 #[.int .i64 (l.age - k.age)]) U4 := by rw [hU4]; exact Kept.box (Box.made_at _ _ _ rfl)
  replace HL := HL.below hb
  replace HK := HK.below hb
  replace HX1 := HX1.below hb
  replace HX2 := HX2.below hb
  replace HX3 := HX3.below hb
  replace HB := Lib.hid (below_step HB.out hb)
  clear hb
  have Z5 := zz; clear zz
  clear hU4
  have HQ := Lib.hid (HX4.look 0)
  refine (allWithin_one _ _ _ (l.age - k.age) _ HQ.out).mono ?_
  rw [HA.out]
  rintro e w5 ⟨rfl, rfl⟩
  have c7_0 := HX1.look 0
  have c7_1 := HX2.look 0
  have l7_0 := HX1.bx.lt
  have l7_1 := HX2.bx.lt
  have l7_2 := HX3.bx.lt
  have l7_3 := HX4.bx.lt
  go_wp2_with fail
  clear c7_0 c7_1 l7_0 l7_1 l7_2 l7_3
  refine (compare_any k.age l.age _).mono ?_
  rintro e w6 ⟨rfl, rfl⟩
  have l8_0 := HX1.bx.lt
  have l8_1 := HX2.bx.lt
  have l8_2 := HX3.bx.lt
  have l8_3 := HX4.bx.lt
  go_wp2
  clear l8_0 l8_1 l8_2 l8_3
  go_step3
  have c9_0 := HX3.look 0
  have c9_1 := HX3.look 1
  have f9_0 := HX3.free 0
  have f9_1 := HX3.free 1
  have l9_0 := HX1.bx.lt
  have l9_1 := HX2.bx.lt
  have l9_2 := HX3.bx.lt
  have l9_3 := HX4.bx.lt
  go_wp2
  clear c9_0 c9_1 f9_0 f9_1 l9_0 l9_1 l9_2 l9_3
  obtain ⟨U7, hU7⟩ : ∃ W : World, W = ((w6.setCell ⟨w.heap.size + 1 + 1, 0, none⟩ (.int .i64 0)).setCell ⟨w.heap.size + 1 + 1, 1, none⟩ (.int .i64 (cmpI k.age l.age))) := ⟨_, rfl⟩
  have ho : Only (w.heap.size + 1 + 1) (w.heap.size + 1 + 1 + 1) w6 U7 := by rw [hU7]; exact (((Only.refl _ _ _).set (p := ⟨w.heap.size + 1 + 1, 0, none⟩) (Nat.le_refl _) (Nat.lt_succ_self _) _).set (p := ⟨w.heap.size + 1 + 1, 1, none⟩) (Nat.le_refl _) (Nat.lt_succ_self _) _)
  replace HX3 : Kept (w.heap.size + 1 + 1) (w.heap.size + 1 + 1 + 1) (BoxK (w.heap.size + 1 + 1) 49 #[.int .i64 0, .int .i64 (cmpI k.age l.age)]) U7 := by rw [hU7]; exact Kept.box ((HX3.bx.puts 0 (.int .i64 0) (cs' := #[.int .i64 0, .int .i64 0]) rfl).puts 1 (.int .i64 (cmpI k.age l.age)) (cs' := #[.int .i64 0, .int .i64 (cmpI k.age l.age)]) rfl)
  replace HL := HL.only ho (by have := Z0.out; have := Z00.out; have := Z1.out; have := Z2.out; have := Z3.out; have := Z4.out; have := Z5.out; omega)
  replace HK := HK.only ho (by have := Z0.out; have := Z00.out; have := Z1.out; have := Z2.out; have := Z3.out; have := Z4.out; have := Z5.out; omega)
  replace HX1 := HX1.only ho (by have := Z0.out; have := Z00.out; have := Z1.out; have := Z2.out; have := Z3.out; have := Z4.out; have := Z5.out; omega)
  replace HX2 := HX2.only ho (by have := Z0.out; have := Z00.out; have := Z1.out; have := Z2.out; have := Z3.out; have := Z4.out; have := Z5.out; omega)
  replace HX4 := HX4.only ho (by have := Z0.out; have := Z00.out; have := Z1.out; have := Z2.out; have := Z3.out; have := Z4.out; have := Z5.out; omega)
  replace HB := Lib.hid (Below.only HB.out ho (by have := Z0.out; have := Z00.out; have := Z1.out; have := Z2.out; have := Z3.out; have := Z4.out; have := Z5.out; omega) HB.out.size)
  have Z6 := Lib.hid ho.size; clear ho
  have q_0 := HX3.look 0
  have q_1 := HX3.look 1
  simp only [Exit.jump]
  subst hU7
  exact bodyPost_ret (v := .agg #[.int .i64 0, .int .i64 (cmpI k.age l.age)]) (by simp [results, Try.results28, go_sem, q_0, q_1]) rfl ⟨by rw [HC.out, HO.out], HB.out⟩

set_option maxRecDepth 100000 in
set_option maxHeartbeats 3200000 in
theorem compareLsas_5 (l : LsaM) (q : Bool) (lo hi : Nat) (A B : Option Addr) (n c m d : Nat) (k : LsaM) (q2 : Bool) (lo2 hi2 : Nat) (A2 B2 : Option Addr) (n2 c2 m2 d2 : Nat) (w : World) (hl : LsaAt q lo hi w A n B m l) (hn : n ≤ 1048576) (hm : m ≤ 1048576) (hk : LsaAt q2 lo2 hi2 w A2 n2 B2 m2 k) (hn2 : n2 ≤ 1048576) (hm2 : m2 ≤ 1048576) (h0 : pairC l k = 0) (h1 : cmpI l.seq k.seq = 0) (h2 : cmpI (sumV l) (sumV k) = 0) (h3 : oldB l = oldB k) (h4 : ¬ allIn (-900) 900 [l.age - k.age] = false) :
    Calls Try.prog 28 #[.agg (lsaCells l A B n c m d), .agg (lsaCells k A2 B2 n2 c2 m2 d2)] w fun e w' => e = .returned (.agg #[.int .i64 (pairC l k), .int .i64 (ordV l k)]) ∧ Below w.heap.size w w' := by
  have HB := Lib.hid (Below.refl w.heap.size w)
  have HL := hl.kept
  have Z0 := Lib.hid hl.le
  clear hl
  have HK := hk.kept
  have Z00 := Lib.hid hk.le
  clear hk
  have HC := Lib.hid h0
  obtain ⟨g1, g2, g3⟩ := pairC_sound h0
  have HF := Lib.hid g1
  have HG := Lib.hid g2
  have S1 := Lib.hid (sound_of l g1)
  have S2 := Lib.hid (sound_of k g2)
  have HO := Lib.hid (ordV_5 h0 h1 h2 h3 h4)
  obtain ⟨x1, hx1⟩ : ∃ z, cmpI l.seq k.seq = z := ⟨_, rfl⟩
  rw [hx1] at h1
  subst h1
  have HX := Lib.hid hx1
  obtain ⟨x2, hx2⟩ : ∃ z, cmpI (sumV l) (sumV k) = z := ⟨_, rfl⟩
  rw [hx2] at h2
  have HS1 : Hid (∃ z, sumV l = z) := Lib.hid ⟨_, rfl⟩
  obtain ⟨s1, hs1⟩ := HS1.out
  obtain ⟨s2, hs2⟩ : ∃ z, sumV k = z := ⟨_, rfl⟩
  rw [hs1, hs2] at hx2
  have HV1 := Lib.hid hs1
  have HV2 := Lib.hid hs2
  clear HS1
  subst h2
  have HY := Lib.hid hx2
  obtain ⟨o1, ho1⟩ : ∃ z, oldB l = z := ⟨_, rfl⟩
  obtain ⟨o2, ho2⟩ : ∃ z, oldB k = z := ⟨_, rfl⟩
  rw [ho1, ho2] at h3
  have HP1 := Lib.hid ho1
  have HP2 := Lib.hid ho2
  subst h3
  have hn1 : (o1 != o1) = false := by simp
  have e1 := S1.out.age
  have e2 := S2.out.age
  obtain ⟨e11, e12⟩ := e1
  obtain ⟨e21, e22⟩ := e2
  have HA : Hid (allIn (-900) 900 [l.age - k.age] = true) := Lib.hid (by simpa using h4)
  clear hx1 hx2 hs1 hs2 h0 ho1 ho2 h4
  go_enter Try.func28, Try.ntmps28
  go_wp2
  refine Code.wp_name ?_
  intro U1 hU1
  have hb : Below w.heap.size w U1 := by rw [hU1]; exact ((((Below.refl _ _).alloc (Nat.le_refl _) _).alloc (by simp <;> omega) _).alloc (by simp <;> omega) _)
  have zz : Hid (w.heap.size + 3 = U1.heap.size) := Lib.hid (by rw [hU1]; simp)
  have HX1 : Kept w.heap.size (w.heap.size + 1) (BoxK w.heap.size 29 #[.int .i64 l.age, .int .i64 l.options, .int .i64 l.typ, .int .i64 l.id, .int .i64 l.adv, .int .i64 l.seq, .slice A n c, .slice B m d, .int .i64 l.mask, .int .i64 l.cost]) U1 := by rw [hU1]; exact Kept.box (((Box.made_at _ _ _ rfl).over _).over _)
  have HX2 : Kept (w.heap.size + 1) (w.heap.size + 1 + 1) (BoxK (w.heap.size + 1) 29 #[.int .i64 k.age, .int .i64 k.options, .int .i64 k.typ, .int .i64 k.id, .int .i64 k.adv, .int .i64 k.seq, .slice A2 n2 c2, .slice B2 m2 d2, .int .i64 k.mask, .int .i64 k.cost]) U1 := by rw [hU1]; exact Kept.box ((Box.made_at _ _ _ (by simp <;> omega)).over _)
  have HX3 : Kept (w.heap.size + 1 + 1) (w.heap.size + 1 + 1 + 1) (BoxK (w.heap.size + 1 + 1) 49 #[.int .i64 0, .int .i64 0]) U1 := by rw [hU1]; exact Kept.box (Box.made_at _ _ _ (by simp <;> omega))
  replace HL := HL.below hb
  replace HK := HK.below hb
  replace HB := Lib.hid (below_step HB.out hb)
  clear hb
  have Z1 := zz; clear zz
  clear hU1
  refine wp_scope_fwd 0 rfl ?_
  have c2_0 := HX1.look 0
  have c2_1 := HX1.look 1
  have c2_2 := HX1.look 2
  have c2_3 := HX1.look 3
  have c2_4 := HX1.look 4
  have c2_5 := HX1.look 5
  have c2_6 := HX1.look 6
  have c2_7 := HX1.look 7
  have c2_8 := HX1.look 8
  have c2_9 := HX1.look 9
  have c2_10 := HX2.look 0
  have c2_11 := HX2.look 1
  have c2_12 := HX2.look 2
  have c2_13 := HX2.look 3
  have c2_14 := HX2.look 4
  have c2_15 := HX2.look 5
  have c2_16 := HX2.look 6
  have c2_17 := HX2.look 7
  have c2_18 := HX2.look 8
  have c2_19 := HX2.look 9
  have l2_0 := HX1.bx.lt
  have l2_1 := HX2.bx.lt
  have l2_2 := HX3.bx.lt
  go_wp2_with fail
  clear c2_0 c2_1 c2_2 c2_3 c2_4 c2_5 c2_6 c2_7 c2_8 c2_9 c2_10 c2_11 c2_12 c2_13 c2_14 c2_15 c2_16 c2_17 c2_18 c2_19 l2_0 l2_1 l2_2
  refine (pairFault_any l q lo hi A B n c m d k q2 lo2 hi2 A2 B2 n2 c2 m2 d2 _ HL.lsa hn hm HK.lsa hn2 hm2).mono ?_
  rw [HC.out]
  rintro e w2 ⟨rfl, hb⟩
  have Z2 := Lib.hid hb.size
  replace HL := HL.below hb
  replace HK := HK.below hb
  replace HX1 := HX1.below hb
  replace HX2 := HX2.below hb
  replace HX3 := HX3.below hb
  replace HB := Lib.hid (below_step HB.out hb)
  clear hb
  have c3_0 := HX1.look 5
  have c3_1 := HX2.look 5
  have l3_0 := HX1.bx.lt
  have l3_1 := HX2.bx.lt
  have l3_2 := HX3.bx.lt
  go_wp2_with fail
  clear c3_0 c3_1 l3_0 l3_1 l3_2
  refine (compare_any l.seq k.seq _).mono ?_
  rw [HX.out]
  rintro e w3 ⟨rfl, rfl⟩
  have l4_0 := HX1.bx.lt
  have l4_1 := HX2.bx.lt
  have l4_2 := HX3.bx.lt
  go_wp2_with fail
  clear l4_0 l4_1 l4_2
  have SB : Hid (∀ W, Hid (Below w3.heap.size w3 W) → (fun W => W.cell? ⟨w.heap.size, 0, none⟩ = some (.int .i64 l.age) ∧ W.cell? ⟨w.heap.size, 1, none⟩ = some (.int .i64 l.options) ∧ W.cell? ⟨w.heap.size, 2, none⟩ = some (.int .i64 l.typ) ∧ W.cell? ⟨w.heap.size, 3, none⟩ = some (.int .i64 l.id) ∧ W.cell? ⟨w.heap.size, 4, none⟩ = some (.int .i64 l.adv) ∧ W.cell? ⟨w.heap.size, 5, none⟩ = some (.int .i64 l.seq) ∧ W.cell? ⟨w.heap.size, 6, none⟩ = some (.slice A n c) ∧ W.cell? ⟨w.heap.size, 7, none⟩ = some (.slice B m d) ∧ W.cell? ⟨w.heap.size, 8, none⟩ = some (.int .i64 l.mask) ∧ W.cell? ⟨w.heap.size, 9, none⟩ = some (.int .i64 l.cost) ∧ W.cell? ⟨w.heap.size + 1, 0, none⟩ = some (.int .i64 k.age) ∧ W.cell? ⟨w.heap.size + 1, 1, none⟩ = some (.int .i64 k.options) ∧ W.cell? ⟨w.heap.size + 1, 2, none⟩ = some (.int .i64 k.typ) ∧ W.cell? ⟨w.heap.size + 1, 3, none⟩ = some (.int .i64 k.id) ∧ W.cell? ⟨w.heap.size + 1, 4, none⟩ = some (.int .i64 k.adv) ∧ W.cell? ⟨w.heap.size + 1, 5, none⟩ = some (.int .i64 k.seq) ∧ W.cell? ⟨w.heap.size + 1, 6, none⟩ = some (.slice A2 n2 c2) ∧ W.cell? ⟨w.heap.size + 1, 7, none⟩ = some (.slice B2 m2 d2) ∧ W.cell? ⟨w.heap.size + 1, 8, none⟩ = some (.int .i64 k.mask) ∧ W.cell? ⟨w.heap.size + 1, 9, none⟩ = some (.int .i64 k.cost)) W) := fun W h => ⟨(HX1.below h.out).look 0, (HX1.below h.out).look 1, (HX1.below h.out).look 2, (HX1.below h.out).look 3, (HX1.below h.out).look 4, (HX1.below h.out).look 5, (HX1.below h.out).look 6, (HX1.below h.out).look 7, (HX1.below h.out).look 8, (HX1.below h.out).look 9, (HX2.below h.out).look 0, (HX2.below h.out).look 1, (HX2.below h.out).look 2, (HX2.below h.out).look 3, (HX2.below h.out).look 4, (HX2.below h.out).look 5, (HX2.below h.out).look 6, (HX2.below h.out).look 7, (HX2.below h.out).look 8, (HX2.below h.out).look 9⟩
  have V0 : Hid (Below w3.heap.size w3 w3.drew) := (Below.refl _ _).drew
  go_region_held3 (fun W => W.cell? ⟨w.heap.size, 0, none⟩ = some (.int .i64 l.age) ∧ W.cell? ⟨w.heap.size, 1, none⟩ = some (.int .i64 l.options) ∧ W.cell? ⟨w.heap.size, 2, none⟩ = some (.int .i64 l.typ) ∧ W.cell? ⟨w.heap.size, 3, none⟩ = some (.int .i64 l.id) ∧ W.cell? ⟨w.heap.size, 4, none⟩ = some (.int .i64 l.adv) ∧ W.cell? ⟨w.heap.size, 5, none⟩ = some (.int .i64 l.seq) ∧ W.cell? ⟨w.heap.size, 6, none⟩ = some (.slice A n c) ∧ W.cell? ⟨w.heap.size, 7, none⟩ = some (.slice B m d) ∧ W.cell? ⟨w.heap.size, 8, none⟩ = some (.int .i64 l.mask) ∧ W.cell? ⟨w.heap.size, 9, none⟩ = some (.int .i64 l.cost) ∧ W.cell? ⟨w.heap.size + 1, 0, none⟩ = some (.int .i64 k.age) ∧ W.cell? ⟨w.heap.size + 1, 1, none⟩ = some (.int .i64 k.options) ∧ W.cell? ⟨w.heap.size + 1, 2, none⟩ = some (.int .i64 k.typ) ∧ W.cell? ⟨w.heap.size + 1, 3, none⟩ = some (.int .i64 k.id) ∧ W.cell? ⟨w.heap.size + 1, 4, none⟩ = some (.int .i64 k.adv) ∧ W.cell? ⟨w.heap.size + 1, 5, none⟩ = some (.int .i64 k.seq) ∧ W.cell? ⟨w.heap.size + 1, 6, none⟩ = some (.slice A2 n2 c2) ∧ W.cell? ⟨w.heap.size + 1, 7, none⟩ = some (.slice B2 m2 d2) ∧ W.cell? ⟨w.heap.size + 1, 8, none⟩ = some (.int .i64 k.mask) ∧ W.cell? ⟨w.heap.size + 1, 9, none⟩ = some (.int .i64 k.cost)) (exact SB.out _ (by assumption))
    (first | (go_at_call 21; ((with_reducible refine (sum_any l q lo hi A B n c m d _ (HL.below V0.out).lsa hn hm).mono ?_); rw [HF.out, HV1.out]; rintro e u1_0 ⟨rfl, hb⟩; have V1 := Lib.hid (below_step V0.out hb); clear hb)) | (go_at_call 21; ((with_reducible refine (sum_any k q2 lo2 hi2 A2 B2 n2 c2 m2 d2 _ (HK.below V1.out).lsa hn2 hm2).mono ?_); rw [HG.out, HV2.out]; rintro e u1_1 ⟨rfl, hb⟩; have V2 := Lib.hid (below_step V1.out hb); clear hb)) | (go_at_call 89; ((with_reducible refine (compare_any s1 s2 _).mono ?_); rw [HY.out]; rintro e u1_2 ⟨rfl, rfl⟩)))
  have hb := V2.out
  clear SB V0 V1 V2
  have Z3 := Lib.hid hb.size
  replace HL := HL.below hb
  replace HK := HK.below hb
  replace HX1 := HX1.below hb
  replace HX2 := HX2.below hb
  replace HX3 := HX3.below hb
  replace HB := Lib.hid (below_step HB.out hb)
  clear hb
  have l5_0 := HX1.bx.lt
  have l5_1 := HX2.bx.lt
  have l5_2 := HX3.bx.lt
  go_wp2_with fail
  clear l5_0 l5_1 l5_2
  have SB : Hid (∀ W, Hid (Below u1_2.heap.size u1_2 W) → (fun W => W.cell? ⟨w.heap.size, 0, none⟩ = some (.int .i64 l.age) ∧ W.cell? ⟨w.heap.size, 1, none⟩ = some (.int .i64 l.options) ∧ W.cell? ⟨w.heap.size, 2, none⟩ = some (.int .i64 l.typ) ∧ W.cell? ⟨w.heap.size, 3, none⟩ = some (.int .i64 l.id) ∧ W.cell? ⟨w.heap.size, 4, none⟩ = some (.int .i64 l.adv) ∧ W.cell? ⟨w.heap.size, 5, none⟩ = some (.int .i64 l.seq) ∧ W.cell? ⟨w.heap.size, 6, none⟩ = some (.slice A n c) ∧ W.cell? ⟨w.heap.size, 7, none⟩ = some (.slice B m d) ∧ W.cell? ⟨w.heap.size, 8, none⟩ = some (.int .i64 l.mask) ∧ W.cell? ⟨w.heap.size, 9, none⟩ = some (.int .i64 l.cost) ∧ W.cell? ⟨w.heap.size + 1, 0, none⟩ = some (.int .i64 k.age) ∧ W.cell? ⟨w.heap.size + 1, 1, none⟩ = some (.int .i64 k.options) ∧ W.cell? ⟨w.heap.size + 1, 2, none⟩ = some (.int .i64 k.typ) ∧ W.cell? ⟨w.heap.size + 1, 3, none⟩ = some (.int .i64 k.id) ∧ W.cell? ⟨w.heap.size + 1, 4, none⟩ = some (.int .i64 k.adv) ∧ W.cell? ⟨w.heap.size + 1, 5, none⟩ = some (.int .i64 k.seq) ∧ W.cell? ⟨w.heap.size + 1, 6, none⟩ = some (.slice A2 n2 c2) ∧ W.cell? ⟨w.heap.size + 1, 7, none⟩ = some (.slice B2 m2 d2) ∧ W.cell? ⟨w.heap.size + 1, 8, none⟩ = some (.int .i64 k.mask) ∧ W.cell? ⟨w.heap.size + 1, 9, none⟩ = some (.int .i64 k.cost)) W) := fun W h => ⟨(HX1.below h.out).look 0, (HX1.below h.out).look 1, (HX1.below h.out).look 2, (HX1.below h.out).look 3, (HX1.below h.out).look 4, (HX1.below h.out).look 5, (HX1.below h.out).look 6, (HX1.below h.out).look 7, (HX1.below h.out).look 8, (HX1.below h.out).look 9, (HX2.below h.out).look 0, (HX2.below h.out).look 1, (HX2.below h.out).look 2, (HX2.below h.out).look 3, (HX2.below h.out).look 4, (HX2.below h.out).look 5, (HX2.below h.out).look 6, (HX2.below h.out).look 7, (HX2.below h.out).look 8, (HX2.below h.out).look 9⟩
  have V0 : Hid (Below u1_2.heap.size u1_2 u1_2.drew) := (Below.refl _ _).drew
  go_region_held3 (fun W => W.cell? ⟨w.heap.size, 0, none⟩ = some (.int .i64 l.age) ∧ W.cell? ⟨w.heap.size, 1, none⟩ = some (.int .i64 l.options) ∧ W.cell? ⟨w.heap.size, 2, none⟩ = some (.int .i64 l.typ) ∧ W.cell? ⟨w.heap.size, 3, none⟩ = some (.int .i64 l.id) ∧ W.cell? ⟨w.heap.size, 4, none⟩ = some (.int .i64 l.adv) ∧ W.cell? ⟨w.heap.size, 5, none⟩ = some (.int .i64 l.seq) ∧ W.cell? ⟨w.heap.size, 6, none⟩ = some (.slice A n c) ∧ W.cell? ⟨w.heap.size, 7, none⟩ = some (.slice B m d) ∧ W.cell? ⟨w.heap.size, 8, none⟩ = some (.int .i64 l.mask) ∧ W.cell? ⟨w.heap.size, 9, none⟩ = some (.int .i64 l.cost) ∧ W.cell? ⟨w.heap.size + 1, 0, none⟩ = some (.int .i64 k.age) ∧ W.cell? ⟨w.heap.size + 1, 1, none⟩ = some (.int .i64 k.options) ∧ W.cell? ⟨w.heap.size + 1, 2, none⟩ = some (.int .i64 k.typ) ∧ W.cell? ⟨w.heap.size + 1, 3, none⟩ = some (.int .i64 k.id) ∧ W.cell? ⟨w.heap.size + 1, 4, none⟩ = some (.int .i64 k.adv) ∧ W.cell? ⟨w.heap.size + 1, 5, none⟩ = some (.int .i64 k.seq) ∧ W.cell? ⟨w.heap.size + 1, 6, none⟩ = some (.slice A2 n2 c2) ∧ W.cell? ⟨w.heap.size + 1, 7, none⟩ = some (.slice B2 m2 d2) ∧ W.cell? ⟨w.heap.size + 1, 8, none⟩ = some (.int .i64 k.mask) ∧ W.cell? ⟨w.heap.size + 1, 9, none⟩ = some (.int .i64 k.cost)) (exact SB.out _ (by assumption))
    (first | (go_at_call 90; ((with_reducible refine (isOldest_any l q lo hi A B n c m d _).mono ?_); rw [HP1.out]; rintro e u2_0 ⟨rfl, hb⟩; have V1 := Lib.hid (below_step V0.out hb); clear hb)) | (go_at_call 90; ((with_reducible refine (isOldest_any k q2 lo2 hi2 A2 B2 n2 c2 m2 d2 _).mono ?_); rw [HP2.out]; rintro e u2_1 ⟨rfl, hb⟩; have V2 := Lib.hid (below_step V1.out hb); clear hb)))
  have hb := V2.out
  clear SB V0 V1 V2
  have Z4 := Lib.hid hb.size
  replace HL := HL.below hb
  replace HK := HK.below hb
  replace HX1 := HX1.below hb
  replace HX2 := HX2.below hb
  replace HX3 := HX3.below hb
  replace HB := Lib.hid (below_step HB.out hb)
  clear hb
  have c6_0 := HX1.look 0
  have c6_1 := HX2.look 0
  have l6_0 := HX1.bx.lt
  have l6_1 := HX2.bx.lt
  have l6_2 := HX3.bx.lt
  go_wp2_with fail
  clear c6_0 c6_1 l6_0 l6_1 l6_2
  refine Calls.name ?_
  intro U4 hU4
  have hb : Below u2_1.heap.size u2_1 U4 := by rw [hU4]; exact ((Below.refl _ _).alloc (Nat.le_refl _) _)
  have zz : Hid (u2_1.heap.size + 1 = U4.heap.size) := Lib.hid (by rw [hU4]; simp)
  have HX4 : Kept u2_1.heap.size (u2_1.heap.size + 1) (BoxK u2_1.heap.size 2 #[.int .i64 (l.age - k.age)]) U4 := by rw [hU4]; exact Kept.box (Box.made_at _ _ _ rfl)
  replace HL := HL.below hb
  replace HK := HK.below hb
  replace HX1 := HX1.below hb
  replace HX2 := HX2.below hb
  replace HX3 := HX3.below hb
  replace HB := Lib.hid (below_step HB.out hb)
  clear hb
  have Z5 := zz; clear zz
  clear hU4
  have HQ := Lib.hid (HX4.look 0)
  refine (allWithin_one _ _ _ (l.age - k.age) _ HQ.out).mono ?_
  rw [HA.out]
  rintro e w5 ⟨rfl, rfl⟩
  have l7_0 := HX1.bx.lt
  have l7_1 := HX2.bx.lt
  have l7_2 := HX3.bx.lt
  have l7_3 := HX4.bx.lt
  go_wp2
  clear l7_0 l7_1 l7_2 l7_3
  go_step3
  have c8_0 := HX3.look 0
  have c8_1 := HX3.look 1
  have f8_0 := HX3.free 0
  have f8_1 := HX3.free 1
  have l8_0 := HX1.bx.lt
  have l8_1 := HX2.bx.lt
  have l8_2 := HX3.bx.lt
  have l8_3 := HX4.bx.lt
  go_wp2
  clear c8_0 c8_1 f8_0 f8_1 l8_0 l8_1 l8_2 l8_3
  obtain ⟨U6, hU6⟩ : ∃ W : World, W = ((w5.setCell ⟨w.heap.size + 1 + 1, 0, none⟩ (.int .i64 0)).setCell ⟨w.heap.size + 1 + 1, 1, none⟩ (.int .i64 0)) := ⟨_, rfl⟩
  have ho : Only (w.heap.size + 1 + 1) (w.heap.size + 1 + 1 + 1) w5 U6 := by rw [hU6]; exact (((Only.refl _ _ _).set (p := ⟨w.heap.size + 1 + 1, 0, none⟩) (Nat.le_refl _) (Nat.lt_succ_self _) _).set (p := ⟨w.heap.size + 1 + 1, 1, none⟩) (Nat.le_refl _) (Nat.lt_succ_self _) _)
  replace HX3 : Kept (w.heap.size + 1 + 1) (w.heap.size + 1 + 1 + 1) (BoxK (w.heap.size + 1 + 1) 49 #[.int .i64 0, .int .i64 0]) U6 := by rw [hU6]; exact Kept.box ((HX3.bx.puts 0 (.int .i64 0) (cs' := #[.int .i64 0, .int .i64 0]) rfl).puts 1 (.int .i64 0) (cs' := #[.int .i64 0, .int .i64 0]) rfl)
  replace HL := HL.only ho (by have := Z0.out; have := Z00.out; have := Z1.out; have := Z2.out; have := Z3.out; have := Z4.out; have := Z5.out; omega)
  replace HK := HK.only ho (by have := Z0.out; have := Z00.out; have := Z1.out; have := Z2.out; have := Z3.out; have := Z4.out; have := Z5.out; omega)
  replace HX1 := HX1.only ho (by have := Z0.out; have := Z00.out; have := Z1.out; have := Z2.out; have := Z3.out; have := Z4.out; have := Z5.out; omega)
  replace HX2 := HX2.only ho (by have := Z0.out; have := Z00.out; have := Z1.out; have := Z2.out; have := Z3.out; have := Z4.out; have := Z5.out; omega)
  replace HX4 := HX4.only ho (by have := Z0.out; have := Z00.out; have := Z1.out; have := Z2.out; have := Z3.out; have := Z4.out; have := Z5.out; omega)
  replace HB := Lib.hid (Below.only HB.out ho (by have := Z0.out; have := Z00.out; have := Z1.out; have := Z2.out; have := Z3.out; have := Z4.out; have := Z5.out; omega) HB.out.size)
  have Z6 := Lib.hid ho.size; clear ho
  have q_0 := HX3.look 0
  have q_1 := HX3.look 1
  simp only [Exit.jump]
  subst hU6
  exact bodyPost_ret (v := .agg #[.int .i64 0, .int .i64 0]) (by simp [results, Try.results28, go_sem, q_0, q_1]) rfl ⟨by rw [HC.out, HO.out], HB.out⟩

theorem compareLsas_any (l : LsaM) (q : Bool) (lo hi : Nat) (A B : Option Addr) (n c m d : Nat) (k : LsaM) (q2 : Bool) (lo2 hi2 : Nat) (A2 B2 : Option Addr) (n2 c2 m2 d2 : Nat) (w : World) (hl : LsaAt q lo hi w A n B m l) (hn : n ≤ 1048576) (hm : m ≤ 1048576) (hk : LsaAt q2 lo2 hi2 w A2 n2 B2 m2 k) (hn2 : n2 ≤ 1048576) (hm2 : m2 ≤ 1048576) :
    Calls Try.prog 28 #[.agg (lsaCells l A B n c m d), .agg (lsaCells k A2 B2 n2 c2 m2 d2)] w fun e w' => e = .returned (.agg #[.int .i64 (pairC l k), .int .i64 (ordV l k)]) ∧ Below w.heap.size w w' := by
  by_cases h0 : pairC l k = 0
  rotate_left
  · exact compareLsas_0 l q lo hi A B n c m d k q2 lo2 hi2 A2 B2 n2 c2 m2 d2 w hl hn hm hk hn2 hm2 h0
  by_cases h1 : cmpI l.seq k.seq = 0
  rotate_left
  · exact compareLsas_1 l q lo hi A B n c m d k q2 lo2 hi2 A2 B2 n2 c2 m2 d2 w hl hn hm hk hn2 hm2 h0 h1
  by_cases h2 : cmpI (sumV l) (sumV k) = 0
  rotate_left
  · exact compareLsas_2 l q lo hi A B n c m d k q2 lo2 hi2 A2 B2 n2 c2 m2 d2 w hl hn hm hk hn2 hm2 h0 h1 h2
  by_cases h3 : oldB l = oldB k
  rotate_left
  · cases h5 : oldB l
    · exact compareLsas_3f l q lo hi A B n c m d k q2 lo2 hi2 A2 B2 n2 c2 m2 d2 w hl hn hm hk hn2 hm2 h0 h1 h2 ⟨h5, by rw [h5] at h3; cases h6 : oldB k; exact absurd h6.symm h3; rfl⟩
    · exact compareLsas_3t l q lo hi A B n c m d k q2 lo2 hi2 A2 B2 n2 c2 m2 d2 w hl hn hm hk hn2 hm2 h0 h1 h2 ⟨h5, by rw [h5] at h3; cases h6 : oldB k; rfl; exact absurd h6.symm h3⟩
  by_cases h4 : allIn (-900) 900 [l.age - k.age] = false
  · exact compareLsas_4 l q lo hi A B n c m d k q2 lo2 hi2 A2 B2 n2 c2 m2 d2 w hl hn hm hk hn2 hm2 h0 h1 h2 h3 h4
  · exact compareLsas_5 l q lo hi A B n c m d k q2 lo2 hi2 A2 B2 n2 c2 m2 d2 w hl hn hm hk hn2 hm2 h0 h1 h2 h3 h4


end Go.Proofs.Ytamclkjofojhmaa
