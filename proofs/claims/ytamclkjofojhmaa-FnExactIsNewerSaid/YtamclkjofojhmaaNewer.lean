/-
  What the model's CompareLsas and both IsNewer answer. No statement is proved here.
-/
import Derived.Test.YtamclkjofojhmaaCompare
import Derived.Test.YtamclkjofojhmaaSpecCmp
namespace Go.Proofs.Ytamclkjofojhmaa
open Go.RowKit
set_option linter.unusedVariables false

attribute [local go_sem high] neq_key eql_key

theorem l3Compare_any (l : LsaM) (q : Bool) (lo hi : Nat) (A B : Option Addr) (n c m d : Nat) (k : LsaM) (q2 : Bool) (lo2 hi2 : Nat) (A2 B2 : Option Addr) (n2 c2 m2 d2 : Nat) (g g2 : Nat) (w : World) (hx : Box w g 29 (lsaCells l A B n c m d)) (hl : LsaAt q lo hi w A n B m l) (hy : Box w g2 29 (lsaCells k A2 B2 n2 c2 m2 d2)) (hk : LsaAt q2 lo2 hi2 w A2 n2 B2 m2 k) (h0 : pairC l k = 0) :
    Calls Try.prog 91 #[.pointer (some ⟨g, 0, none⟩), .pointer (some ⟨g2, 0, none⟩)] w fun e w' => e = .returned (.int .i64 (ordV l k)) ∧ Below w.heap.size w w' := by
  by_cases h1 : cmpI l.seq k.seq = 0
  rotate_left
  · exact l3Compare_1 l q lo hi A B n c m d k q2 lo2 hi2 A2 B2 n2 c2 m2 d2 g g2 w hx hl hy hk h0 h1
  by_cases h2 : cmpI (sumV l) (sumV k) = 0
  rotate_left
  · exact l3Compare_2 l q lo hi A B n c m d k q2 lo2 hi2 A2 B2 n2 c2 m2 d2 g g2 w hx hl hy hk h0 h1 h2
  by_cases h3 : oldB l = oldB k
  rotate_left
  · cases h5 : oldB l
    · exact l3Compare_3f l q lo hi A B n c m d k q2 lo2 hi2 A2 B2 n2 c2 m2 d2 g g2 w hx hl hy hk h0 h1 h2 ⟨h5, by rw [h5] at h3; cases h6 : oldB k; exact absurd h6.symm h3; rfl⟩
    · exact l3Compare_3t l q lo hi A B n c m d k q2 lo2 hi2 A2 B2 n2 c2 m2 d2 g g2 w hx hl hy hk h0 h1 h2 ⟨h5, by rw [h5] at h3; cases h6 : oldB k; rfl; exact absurd h6.symm h3⟩
  by_cases h4 : allIn (-900) 900 [l.age - k.age] = false
  · by_cases hz : 900 < k.age - l.age
    · exact l3Compare_4a l q lo hi A B n c m d k q2 lo2 hi2 A2 B2 n2 c2 m2 d2 g g2 w hx hl hy hk h0 h1 h2 h3 h4 hz
    · exact l3Compare_4b l q lo hi A B n c m d k q2 lo2 hi2 A2 B2 n2 c2 m2 d2 g g2 w hx hl hy hk h0 h1 h2 h3 h4 (by have := allIn_out h4; omega) hz
  · exact l3Compare_5 l q lo hi A B n c m d k q2 lo2 hi2 A2 B2 n2 c2 m2 d2 g g2 w hx hl hy hk h0 h1 h2 h3 h4

set_option maxRecDepth 100000 in
set_option maxHeartbeats 3200000 in
theorem specCompare_1 (l : LsaM) (q : Bool) (lo hi : Nat) (A B : Option Addr) (n c m d : Nat) (k : LsaM) (q2 : Bool) (lo2 hi2 : Nat) (A2 B2 : Option Addr) (n2 c2 m2 d2 : Nat) (w : World) (hl : LsaAt q lo hi w A n B m l) (hn : n ≤ 1048576) (hm : m ≤ 1048576) (hk : LsaAt q2 lo2 hi2 w A2 n2 B2 m2 k) (hn2 : n2 ≤ 1048576) (hm2 : m2 ≤ 1048576) (h1 : ¬ faultOf l = 0) :
    Calls Try.prog 31 #[.agg (lsaCells l A B n c m d), .agg (lsaCells k A2 B2 n2 c2 m2 d2)] w fun e w' => e = .returned (.agg #[.int .i64 (pairC l k), .int .i64 (ordV l k)]) ∧ Below w.heap.size w w' := by
  have HB := Lib.hid (Below.refl w.heap.size w)
  have HL := hl.kept
  have Z0 := Lib.hid hl.le
  clear hl
  have HK := hk.kept
  have Z00 := Lib.hid hk.le
  clear hk
  have HO := Lib.hid (ordV_0 (a := l) (b := k) (by rw [pairC_1 h1]; exact h1))
  obtain ⟨r, hr⟩ : ∃ r, faultOf l = r := ⟨_, rfl⟩
  have HC : Hid (pairC l k = r) := Lib.hid (by rw [← hr]; exact pairC_1 h1)
  rw [hr] at h1
  have hne : (r != 0) = true := by rw [bne_iff_ne]; exact h1
  have HF := Lib.hid hr
  clear hr h1
  go_enter Try.func31, Try.ntmps31
  go_wp2_with fail
  refine Calls.name ?_
  intro U1 hU1
  have hb : Below w.heap.size w U1 := by rw [hU1]; exact ((((Below.refl _ _).alloc (Nat.le_refl _) _).alloc (by simp <;> omega) _).alloc (by simp <;> omega) _)
  have zz : Hid (w.heap.size + 3 = U1.heap.size) := Lib.hid (by rw [hU1]; simp)
  have HX1 : Kept w.heap.size (w.heap.size + 1) (BoxK w.heap.size 29 #[.int .i64 l.age, .int .i64 l.options, .int .i64 l.typ, .int .i64 l.id, .int .i64 l.adv, .int .i64 l.seq, .slice A n c, .slice B m d, .int .i64 l.mask, .int .i64 l.cost]) U1 := by rw [hU1]; exact Kept.box (((Box.made_at _ _ _ rfl).over _).over _)
  have HX2 : Kept (w.heap.size + 1) (w.heap.size + 1 + 1) (BoxK (w.heap.size + 1) 29 #[.int .i64 k.age, .int .i64 k.options, .int .i64 k.typ, .int .i64 k.id, .int .i64 k.adv, .int .i64 k.seq, .slice A2 n2 c2, .slice B2 m2 d2, .int .i64 k.mask, .int .i64 k.cost]) U1 := by rw [hU1]; exact Kept.box ((Box.made_at _ _ _ (by simp <;> omega)).over _)
  have HX3 : Kept (w.heap.size + 1 + 1) (w.heap.size + 1 + 1 + 1) (BoxK (w.heap.size + 1 + 1) 49 #[.int .i64 0, .int .i64 0]) U1 := by rw [hU1]; exact Kept.box (Box.made_at _ _ _ (by simp <;> omega))
  replace HL := HL.below hb
  replace HK := HK.below hb
  replace HB := Lib.hid (below_step HB.out hb)
  clear hb
  have Z1 := zz; clear zz
  clear hU1
  refine (specFault_any l q lo hi A B n c m d _ HL.lsa.in_ HL.le hn hm).mono ?_
  rw [HF.out]
  rintro e w2 ⟨rfl, hb⟩
  have Z2 := Lib.hid hb.size
  replace HL := HL.below hb
  replace HK := HK.below hb
  replace HX1 := HX1.below hb
  replace HX2 := HX2.below hb
  replace HX3 := HX3.below hb
  replace HB := Lib.hid (below_step HB.out hb)
  clear hb
  have c2_0 := HX3.look 0
  have c2_1 := HX3.look 1
  have f2_0 := HX3.free 0
  have f2_1 := HX3.free 1
  have l2_0 := HX1.bx.lt
  have l2_1 := HX2.bx.lt
  have l2_2 := HX3.bx.lt
  go_wp2
  clear c2_0 c2_1 f2_0 f2_1 l2_0 l2_1 l2_2
  obtain ⟨U3, hU3⟩ : ∃ W : World, W = ((w2.setCell ⟨w.heap.size + 1 + 1, 0, none⟩ (.int .i64 r)).setCell ⟨w.heap.size + 1 + 1, 1, none⟩ (.int .i64 0)) := ⟨_, rfl⟩
  have ho : Only (w.heap.size + 1 + 1) (w.heap.size + 1 + 1 + 1) w2 U3 := by rw [hU3]; exact (((Only.refl _ _ _).set (p := ⟨w.heap.size + 1 + 1, 0, none⟩) (Nat.le_refl _) (Nat.lt_succ_self _) _).set (p := ⟨w.heap.size + 1 + 1, 1, none⟩) (Nat.le_refl _) (Nat.lt_succ_self _) _)
  replace HX3 : Kept (w.heap.size + 1 + 1) (w.heap.size + 1 + 1 + 1) (BoxK (w.heap.size + 1 + 1) 49 #[.int .i64 r, .int .i64 0]) U3 := by rw [hU3]; exact Kept.box ((HX3.bx.puts 0 (.int .i64 r) (cs' := #[.int .i64 r, .int .i64 0]) rfl).puts 1 (.int .i64 0) (cs' := #[.int .i64 r, .int .i64 0]) rfl)
  replace HL := HL.only ho (by have := Z0.out; have := Z00.out; have := Z1.out; have := Z2.out; omega)
  replace HK := HK.only ho (by have := Z0.out; have := Z00.out; have := Z1.out; have := Z2.out; omega)
  replace HX1 := HX1.only ho (by have := Z0.out; have := Z00.out; have := Z1.out; have := Z2.out; omega)
  replace HX2 := HX2.only ho (by have := Z0.out; have := Z00.out; have := Z1.out; have := Z2.out; omega)
  replace HB := Lib.hid (Below.only HB.out ho (by have := Z0.out; have := Z00.out; have := Z1.out; have := Z2.out; omega) HB.out.size)
  have Z3 := Lib.hid ho.size; clear ho
  have q_0 := HX3.look 0
  have q_1 := HX3.look 1
  subst hU3
  exact bodyPost_ret (v := .agg #[.int .i64 r, .int .i64 0]) (by simp [results, Try.results31, go_sem, q_0, q_1]) rfl ⟨by rw [HC.out, HO.out], HB.out⟩

set_option maxRecDepth 100000 in
set_option maxHeartbeats 3200000 in
theorem specCompare_2 (l : LsaM) (q : Bool) (lo hi : Nat) (A B : Option Addr) (n c m d : Nat) (k : LsaM) (q2 : Bool) (lo2 hi2 : Nat) (A2 B2 : Option Addr) (n2 c2 m2 d2 : Nat) (w : World) (hl : LsaAt q lo hi w A n B m l) (hn : n ≤ 1048576) (hm : m ≤ 1048576) (hk : LsaAt q2 lo2 hi2 w A2 n2 B2 m2 k) (hn2 : n2 ≤ 1048576) (hm2 : m2 ≤ 1048576) (h1 : faultOf l = 0) (h2 : ¬ faultOf k = 0) :
    Calls Try.prog 31 #[.agg (lsaCells l A B n c m d), .agg (lsaCells k A2 B2 n2 c2 m2 d2)] w fun e w' => e = .returned (.agg #[.int .i64 (pairC l k), .int .i64 (ordV l k)]) ∧ Below w.heap.size w w' := by
  have HB := Lib.hid (Below.refl w.heap.size w)
  have HL := hl.kept
  have Z0 := Lib.hid hl.le
  clear hl
  have HK := hk.kept
  have Z00 := Lib.hid hk.le
  clear hk
  have HO := Lib.hid (ordV_0 (a := l) (b := k) (by rw [pairC_2 h1 h2]; exact h2))
  obtain ⟨r, hr⟩ : ∃ r, faultOf k = r := ⟨_, rfl⟩
  have HC : Hid (pairC l k = r) := Lib.hid (by rw [← hr]; exact pairC_2 h1 h2)
  rw [hr] at h2
  have hne : (r != 0) = true := by rw [bne_iff_ne]; exact h2
  have HF := Lib.hid h1
  have HG := Lib.hid hr
  clear hr h1 h2
  go_enter Try.func31, Try.ntmps31
  go_wp2_with fail
  refine Calls.name ?_
  intro U1 hU1
  have hb : Below w.heap.size w U1 := by rw [hU1]; exact ((((Below.refl _ _).alloc (Nat.le_refl _) _).alloc (by simp <;> omega) _).alloc (by simp <;> omega) _)
  have zz : Hid (w.heap.size + 3 = U1.heap.size) := Lib.hid (by rw [hU1]; simp)
  have HX1 : Kept w.heap.size (w.heap.size + 1) (BoxK w.heap.size 29 #[.int .i64 l.age, .int .i64 l.options, .int .i64 l.typ, .int .i64 l.id, .int .i64 l.adv, .int .i64 l.seq, .slice A n c, .slice B m d, .int .i64 l.mask, .int .i64 l.cost]) U1 := by rw [hU1]; exact Kept.box (((Box.made_at _ _ _ rfl).over _).over _)
  have HX2 : Kept (w.heap.size + 1) (w.heap.size + 1 + 1) (BoxK (w.heap.size + 1) 29 #[.int .i64 k.age, .int .i64 k.options, .int .i64 k.typ, .int .i64 k.id, .int .i64 k.adv, .int .i64 k.seq, .slice A2 n2 c2, .slice B2 m2 d2, .int .i64 k.mask, .int .i64 k.cost]) U1 := by rw [hU1]; exact Kept.box ((Box.made_at _ _ _ (by simp <;> omega)).over _)
  have HX3 : Kept (w.heap.size + 1 + 1) (w.heap.size + 1 + 1 + 1) (BoxK (w.heap.size + 1 + 1) 49 #[.int .i64 0, .int .i64 0]) U1 := by rw [hU1]; exact Kept.box (Box.made_at _ _ _ (by simp <;> omega))
  replace HL := HL.below hb
  replace HK := HK.below hb
  replace HB := Lib.hid (below_step HB.out hb)
  clear hb
  have Z1 := zz; clear zz
  clear hU1
  refine (specFault_any l q lo hi A B n c m d _ HL.lsa.in_ HL.le hn hm).mono ?_
  rw [HF.out]
  rintro e w2 ⟨rfl, hb⟩
  have Z2 := Lib.hid hb.size
  replace HL := HL.below hb
  replace HK := HK.below hb
  replace HX1 := HX1.below hb
  replace HX2 := HX2.below hb
  replace HX3 := HX3.below hb
  replace HB := Lib.hid (below_step HB.out hb)
  clear hb
  have c2_0 := HX2.look 0
  have c2_1 := HX2.look 1
  have c2_2 := HX2.look 2
  have c2_3 := HX2.look 3
  have c2_4 := HX2.look 4
  have c2_5 := HX2.look 5
  have c2_6 := HX2.look 6
  have c2_7 := HX2.look 7
  have c2_8 := HX2.look 8
  have c2_9 := HX2.look 9
  have l2_0 := HX1.bx.lt
  have l2_1 := HX2.bx.lt
  have l2_2 := HX3.bx.lt
  go_wp2_with fail
  clear c2_0 c2_1 c2_2 c2_3 c2_4 c2_5 c2_6 c2_7 c2_8 c2_9 l2_0 l2_1 l2_2
  refine (specFault_any k q2 lo2 hi2 A2 B2 n2 c2 m2 d2 _ HK.lsa.in_ HK.le hn2 hm2).mono ?_
  rw [HG.out]
  rintro e w3 ⟨rfl, hb⟩
  have Z3 := Lib.hid hb.size
  replace HL := HL.below hb
  replace HK := HK.below hb
  replace HX1 := HX1.below hb
  replace HX2 := HX2.below hb
  replace HX3 := HX3.below hb
  replace HB := Lib.hid (below_step HB.out hb)
  clear hb
  have c3_0 := HX3.look 0
  have c3_1 := HX3.look 1
  have f3_0 := HX3.free 0
  have f3_1 := HX3.free 1
  have l3_0 := HX1.bx.lt
  have l3_1 := HX2.bx.lt
  have l3_2 := HX3.bx.lt
  go_wp2
  clear c3_0 c3_1 f3_0 f3_1 l3_0 l3_1 l3_2
  obtain ⟨U4, hU4⟩ : ∃ W : World, W = ((w3.setCell ⟨w.heap.size + 1 + 1, 0, none⟩ (.int .i64 r)).setCell ⟨w.heap.size + 1 + 1, 1, none⟩ (.int .i64 0)) := ⟨_, rfl⟩
  have ho : Only (w.heap.size + 1 + 1) (w.heap.size + 1 + 1 + 1) w3 U4 := by rw [hU4]; exact (((Only.refl _ _ _).set (p := ⟨w.heap.size + 1 + 1, 0, none⟩) (Nat.le_refl _) (Nat.lt_succ_self _) _).set (p := ⟨w.heap.size + 1 + 1, 1, none⟩) (Nat.le_refl _) (Nat.lt_succ_self _) _)
  replace HX3 : Kept (w.heap.size + 1 + 1) (w.heap.size + 1 + 1 + 1) (BoxK (w.heap.size + 1 + 1) 49 #[.int .i64 r, .int .i64 0]) U4 := by rw [hU4]; exact Kept.box ((HX3.bx.puts 0 (.int .i64 r) (cs' := #[.int .i64 r, .int .i64 0]) rfl).puts 1 (.int .i64 0) (cs' := #[.int .i64 r, .int .i64 0]) rfl)
  replace HL := HL.only ho (by have := Z0.out; have := Z00.out; have := Z1.out; have := Z2.out; have := Z3.out; omega)
  replace HK := HK.only ho (by have := Z0.out; have := Z00.out; have := Z1.out; have := Z2.out; have := Z3.out; omega)
  replace HX1 := HX1.only ho (by have := Z0.out; have := Z00.out; have := Z1.out; have := Z2.out; have := Z3.out; omega)
  replace HX2 := HX2.only ho (by have := Z0.out; have := Z00.out; have := Z1.out; have := Z2.out; have := Z3.out; omega)
  replace HB := Lib.hid (Below.only HB.out ho (by have := Z0.out; have := Z00.out; have := Z1.out; have := Z2.out; have := Z3.out; omega) HB.out.size)
  have Z4 := Lib.hid ho.size; clear ho
  have q_0 := HX3.look 0
  have q_1 := HX3.look 1
  subst hU4
  exact bodyPost_ret (v := .agg #[.int .i64 r, .int .i64 0]) (by simp [results, Try.results31, go_sem, q_0, q_1]) rfl ⟨by rw [HC.out, HO.out], HB.out⟩

set_option maxRecDepth 100000 in
set_option maxHeartbeats 3200000 in
theorem specCompare_3 (l : LsaM) (q : Bool) (lo hi : Nat) (A B : Option Addr) (n c m d : Nat) (k : LsaM) (q2 : Bool) (lo2 hi2 : Nat) (A2 B2 : Option Addr) (n2 c2 m2 d2 : Nat) (w : World) (hl : LsaAt q lo hi w A n B m l) (hn : n ≤ 1048576) (hm : m ≤ 1048576) (hk : LsaAt q2 lo2 hi2 w A2 n2 B2 m2 k) (hn2 : n2 ≤ 1048576) (hm2 : m2 ≤ 1048576) (h1 : faultOf l = 0) (h2 : faultOf k = 0) (h3 : keyB l.typ l.id l.adv k.typ k.id k.adv = false) :
    Calls Try.prog 31 #[.agg (lsaCells l A B n c m d), .agg (lsaCells k A2 B2 n2 c2 m2 d2)] w fun e w' => e = .returned (.agg #[.int .i64 (pairC l k), .int .i64 (ordV l k)]) ∧ Below w.heap.size w w' := by
  have HB := Lib.hid (Below.refl w.heap.size w)
  have HL := hl.kept
  have Z0 := Lib.hid hl.le
  clear hl
  have HK := hk.kept
  have Z00 := Lib.hid hk.le
  clear hk
  have HO := Lib.hid (ordV_0 (a := l) (b := k) (by rw [pairC_3 h1 h2 h3]; decide))
  have HC := Lib.hid (pairC_3 h1 h2 h3)
  have HF := Lib.hid h1
  have HG := Lib.hid h2
  clear h1 h2
  go_enter Try.func31, Try.ntmps31
  go_wp2_with fail
  refine Calls.name ?_
  intro U1 hU1
  have hb : Below w.heap.size w U1 := by rw [hU1]; exact ((((Below.refl _ _).alloc (Nat.le_refl _) _).alloc (by simp <;> omega) _).alloc (by simp <;> omega) _)
  have zz : Hid (w.heap.size + 3 = U1.heap.size) := Lib.hid (by rw [hU1]; simp)
  have HX1 : Kept w.heap.size (w.heap.size + 1) (BoxK w.heap.size 29 #[.int .i64 l.age, .int .i64 l.options, .int .i64 l.typ, .int .i64 l.id, .int .i64 l.adv, .int .i64 l.seq, .slice A n c, .slice B m d, .int .i64 l.mask, .int .i64 l.cost]) U1 := by rw [hU1]; exact Kept.box (((Box.made_at _ _ _ rfl).over _).over _)
  have HX2 : Kept (w.heap.size + 1) (w.heap.size + 1 + 1) (BoxK (w.heap.size + 1) 29 #[.int .i64 k.age, .int .i64 k.options, .int .i64 k.typ, .int .i64 k.id, .int .i64 k.adv, .int .i64 k.seq, .slice A2 n2 c2, .slice B2 m2 d2, .int .i64 k.mask, .int .i64 k.cost]) U1 := by rw [hU1]; exact Kept.box ((Box.made_at _ _ _ (by simp <;> omega)).over _)
  have HX3 : Kept (w.heap.size + 1 + 1) (w.heap.size + 1 + 1 + 1) (BoxK (w.heap.size + 1 + 1) 49 #[.int .i64 0, .int .i64 0]) U1 := by rw [hU1]; exact Kept.box (Box.made_at _ _ _ (by simp <;> omega))
  replace HL := HL.below hb
  replace HK := HK.below hb
  replace HB := Lib.hid (below_step HB.out hb)
  clear hb
  have Z1 := zz; clear zz
  clear hU1
  refine (specFault_any l q lo hi A B n c m d _ HL.lsa.in_ HL.le hn hm).mono ?_
  rw [HF.out]
  rintro e w2 ⟨rfl, hb⟩
  have Z2 := Lib.hid hb.size
  replace HL := HL.below hb
  replace HK := HK.below hb
  replace HX1 := HX1.below hb
  replace HX2 := HX2.below hb
  replace HX3 := HX3.below hb
  replace HB := Lib.hid (below_step HB.out hb)
  clear hb
  have c2_0 := HX2.look 0
  have c2_1 := HX2.look 1
  have c2_2 := HX2.look 2
  have c2_3 := HX2.look 3
  have c2_4 := HX2.look 4
  have c2_5 := HX2.look 5
  have c2_6 := HX2.look 6
  have c2_7 := HX2.look 7
  have c2_8 := HX2.look 8
  have c2_9 := HX2.look 9
  have l2_0 := HX1.bx.lt
  have l2_1 := HX2.bx.lt
  have l2_2 := HX3.bx.lt
  go_wp2_with fail
  clear c2_0 c2_1 c2_2 c2_3 c2_4 c2_5 c2_6 c2_7 c2_8 c2_9 l2_0 l2_1 l2_2
  refine (specFault_any k q2 lo2 hi2 A2 B2 n2 c2 m2 d2 _ HK.lsa.in_ HK.le hn2 hm2).mono ?_
  rw [HG.out]
  rintro e w3 ⟨rfl, hb⟩
  have Z3 := Lib.hid hb.size
  replace HL := HL.below hb
  replace HK := HK.below hb
  replace HX1 := HX1.below hb
  replace HX2 := HX2.below hb
  replace HX3 := HX3.below hb
  replace HB := Lib.hid (below_step HB.out hb)
  clear hb
  have c3_0 := HX1.look 2
  have c3_1 := HX1.look 3
  have c3_2 := HX1.look 4
  have c3_3 := HX2.look 2
  have c3_4 := HX2.look 3
  have c3_5 := HX2.look 4
  have c3_6 := HX3.look 0
  have c3_7 := HX3.look 1
  have f3_0 := HX3.free 0
  have f3_1 := HX3.free 1
  have l3_0 := HX1.bx.lt
  have l3_1 := HX2.bx.lt
  have l3_2 := HX3.bx.lt
  have n3_0_0 : ¬ (w.heap.size + 1 + 1) = w.heap.size := (by have := Z0.out; have := Z00.out; have := Z1.out; have := Z2.out; have := Z3.out; omega)
  have m3_0_0 : ¬ w.heap.size = (w.heap.size + 1 + 1) := (by have := Z0.out; have := Z00.out; have := Z1.out; have := Z2.out; have := Z3.out; omega)
  have n3_0_1 : ¬ (w.heap.size + 1 + 1) = (w.heap.size + 1) := (by have := Z0.out; have := Z00.out; have := Z1.out; have := Z2.out; have := Z3.out; omega)
  have m3_0_1 : ¬ (w.heap.size + 1) = (w.heap.size + 1 + 1) := (by have := Z0.out; have := Z00.out; have := Z1.out; have := Z2.out; have := Z3.out; omega)
  go_wp2
  clear c3_0 c3_1 c3_2 c3_3 c3_4 c3_5 c3_6 c3_7 f3_0 f3_1 l3_0 l3_1 l3_2 n3_0_0 m3_0_0 n3_0_1 m3_0_1
  obtain ⟨U4, hU4⟩ : ∃ W : World, W = ((w3.setCell ⟨w.heap.size + 1 + 1, 0, none⟩ (.int .i64 8)).setCell ⟨w.heap.size + 1 + 1, 1, none⟩ (.int .i64 0)) := ⟨_, rfl⟩
  have ho : Only (w.heap.size + 1 + 1) (w.heap.size + 1 + 1 + 1) w3 U4 := by rw [hU4]; exact (((Only.refl _ _ _).set (p := ⟨w.heap.size + 1 + 1, 0, none⟩) (Nat.le_refl _) (Nat.lt_succ_self _) _).set (p := ⟨w.heap.size + 1 + 1, 1, none⟩) (Nat.le_refl _) (Nat.lt_succ_self _) _)
  replace HX3 : Kept (w.heap.size + 1 + 1) (w.heap.size + 1 + 1 + 1) (BoxK (w.heap.size + 1 + 1) 49 #[.int .i64 8, .int .i64 0]) U4 := by rw [hU4]; exact Kept.box ((HX3.bx.puts 0 (.int .i64 8) (cs' := #[.int .i64 8, .int .i64 0]) rfl).puts 1 (.int .i64 0) (cs' := #[.int .i64 8, .int .i64 0]) rfl)
  replace HL := HL.only ho (by have := Z0.out; have := Z00.out; have := Z1.out; have := Z2.out; have := Z3.out; omega)
  replace HK := HK.only ho (by have := Z0.out; have := Z00.out; have := Z1.out; have := Z2.out; have := Z3.out; omega)
  replace HX1 := HX1.only ho (by have := Z0.out; have := Z00.out; have := Z1.out; have := Z2.out; have := Z3.out; omega)
  replace HX2 := HX2.only ho (by have := Z0.out; have := Z00.out; have := Z1.out; have := Z2.out; have := Z3.out; omega)
  replace HB := Lib.hid (Below.only HB.out ho (by have := Z0.out; have := Z00.out; have := Z1.out; have := Z2.out; have := Z3.out; omega) HB.out.size)
  have Z4 := Lib.hid ho.size; clear ho
  have q_0 := HX3.look 0
  have q_1 := HX3.look 1
  subst hU4
  exact bodyPost_ret (v := .agg #[.int .i64 8, .int .i64 0]) (by simp [results, Try.results31, go_sem, q_0, q_1]) rfl ⟨by rw [HC.out, HO.out], HB.out⟩

set_option maxRecDepth 100000 in
set_option maxHeartbeats 3200000 in
theorem specCompare_4 (l : LsaM) (q : Bool) (lo hi : Nat) (A B : Option Addr) (n c m d : Nat) (k : LsaM) (q2 : Bool) (lo2 hi2 : Nat) (A2 B2 : Option Addr) (n2 c2 m2 d2 : Nat) (w : World) (hl : LsaAt q lo hi w A n B m l) (hn : n ≤ 1048576) (hm : m ≤ 1048576) (hk : LsaAt q2 lo2 hi2 w A2 n2 B2 m2 k) (hn2 : n2 ≤ 1048576) (hm2 : m2 ≤ 1048576) (h1 : faultOf l = 0) (h2 : faultOf k = 0) (h3 : ¬ keyB l.typ l.id l.adv k.typ k.id k.adv = false) :
    Calls Try.prog 31 #[.agg (lsaCells l A B n c m d), .agg (lsaCells k A2 B2 n2 c2 m2 d2)] w fun e w' => e = .returned (.agg #[.int .i64 (pairC l k), .int .i64 (ordV l k)]) ∧ Below w.heap.size w w' := by
  have HB := Lib.hid (Below.refl w.heap.size w)
  have HL := hl.kept
  have Z0 := Lib.hid hl.le
  clear hl
  have HK := hk.kept
  have Z00 := Lib.hid hk.le
  clear hk
  obtain ⟨v, hv⟩ : ∃ z, ordV l k = z := ⟨_, rfl⟩
  have HO := Lib.hid hv; clear hv
  have HC := Lib.hid (pairC_4 h1 h2 h3)
  have HF := Lib.hid h1
  have HG := Lib.hid h2
  have hk1 : keyB l.typ l.id l.adv k.typ k.id k.adv = true := by simpa using h3
  clear h1 h2 h3
  go_enter Try.func31, Try.ntmps31
  go_wp2_with fail
  refine Calls.name ?_
  intro U1 hU1
  have hb : Below w.heap.size w U1 := by rw [hU1]; exact ((((Below.refl _ _).alloc (Nat.le_refl _) _).alloc (by simp <;> omega) _).alloc (by simp <;> omega) _)
  have zz : Hid (w.heap.size + 3 = U1.heap.size) := Lib.hid (by rw [hU1]; simp)
  have HX1 : Kept w.heap.size (w.heap.size + 1) (BoxK w.heap.size 29 #[.int .i64 l.age, .int .i64 l.options, .int .i64 l.typ, .int .i64 l.id, .int .i64 l.adv, .int .i64 l.seq, .slice A n c, .slice B m d, .int .i64 l.mask, .int .i64 l.cost]) U1 := by rw [hU1]; exact Kept.box (((Box.made_at _ _ _ rfl).over _).over _)
  have HX2 : Kept (w.heap.size + 1) (w.heap.size + 1 + 1) (BoxK (w.heap.size + 1) 29 #[.int .i64 k.age, .int .i64 k.options, .int .i64 k.typ, .int .i64 k.id, .int .i64 k.adv, .int .i64 k.seq, .slice A2 n2 c2, .slice B2 m2 d2, .int .i64 k.mask, .int .i64 k.cost]) U1 := by rw [hU1]; exact Kept.box ((Box.made_at _ _ _ (by simp <;> omega)).over _)
  have HX3 : Kept (w.heap.size + 1 + 1) (w.heap.size + 1 + 1 + 1) (BoxK (w.heap.size + 1 + 1) 49 #[.int .i64 0, .int .i64 0]) U1 := by rw [hU1]; exact Kept.box (Box.made_at _ _ _ (by simp <;> omega))
  replace HL := HL.below hb
  replace HK := HK.below hb
  replace HB := Lib.hid (below_step HB.out hb)
  clear hb
  have Z1 := zz; clear zz
  clear hU1
  refine (specFault_any l q lo hi A B n c m d _ HL.lsa.in_ HL.le hn hm).mono ?_
  rw [HF.out]
  rintro e w2 ⟨rfl, hb⟩
  have Z2 := Lib.hid hb.size
  replace HL := HL.below hb
  replace HK := HK.below hb
  replace HX1 := HX1.below hb
  replace HX2 := HX2.below hb
  replace HX3 := HX3.below hb
  replace HB := Lib.hid (below_step HB.out hb)
  clear hb
  have c2_0 := HX2.look 0
  have c2_1 := HX2.look 1
  have c2_2 := HX2.look 2
  have c2_3 := HX2.look 3
  have c2_4 := HX2.look 4
  have c2_5 := HX2.look 5
  have c2_6 := HX2.look 6
  have c2_7 := HX2.look 7
  have c2_8 := HX2.look 8
  have c2_9 := HX2.look 9
  have l2_0 := HX1.bx.lt
  have l2_1 := HX2.bx.lt
  have l2_2 := HX3.bx.lt
  go_wp2_with fail
  clear c2_0 c2_1 c2_2 c2_3 c2_4 c2_5 c2_6 c2_7 c2_8 c2_9 l2_0 l2_1 l2_2
  refine (specFault_any k q2 lo2 hi2 A2 B2 n2 c2 m2 d2 _ HK.lsa.in_ HK.le hn2 hm2).mono ?_
  rw [HG.out]
  rintro e w3 ⟨rfl, hb⟩
  have Z3 := Lib.hid hb.size
  replace HL := HL.below hb
  replace HK := HK.below hb
  replace HX1 := HX1.below hb
  replace HX2 := HX2.below hb
  replace HX3 := HX3.below hb
  replace HB := Lib.hid (below_step HB.out hb)
  clear hb
  have c3_0 := HX1.look 2
  have c3_1 := HX1.look 3
  have c3_2 := HX1.look 4
  have c3_3 := HX2.look 2
  have c3_4 := HX2.look 3
  have c3_5 := HX2.look 4
  have l3_0 := HX1.bx.lt
  have l3_1 := HX2.bx.lt
  have l3_2 := HX3.bx.lt
  go_wp2_with fail
  clear c3_0 c3_1 c3_2 c3_3 c3_4 c3_5 l3_0 l3_1 l3_2
  refine (l3Compare_any l q lo hi A B n c m d k q2 lo2 hi2 A2 B2 n2 c2 m2 d2 _ _ _ HX1.bx HL.lsa HX2.bx HK.lsa HC.out).mono ?_
  rw [HO.out]
  rintro e w4 ⟨rfl, hb⟩
  have Z4 := Lib.hid hb.size
  replace HL := HL.below hb
  replace HK := HK.below hb
  replace HX1 := HX1.below hb
  replace HX2 := HX2.below hb
  replace HX3 := HX3.below hb
  replace HB := Lib.hid (below_step HB.out hb)
  clear hb
  have c4_0 := HX3.look 0
  have c4_1 := HX3.look 1
  have f4_0 := HX3.free 0
  have f4_1 := HX3.free 1
  have l4_0 := HX1.bx.lt
  have l4_1 := HX2.bx.lt
  have l4_2 := HX3.bx.lt
  go_wp2
  clear c4_0 c4_1 f4_0 f4_1 l4_0 l4_1 l4_2
  obtain ⟨U5, hU5⟩ : ∃ W : World, W = ((w4.setCell ⟨w.heap.size + 1 + 1, 0, none⟩ (.int .i64 0)).setCell ⟨w.heap.size + 1 + 1, 1, none⟩ (.int .i64 v)) := ⟨_, rfl⟩
  have ho : Only (w.heap.size + 1 + 1) (w.heap.size + 1 + 1 + 1) w4 U5 := by rw [hU5]; exact (((Only.refl _ _ _).set (p := ⟨w.heap.size + 1 + 1, 0, none⟩) (Nat.le_refl _) (Nat.lt_succ_self _) _).set (p := ⟨w.heap.size + 1 + 1, 1, none⟩) (Nat.le_refl _) (Nat.lt_succ_self _) _)
  replace HX3 : Kept (w.heap.size + 1 + 1) (w.heap.size + 1 + 1 + 1) (BoxK (w.heap.size + 1 + 1) 49 #[.int .i64 0, .int .i64 v]) U5 := by rw [hU5]; exact Kept.box ((HX3.bx.puts 0 (.int .i64 0) (cs' := #[.int .i64 0, .int .i64 0]) rfl).puts 1 (.int .i64 v) (cs' := #[.int .i64 0, .int .i64 v]) rfl)
  replace HL := HL.only ho (by have := Z0.out; have := Z00.out; have := Z1.out; have := Z2.out; have := Z3.out; have := Z4.out; omega)
  replace HK := HK.only ho (by have := Z0.out; have := Z00.out; have := Z1.out; have := Z2.out; have := Z3.out; have := Z4.out; omega)
  replace HX1 := HX1.only ho (by have := Z0.out; have := Z00.out; have := Z1.out; have := Z2.out; have := Z3.out; have := Z4.out; omega)
  replace HX2 := HX2.only ho (by have := Z0.out; have := Z00.out; have := Z1.out; have := Z2.out; have := Z3.out; have := Z4.out; omega)
  replace HB := Lib.hid (Below.only HB.out ho (by have := Z0.out; have := Z00.out; have := Z1.out; have := Z2.out; have := Z3.out; have := Z4.out; omega) HB.out.size)
  have Z5 := Lib.hid ho.size; clear ho
  have q_0 := HX3.look 0
  have q_1 := HX3.look 1
  subst hU5
  exact bodyPost_ret (v := .agg #[.int .i64 0, .int .i64 v]) (by simp [results, Try.results31, go_sem, q_0, q_1]) rfl ⟨by rw [HC.out, HO.out], HB.out⟩

theorem specCompare_any (l : LsaM) (q : Bool) (lo hi : Nat) (A B : Option Addr) (n c m d : Nat) (k : LsaM) (q2 : Bool) (lo2 hi2 : Nat) (A2 B2 : Option Addr) (n2 c2 m2 d2 : Nat) (w : World) (hl : LsaAt q lo hi w A n B m l) (hn : n ≤ 1048576) (hm : m ≤ 1048576) (hk : LsaAt q2 lo2 hi2 w A2 n2 B2 m2 k) (hn2 : n2 ≤ 1048576) (hm2 : m2 ≤ 1048576) :
    Calls Try.prog 31 #[.agg (lsaCells l A B n c m d), .agg (lsaCells k A2 B2 n2 c2 m2 d2)] w fun e w' => e = .returned (.agg #[.int .i64 (pairC l k), .int .i64 (ordV l k)]) ∧ Below w.heap.size w w' := by
  by_cases h1 : faultOf l = 0
  · by_cases h2 : faultOf k = 0
    · by_cases h3 : keyB l.typ l.id l.adv k.typ k.id k.adv = false
      · exact specCompare_3 l q lo hi A B n c m d k q2 lo2 hi2 A2 B2 n2 c2 m2 d2 w hl hn hm hk hn2 hm2 h1 h2 h3
      · exact specCompare_4 l q lo hi A B n c m d k q2 lo2 hi2 A2 B2 n2 c2 m2 d2 w hl hn hm hk hn2 hm2 h1 h2 h3
    · exact specCompare_2 l q lo hi A B n c m d k q2 lo2 hi2 A2 B2 n2 c2 m2 d2 w hl hn hm hk hn2 hm2 h1 h2
  · exact specCompare_1 l q lo hi A B n c m d k q2 lo2 hi2 A2 B2 n2 c2 m2 d2 w hl hn hm hk hn2 hm2 h1

/-- Is the first one newer. -/
def newB (l k : LsaM) : Bool := decide (pairC l k = 0) && decide (ordV l k = 1)
theorem eql_ord (a b : Int) (W : World) : (binOp .eql 49 (.agg #[.int .i64 a, .int .i64 b]) (.agg #[.int .i64 0, .int .i64 1])).run Try.prog W = .ok (.bool (decide (a = 0) && decide (b = 1))) W := by
  by_cases h1 : a = 0 <;> by_cases h2 : b = 1 <;> simp [go_sem, h1, h2]
attribute [local go_sem high] eql_ord

set_option maxRecDepth 100000 in
set_option maxHeartbeats 3200000 in
theorem isNewer_any (l : LsaM) (q : Bool) (lo hi : Nat) (A B : Option Addr) (n c m d : Nat) (k : LsaM) (q2 : Bool) (lo2 hi2 : Nat) (A2 B2 : Option Addr) (n2 c2 m2 d2 : Nat) (w : World) (hl : LsaAt q lo hi w A n B m l) (hn : n ≤ 1048576) (hm : m ≤ 1048576) (hk : LsaAt q2 lo2 hi2 w A2 n2 B2 m2 k) (hn2 : n2 ≤ 1048576) (hm2 : m2 ≤ 1048576) :
    Calls Try.prog 32 #[.agg (lsaCells l A B n c m d), .agg (lsaCells k A2 B2 n2 c2 m2 d2)] w fun e w' => e = .returned (.bool (newB l k)) ∧ Below w.heap.size w w' := by
  have HB := Lib.hid (Below.refl w.heap.size w)
  have HL := hl.kept
  have Z0 := Lib.hid hl.le
  clear hl
  have HK := hk.kept
  have Z00 := Lib.hid hk.le
  clear hk
  obtain ⟨p, hp⟩ : ∃ z, pairC l k = z := ⟨_, rfl⟩
  obtain ⟨v, hv⟩ : ∃ z, ordV l k = z := ⟨_, rfl⟩
  have HN : Hid (newB l k = (decide (p = 0) && decide (v = 1))) := Lib.hid (by unfold newB; rw [hp, hv])
  have HP := Lib.hid hp
  have HV := Lib.hid hv
  clear hp hv
  go_enter Try.func32, Try.ntmps32
  go_wp2_with fail
  refine Calls.name ?_
  intro U1 hU1
  have hb : Below w.heap.size w U1 := by rw [hU1]; exact (((Below.refl _ _).alloc (Nat.le_refl _) _).alloc (by simp <;> omega) _)
  have zz : Hid (w.heap.size + 2 = U1.heap.size) := Lib.hid (by rw [hU1]; simp)
  have HX1 : Kept w.heap.size (w.heap.size + 1) (BoxK w.heap.size 29 #[.int .i64 l.age, .int .i64 l.options, .int .i64 l.typ, .int .i64 l.id, .int .i64 l.adv, .int .i64 l.seq, .slice A n c, .slice B m d, .int .i64 l.mask, .int .i64 l.cost]) U1 := by rw [hU1]; exact Kept.box ((Box.made_at _ _ _ rfl).over _)
  have HX2 : Kept (w.heap.size + 1) (w.heap.size + 1 + 1) (BoxK (w.heap.size + 1) 29 #[.int .i64 k.age, .int .i64 k.options, .int .i64 k.typ, .int .i64 k.id, .int .i64 k.adv, .int .i64 k.seq, .slice A2 n2 c2, .slice B2 m2 d2, .int .i64 k.mask, .int .i64 k.cost]) U1 := by rw [hU1]; exact Kept.box (Box.made_at _ _ _ (by simp <;> omega))
  replace HL := HL.below hb
  replace HK := HK.below hb
  replace HB := Lib.hid (below_step HB.out hb)
  clear hb
  have Z1 := zz; clear zz
  clear hU1
  refine (compareLsas_any l q lo hi A B n c m d k q2 lo2 hi2 A2 B2 n2 c2 m2 d2 _ HL.lsa hn hm HK.lsa hn2 hm2).mono ?_
  rw [HP.out, HV.out]
  rintro e w2 ⟨rfl, hb⟩
  have Z2 := Lib.hid hb.size
  replace HL := HL.below hb
  replace HK := HK.below hb
  replace HX1 := HX1.below hb
  replace HX2 := HX2.below hb
  replace HB := Lib.hid (below_step HB.out hb)
  clear hb
  have l2_0 := HX1.bx.lt
  have l2_1 := HX2.bx.lt
  go_wp2
  clear l2_0 l2_1
  go_ret
  exact ⟨ret_bool (by first | rw [HN.out] | (rw [HN.out]; rfl)), HB.out⟩

set_option maxRecDepth 100000 in
set_option maxHeartbeats 3200000 in
theorem specIsNewer_0 (l : LsaM) (q : Bool) (lo hi : Nat) (A B : Option Addr) (n c m d : Nat) (k : LsaM) (q2 : Bool) (lo2 hi2 : Nat) (A2 B2 : Option Addr) (n2 c2 m2 d2 : Nat) (w : World) (hl : LsaAt q lo hi w A n B m l) (hn : n ≤ 1048576) (hm : m ≤ 1048576) (hk : LsaAt q2 lo2 hi2 w A2 n2 B2 m2 k) (hn2 : n2 ≤ 1048576) (hm2 : m2 ≤ 1048576) (hp : ¬ pairC l k = 0) :
    Calls Try.prog 50 #[.agg (lsaCells l A B n c m d), .agg (lsaCells k A2 B2 n2 c2 m2 d2)] w fun e w' => e = .returned (.bool (newB l k)) ∧ Below w.heap.size w w' := by
  have HB := Lib.hid (Below.refl w.heap.size w)
  have HL := hl.kept
  have Z0 := Lib.hid hl.le
  clear hl
  have HK := hk.kept
  have Z00 := Lib.hid hk.le
  clear hk
  obtain ⟨v, hv⟩ : ∃ z, ordV l k = z := ⟨_, rfl⟩
  have HN : Hid (newB l k = false) := Lib.hid (by unfold newB; rw [decide_eq_false hp]; rfl)
  obtain ⟨p, hq⟩ : ∃ z, pairC l k = z := ⟨_, rfl⟩
  rw [hq] at hp
  have hb1 : (p == 0) = false := by simpa using hp
  have HP := Lib.hid hq
  have HV := Lib.hid hv
  clear hp hq hv
  go_enter Try.func50, Try.ntmps50
  go_wp2_with fail
  refine Calls.name ?_
  intro U1 hU1
  have hb : Below w.heap.size w U1 := by rw [hU1]; exact (((Below.refl _ _).alloc (Nat.le_refl _) _).alloc (by simp <;> omega) _)
  have zz : Hid (w.heap.size + 2 = U1.heap.size) := Lib.hid (by rw [hU1]; simp)
  have HX1 : Kept w.heap.size (w.heap.size + 1) (BoxK w.heap.size 29 #[.int .i64 l.age, .int .i64 l.options, .int .i64 l.typ, .int .i64 l.id, .int .i64 l.adv, .int .i64 l.seq, .slice A n c, .slice B m d, .int .i64 l.mask, .int .i64 l.cost]) U1 := by rw [hU1]; exact Kept.box ((Box.made_at _ _ _ rfl).over _)
  have HX2 : Kept (w.heap.size + 1) (w.heap.size + 1 + 1) (BoxK (w.heap.size + 1) 29 #[.int .i64 k.age, .int .i64 k.options, .int .i64 k.typ, .int .i64 k.id, .int .i64 k.adv, .int .i64 k.seq, .slice A2 n2 c2, .slice B2 m2 d2, .int .i64 k.mask, .int .i64 k.cost]) U1 := by rw [hU1]; exact Kept.box (Box.made_at _ _ _ (by simp <;> omega))
  replace HL := HL.below hb
  replace HK := HK.below hb
  replace HB := Lib.hid (below_step HB.out hb)
  clear hb
  have Z1 := zz; clear zz
  clear hU1
  refine (specCompare_any l q lo hi A B n c m d k q2 lo2 hi2 A2 B2 n2 c2 m2 d2 _ HL.lsa hn hm HK.lsa hn2 hm2).mono ?_
  rw [HP.out, HV.out]
  rintro e w2 ⟨rfl, hb⟩
  have Z2 := Lib.hid hb.size
  replace HL := HL.below hb
  replace HK := HK.below hb
  replace HX1 := HX1.below hb
  replace HX2 := HX2.below hb
  replace HB := Lib.hid (below_step HB.out hb)
  clear hb
  have l2_0 := HX1.bx.lt
  have l2_1 := HX2.bx.lt
  go_wp2
  clear l2_0 l2_1
  obtain ⟨U3, hU3⟩ : ∃ W : World, W = (w2.alloc (.cells #[.int .i64 p, .int .i64 v] 49)) := ⟨_, rfl⟩
  have hb : Below w2.heap.size w2 U3 := by rw [hU3]; exact ((Below.refl _ _).alloc (Nat.le_refl _) _)
  have zz : Hid (w2.heap.size + 1 = U3.heap.size) := Lib.hid (by rw [hU3]; simp)
  have HX3 : Kept w2.heap.size (w2.heap.size + 1) (BoxK w2.heap.size 49 #[.int .i64 p, .int .i64 v]) U3 := by rw [hU3]; exact Kept.box (Box.made_at _ _ _ rfl)
  replace HL := HL.below hb
  replace HK := HK.below hb
  replace HX1 := HX1.below hb
  replace HX2 := HX2.below hb
  replace HB := Lib.hid (below_step HB.out hb)
  clear hb
  have Z3 := zz; clear zz
  subst hU3
  go_ret
  exact ⟨ret_bool (by first | rw [HN.out] | (rw [HN.out]; rfl)), HB.out⟩

set_option maxRecDepth 100000 in
set_option maxHeartbeats 3200000 in
theorem specIsNewer_1 (l : LsaM) (q : Bool) (lo hi : Nat) (A B : Option Addr) (n c m d : Nat) (k : LsaM) (q2 : Bool) (lo2 hi2 : Nat) (A2 B2 : Option Addr) (n2 c2 m2 d2 : Nat) (w : World) (hl : LsaAt q lo hi w A n B m l) (hn : n ≤ 1048576) (hm : m ≤ 1048576) (hk : LsaAt q2 lo2 hi2 w A2 n2 B2 m2 k) (hn2 : n2 ≤ 1048576) (hm2 : m2 ≤ 1048576) (hp : pairC l k = 0) :
    Calls Try.prog 50 #[.agg (lsaCells l A B n c m d), .agg (lsaCells k A2 B2 n2 c2 m2 d2)] w fun e w' => e = .returned (.bool (newB l k)) ∧ Below w.heap.size w w' := by
  have HB := Lib.hid (Below.refl w.heap.size w)
  have HL := hl.kept
  have Z0 := Lib.hid hl.le
  clear hl
  have HK := hk.kept
  have Z00 := Lib.hid hk.le
  clear hk
  obtain ⟨v, hv⟩ : ∃ z, ordV l k = z := ⟨_, rfl⟩
  have HN : Hid (newB l k = (v == 1)) := Lib.hid (by unfold newB; rw [decide_eq_true hp, hv, Bool.eq_iff_iff]; simp)
  have HP := Lib.hid hp
  have HV := Lib.hid hv
  clear hp hv
  go_enter Try.func50, Try.ntmps50
  go_wp2_with fail
  refine Calls.name ?_
  intro U1 hU1
  have hb : Below w.heap.size w U1 := by rw [hU1]; exact (((Below.refl _ _).alloc (Nat.le_refl _) _).alloc (by simp <;> omega) _)
  have zz : Hid (w.heap.size + 2 = U1.heap.size) := Lib.hid (by rw [hU1]; simp)
  have HX1 : Kept w.heap.size (w.heap.size + 1) (BoxK w.heap.size 29 #[.int .i64 l.age, .int .i64 l.options, .int .i64 l.typ, .int .i64 l.id, .int .i64 l.adv, .int .i64 l.seq, .slice A n c, .slice B m d, .int .i64 l.mask, .int .i64 l.cost]) U1 := by rw [hU1]; exact Kept.box ((Box.made_at _ _ _ rfl).over _)
  have HX2 : Kept (w.heap.size + 1) (w.heap.size + 1 + 1) (BoxK (w.heap.size + 1) 29 #[.int .i64 k.age, .int .i64 k.options, .int .i64 k.typ, .int .i64 k.id, .int .i64 k.adv, .int .i64 k.seq, .slice A2 n2 c2, .slice B2 m2 d2, .int .i64 k.mask, .int .i64 k.cost]) U1 := by rw [hU1]; exact Kept.box (Box.made_at _ _ _ (by simp <;> omega))
  replace HL := HL.below hb
  replace HK := HK.below hb
  replace HB := Lib.hid (below_step HB.out hb)
  clear hb
  have Z1 := zz; clear zz
  clear hU1
  refine (specCompare_any l q lo hi A B n c m d k q2 lo2 hi2 A2 B2 n2 c2 m2 d2 _ HL.lsa hn hm HK.lsa hn2 hm2).mono ?_
  rw [HP.out, HV.out]
  rintro e w2 ⟨rfl, hb⟩
  have Z2 := Lib.hid hb.size
  replace HL := HL.below hb
  replace HK := HK.below hb
  replace HX1 := HX1.below hb
  replace HX2 := HX2.below hb
  replace HB := Lib.hid (below_step HB.out hb)
  clear hb
  have l2_0 := HX1.bx.lt
  have l2_1 := HX2.bx.lt
  go_wp2
  clear l2_0 l2_1
  obtain ⟨U3, hU3⟩ : ∃ W : World, W = (w2.alloc (.cells #[.int .i64 0, .int .i64 v] 49)) := ⟨_, rfl⟩
  have hb : Below w2.heap.size w2 U3 := by rw [hU3]; exact ((Below.refl _ _).alloc (Nat.le_refl _) _)
  have zz : Hid (w2.heap.size + 1 = U3.heap.size) := Lib.hid (by rw [hU3]; simp)
  have HX3 : Kept w2.heap.size (w2.heap.size + 1) (BoxK w2.heap.size 49 #[.int .i64 0, .int .i64 v]) U3 := by rw [hU3]; exact Kept.box (Box.made_at _ _ _ rfl)
  replace HL := HL.below hb
  replace HK := HK.below hb
  replace HX1 := HX1.below hb
  replace HX2 := HX2.below hb
  replace HB := Lib.hid (below_step HB.out hb)
  clear hb
  have Z3 := zz; clear zz
  subst hU3
  go_ret
  exact ⟨ret_bool (by first | rw [HN.out] | (rw [HN.out]; rfl)), HB.out⟩

theorem specIsNewer_any (l : LsaM) (q : Bool) (lo hi : Nat) (A B : Option Addr) (n c m d : Nat) (k : LsaM) (q2 : Bool) (lo2 hi2 : Nat) (A2 B2 : Option Addr) (n2 c2 m2 d2 : Nat) (w : World) (hl : LsaAt q lo hi w A n B m l) (hn : n ≤ 1048576) (hm : m ≤ 1048576) (hk : LsaAt q2 lo2 hi2 w A2 n2 B2 m2 k) (hn2 : n2 ≤ 1048576) (hm2 : m2 ≤ 1048576) :
    Calls Try.prog 50 #[.agg (lsaCells l A B n c m d), .agg (lsaCells k A2 B2 n2 c2 m2 d2)] w fun e w' => e = .returned (.bool (newB l k)) ∧ Below w.heap.size w w' := by
  by_cases hp : pairC l k = 0
  · exact specIsNewer_1 l q lo hi A B n c m d k q2 lo2 hi2 A2 B2 n2 c2 m2 d2 w hl hn hm hk hn2 hm2 hp
  · exact specIsNewer_0 l q lo hi A B n c m d k q2 lo2 hi2 A2 B2 n2 c2 m2 d2 w hl hn hm hk hn2 hm2 hp

theorem eqOrderResult_yes (code v : Int) (w : World) :
    Calls Try.prog 48 #[.agg #[.int .i64 code, .int .i64 v], .agg #[.int .i64 code, .int .i64 v]] w fun e w' => e = .returned (.bool true) ∧ Below w.heap.size w w' := by
  go_enter Try.func48, Try.ntmps48
  go_wp2
  go_ret
  exact ⟨rfl, ((Below.refl _ _).alloc (Nat.le_refl _) _).alloc (by simp) _⟩


end Go.Proofs.Ytamclkjofojhmaa
