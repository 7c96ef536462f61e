/-
  What CompareLsas and IsNewer answer: the pair's fault. No statement is proved here.
-/
import Derived.Test.YtamclkjofojhmaaCmp
namespace Go.Proofs.Ytamclkjofojhmaa
open Go.RowKit
set_option linter.unusedVariables false

attribute [local go_sem high] neq_key eql_key

set_option maxRecDepth 100000 in
set_option maxHeartbeats 3200000 in
theorem pairFault_1 (l : LsaM) (q : Bool) (lo hi : Nat) (A B : Option Addr) (n c m d : Nat) (k : LsaM) (q2 : Bool) (lo2 hi2 : Nat) (A2 B2 : Option Addr) (n2 c2 m2 d2 : Nat) (w : World) (hl : LsaAt q lo hi w A n B m l) (hn : n ≤ 1048576) (hm : m ≤ 1048576) (hk : LsaAt q2 lo2 hi2 w A2 n2 B2 m2 k) (hn2 : n2 ≤ 1048576) (hm2 : m2 ≤ 1048576) (h1 : ¬ faultOf l = 0) :
    Calls Try.prog 88 #[.agg (lsaCells l A B n c m d), .agg (lsaCells k A2 B2 n2 c2 m2 d2)] w fun e w' => e = .returned (.int .i64 (pairC l k)) ∧ Below w.heap.size w w' := by
  have HB := Lib.hid (Below.refl w.heap.size w)
  have HL := hl.kept
  have Z0 := Lib.hid hl.le
  clear hl
  have HK := hk.kept
  have Z00 := Lib.hid hk.le
  clear hk
  obtain ⟨r, hr⟩ : ∃ r, faultOf l = r := ⟨_, rfl⟩
  have HC : Hid (pairC l k = r) := Lib.hid (by rw [← hr]; exact pairC_1 h1)
  rw [hr] at h1
  have hne : (r != 0) = true := by rw [bne_iff_ne]; exact h1
  have HF := Lib.hid hr
  clear hr h1
  go_enter Try.func88, Try.ntmps88
  go_wp2_with fail
  refine Calls.name ?_
  intro U1 hU1
  have hb : Below w.heap.size w U1 := by rw [hU1]; exact (((Below.refl _ _).alloc (Nat.le_refl _) _).alloc (by simp <;> omega) _)
  have zz : Hid (w.heap.size + 2 = U1.heap.size) := Lib.hid (by rw [hU1]; simp)
  have HX1 : Kept w.heap.size (w.heap.size + 1) (BoxK w.heap.size 29 #[.int .i64 l.age, .int .i64 l.options, .int .i64 l.typ, .int .i64 l.id, .int .i64 l.adv, .int .i64 l.seq, .slice A n c, .slice B m d, .int .i64 l.mask, .int .i64 l.cost]) U1 := by rw [hU1]; exact Kept.box ((Box.made_at _ _ _ rfl).over _)
  have HX2 : Kept (w.heap.size + 1) (w.heap.size + 1 + 1) (BoxK (w.heap.size + 1) 29 #[.int .i64 k.age, .int .i64 k.options, .int .i64 k.typ, .int .i64 k.id, .int .i64 k.adv, .int .i64 k.seq, .slice A2 n2 c2, .slice B2 m2 d2, .int .i64 k.mask, .int .i64 k.cost]) U1 := by rw [hU1]; exact Kept.box (Box.made_at _ _ _ (by simp <;> omega))
  replace HL := HL.below hb
  replace HK := HK.below hb
  replace HB := Lib.hid (below_step HB.out hb)
  clear hb
  have Z1 := zz; clear zz
  clear hU1
  refine (lsaFault_any l q lo hi A B n c m d _ HL.lsa hn hm).mono ?_
  rw [HF.out]
  rintro e w2 ⟨rfl, hb⟩
  have Z2 := Lib.hid hb.size
  replace HL := HL.below hb
  replace HK := HK.below hb
  replace HX1 := HX1.below hb
  replace HX2 := HX2.below hb
  replace HB := Lib.hid (below_step HB.out hb)
  clear hb
  have l2_0 := HX1.bx.lt
  have l2_1 := HX2.bx.lt
  go_wp2
  clear l2_0 l2_1
  go_ret
  exact ⟨by rw [HC.out]; rfl, HB.out⟩

set_option maxRecDepth 100000 in
set_option maxHeartbeats 3200000 in
theorem pairFault_2 (l : LsaM) (q : Bool) (lo hi : Nat) (A B : Option Addr) (n c m d : Nat) (k : LsaM) (q2 : Bool) (lo2 hi2 : Nat) (A2 B2 : Option Addr) (n2 c2 m2 d2 : Nat) (w : World) (hl : LsaAt q lo hi w A n B m l) (hn : n ≤ 1048576) (hm : m ≤ 1048576) (hk : LsaAt q2 lo2 hi2 w A2 n2 B2 m2 k) (hn2 : n2 ≤ 1048576) (hm2 : m2 ≤ 1048576) (h1 : faultOf l = 0) (h2 : ¬ faultOf k = 0) :
    Calls Try.prog 88 #[.agg (lsaCells l A B n c m d), .agg (lsaCells k A2 B2 n2 c2 m2 d2)] w fun e w' => e = .returned (.int .i64 (pairC l k)) ∧ Below w.heap.size w w' := by
  have HB := Lib.hid (Below.refl w.heap.size w)
  have HL := hl.kept
  have Z0 := Lib.hid hl.le
  clear hl
  have HK := hk.kept
  have Z00 := Lib.hid hk.le
  clear hk
  obtain ⟨r, hr⟩ : ∃ r, faultOf k = r := ⟨_, rfl⟩
  have HC : Hid (pairC l k = r) := Lib.hid (by rw [← hr]; exact pairC_2 h1 h2)
  rw [hr] at h2
  have hne : (r != 0) = true := by rw [bne_iff_ne]; exact h2
  have HF := Lib.hid h1
  have HG := Lib.hid hr
  clear hr h1 h2
  go_enter Try.func88, Try.ntmps88
  go_wp2_with fail
  refine Calls.name ?_
  intro U1 hU1
  have hb : Below w.heap.size w U1 := by rw [hU1]; exact (((Below.refl _ _).alloc (Nat.le_refl _) _).alloc (by simp <;> omega) _)
  have zz : Hid (w.heap.size + 2 = U1.heap.size) := Lib.hid (by rw [hU1]; simp)
  have HX1 : Kept w.heap.size (w.heap.size + 1) (BoxK w.heap.size 29 #[.int .i64 l.age, .int .i64 l.options, .int .i64 l.typ, .int .i64 l.id, .int .i64 l.adv, .int .i64 l.seq, .slice A n c, .slice B m d, .int .i64 l.mask, .int .i64 l.cost]) U1 := by rw [hU1]; exact Kept.box ((Box.made_at _ _ _ rfl).over _)
  have HX2 : Kept (w.heap.size + 1) (w.heap.size + 1 + 1) (BoxK (w.heap.size + 1) 29 #[.int .i64 k.age, .int .i64 k.options, .int .i64 k.typ, .int .i64 k.id, .int .i64 k.adv, .int .i64 k.seq, .slice A2 n2 c2, .slice B2 m2 d2, .int .i64 k.mask, .int .i64 k.cost]) U1 := by rw [hU1]; exact Kept.box (Box.made_at _ _ _ (by simp <;> omega))
  replace HL := HL.below hb
  replace HK := HK.below hb
  replace HB := Lib.hid (below_step HB.out hb)
  clear hb
  have Z1 := zz; clear zz
  clear hU1
  refine (lsaFault_any l q lo hi A B n c m d _ HL.lsa hn hm).mono ?_
  rw [HF.out]
  rintro e w2 ⟨rfl, hb⟩
  have Z2 := Lib.hid hb.size
  replace HL := HL.below hb
  replace HK := HK.below hb
  replace HX1 := HX1.below hb
  replace HX2 := HX2.below hb
  replace HB := Lib.hid (below_step HB.out hb)
  clear hb
  have c2_0 := HX2.look 0
  have c2_1 := HX2.look 1
  have c2_2 := HX2.look 2
  have c2_3 := HX2.look 3
  have c2_4 := HX2.look 4
  have c2_5 := HX2.look 5
  have c2_6 := HX2.look 6
  have c2_7 := HX2.look 7
  have c2_8 := HX2.look 8
  have c2_9 := HX2.look 9
  have l2_0 := HX1.bx.lt
  have l2_1 := HX2.bx.lt
  go_wp2_with fail
  clear c2_0 c2_1 c2_2 c2_3 c2_4 c2_5 c2_6 c2_7 c2_8 c2_9 l2_0 l2_1
  refine (lsaFault_any k q2 lo2 hi2 A2 B2 n2 c2 m2 d2 _ HK.lsa hn2 hm2).mono ?_
  rw [HG.out]
  rintro e w3 ⟨rfl, hb⟩
  have Z3 := Lib.hid hb.size
  replace HL := HL.below hb
  replace HK := HK.below hb
  replace HX1 := HX1.below hb
  replace HX2 := HX2.below hb
  replace HB := Lib.hid (below_step HB.out hb)
  clear hb
  have l3_0 := HX1.bx.lt
  have l3_1 := HX2.bx.lt
  go_wp2
  clear l3_0 l3_1
  go_ret
  exact ⟨by rw [HC.out]; rfl, HB.out⟩

set_option maxRecDepth 100000 in
set_option maxHeartbeats 3200000 in
theorem pairFault_3 (l : LsaM) (q : Bool) (lo hi : Nat) (A B : Option Addr) (n c m d : Nat) (k : LsaM) (q2 : Bool) (lo2 hi2 : Nat) (A2 B2 : Option Addr) (n2 c2 m2 d2 : Nat) (w : World) (hl : LsaAt q lo hi w A n B m l) (hn : n ≤ 1048576) (hm : m ≤ 1048576) (hk : LsaAt q2 lo2 hi2 w A2 n2 B2 m2 k) (hn2 : n2 ≤ 1048576) (hm2 : m2 ≤ 1048576) (h1 : faultOf l = 0) (h2 : faultOf k = 0) (h3 : keyB l.typ l.id l.adv k.typ k.id k.adv = false) :
    Calls Try.prog 88 #[.agg (lsaCells l A B n c m d), .agg (lsaCells k A2 B2 n2 c2 m2 d2)] w fun e w' => e = .returned (.int .i64 (pairC l k)) ∧ Below w.heap.size w w' := by
  have HB := Lib.hid (Below.refl w.heap.size w)
  have HL := hl.kept
  have Z0 := Lib.hid hl.le
  clear hl
  have HK := hk.kept
  have Z00 := Lib.hid hk.le
  clear hk
  have HC := Lib.hid (pairC_3 h1 h2 h3)
  have HF := Lib.hid h1
  have HG := Lib.hid h2
  clear h1 h2
  go_enter Try.func88, Try.ntmps88
  go_wp2_with fail
  refine Calls.name ?_
  intro U1 hU1
  have hb : Below w.heap.size w U1 := by rw [hU1]; exact (((Below.refl _ _).alloc (Nat.le_refl _) _).alloc (by simp <;> omega) _)
  have zz : Hid (w.heap.size + 2 = U1.heap.size) := Lib.hid (by rw [hU1]; simp)
  have HX1 : Kept w.heap.size (w.heap.size + 1) (BoxK w.heap.size 29 #[.int .i64 l.age, .int .i64 l.options, .int .i64 l.typ, .int .i64 l.id, .int .i64 l.adv, .int .i64 l.seq, .slice A n c, .slice B m d, .int .i64 l.mask, .int .i64 l.cost]) U1 := by rw [hU1]; exact Kept.box ((Box.made_at _ _ _ rfl).over _)
  have HX2 : Kept (w.heap.size + 1) (w.heap.size + 1 + 1) (BoxK (w.heap.size + 1) 29 #[.int .i64 k.age, .int .i64 k.options, .int .i64 k.typ, .int .i64 k.id, .int .i64 k.adv, .int .i64 k.seq, .slice A2 n2 c2, .slice B2 m2 d2, .int .i64 k.mask, .int .i64 k.cost]) U1 := by rw [hU1]; exact Kept.box (Box.made_at _ _ _ (by simp <;> omega))
  replace HL := HL.below hb
  replace HK := HK.below hb
  replace HB := Lib.hid (below_step HB.out hb)
  clear hb
  have Z1 := zz; clear zz
  clear hU1
  refine (lsaFault_any l q lo hi A B n c m d _ HL.lsa hn hm).mono ?_
  rw [HF.out]
  rintro e w2 ⟨rfl, hb⟩
  have Z2 := Lib.hid hb.size
  replace HL := HL.below hb
  replace HK := HK.below hb
  replace HX1 := HX1.below hb
  replace HX2 := HX2.below hb
  replace HB := Lib.hid (below_step HB.out hb)
  clear hb
  have c2_0 := HX2.look 0
  have c2_1 := HX2.look 1
  have c2_2 := HX2.look 2
  have c2_3 := HX2.look 3
  have c2_4 := HX2.look 4
  have c2_5 := HX2.look 5
  have c2_6 := HX2.look 6
  have c2_7 := HX2.look 7
  have c2_8 := HX2.look 8
  have c2_9 := HX2.look 9
  have l2_0 := HX1.bx.lt
  have l2_1 := HX2.bx.lt
  go_wp2_with fail
  clear c2_0 c2_1 c2_2 c2_3 c2_4 c2_5 c2_6 c2_7 c2_8 c2_9 l2_0 l2_1
  refine (lsaFault_any k q2 lo2 hi2 A2 B2 n2 c2 m2 d2 _ HK.lsa hn2 hm2).mono ?_
  rw [HG.out]
  rintro e w3 ⟨rfl, hb⟩
  have Z3 := Lib.hid hb.size
  replace HL := HL.below hb
  replace HK := HK.below hb
  replace HX1 := HX1.below hb
  replace HX2 := HX2.below hb
  replace HB := Lib.hid (below_step HB.out hb)
  clear hb
  have c3_0 := HX1.look 2
  have c3_1 := HX1.look 3
  have c3_2 := HX1.look 4
  have c3_3 := HX2.look 2
  have c3_4 := HX2.look 3
  have c3_5 := HX2.look 4
  have l3_0 := HX1.bx.lt
  have l3_1 := HX2.bx.lt
  go_wp2
  clear c3_0 c3_1 c3_2 c3_3 c3_4 c3_5 l3_0 l3_1
  go_ret
  exact ⟨by rw [HC.out]; rfl, HB.out⟩

set_option maxRecDepth 100000 in
set_option maxHeartbeats 3200000 in
theorem pairFault_4 (l : LsaM) (q : Bool) (lo hi : Nat) (A B : Option Addr) (n c m d : Nat) (k : LsaM) (q2 : Bool) (lo2 hi2 : Nat) (A2 B2 : Option Addr) (n2 c2 m2 d2 : Nat) (w : World) (hl : LsaAt q lo hi w A n B m l) (hn : n ≤ 1048576) (hm : m ≤ 1048576) (hk : LsaAt q2 lo2 hi2 w A2 n2 B2 m2 k) (hn2 : n2 ≤ 1048576) (hm2 : m2 ≤ 1048576) (h1 : faultOf l = 0) (h2 : faultOf k = 0) (h3 : ¬ keyB l.typ l.id l.adv k.typ k.id k.adv = false) :
    Calls Try.prog 88 #[.agg (lsaCells l A B n c m d), .agg (lsaCells k A2 B2 n2 c2 m2 d2)] w fun e w' => e = .returned (.int .i64 (pairC l k)) ∧ Below w.heap.size w w' := by
  have HB := Lib.hid (Below.refl w.heap.size w)
  have HL := hl.kept
  have Z0 := Lib.hid hl.le
  clear hl
  have HK := hk.kept
  have Z00 := Lib.hid hk.le
  clear hk
  have HC := Lib.hid (pairC_4 h1 h2 h3)
  have HF := Lib.hid h1
  have HG := Lib.hid h2
  have hk1 : keyB l.typ l.id l.adv k.typ k.id k.adv = true := by simpa using h3
  clear h1 h2 h3
  go_enter Try.func88, Try.ntmps88
  go_wp2_with fail
  refine Calls.name ?_
  intro U1 hU1
  have hb : Below w.heap.size w U1 := by rw [hU1]; exact (((Below.refl _ _).alloc (Nat.le_refl _) _).alloc (by simp <;> omega) _)
  have zz : Hid (w.heap.size + 2 = U1.heap.size) := Lib.hid (by rw [hU1]; simp)
  have HX1 : Kept w.heap.size (w.heap.size + 1) (BoxK w.heap.size 29 #[.int .i64 l.age, .int .i64 l.options, .int .i64 l.typ, .int .i64 l.id, .int .i64 l.adv, .int .i64 l.seq, .slice A n c, .slice B m d, .int .i64 l.mask, .int .i64 l.cost]) U1 := by rw [hU1]; exact Kept.box ((Box.made_at _ _ _ rfl).over _)
  have HX2 : Kept (w.heap.size + 1) (w.heap.size + 1 + 1) (BoxK (w.heap.size + 1) 29 #[.int .i64 k.age, .int .i64 k.options, .int .i64 k.typ, .int .i64 k.id, .int .i64 k.adv, .int .i64 k.seq, .slice A2 n2 c2, .slice B2 m2 d2, .int .i64 k.mask, .int .i64 k.cost]) U1 := by rw [hU1]; exact Kept.box (Box.made_at _ _ _ (by simp <;> omega))
  replace HL := HL.below hb
  replace HK := HK.below hb
  replace HB := Lib.hid (below_step HB.out hb)
  clear hb
  have Z1 := zz; clear zz
  clear hU1
  refine (lsaFault_any l q lo hi A B n c m d _ HL.lsa hn hm).mono ?_
  rw [HF.out]
  rintro e w2 ⟨rfl, hb⟩
  have Z2 := Lib.hid hb.size
  replace HL := HL.below hb
  replace HK := HK.below hb
  replace HX1 := HX1.below hb
  replace HX2 := HX2.below hb
  replace HB := Lib.hid (below_step HB.out hb)
  clear hb
  have c2_0 := HX2.look 0
  have c2_1 := HX2.look 1
  have c2_2 := HX2.look 2
  have c2_3 := HX2.look 3
  have c2_4 := HX2.look 4
  have c2_5 := HX2.look 5
  have c2_6 := HX2.look 6
  have c2_7 := HX2.look 7
  have c2_8 := HX2.look 8
  have c2_9 := HX2.look 9
  have l2_0 := HX1.bx.lt
  have l2_1 := HX2.bx.lt
  go_wp2_with fail
  clear c2_0 c2_1 c2_2 c2_3 c2_4 c2_5 c2_6 c2_7 c2_8 c2_9 l2_0 l2_1
  refine (lsaFault_any k q2 lo2 hi2 A2 B2 n2 c2 m2 d2 _ HK.lsa hn2 hm2).mono ?_
  rw [HG.out]
  rintro e w3 ⟨rfl, hb⟩
  have Z3 := Lib.hid hb.size
  replace HL := HL.below hb
  replace HK := HK.below hb
  replace HX1 := HX1.below hb
  replace HX2 := HX2.below hb
  replace HB := Lib.hid (below_step HB.out hb)
  clear hb
  have c3_0 := HX1.look 2
  have c3_1 := HX1.look 3
  have c3_2 := HX1.look 4
  have c3_3 := HX2.look 2
  have c3_4 := HX2.look 3
  have c3_5 := HX2.look 4
  have l3_0 := HX1.bx.lt
  have l3_1 := HX2.bx.lt
  go_wp2
  clear c3_0 c3_1 c3_2 c3_3 c3_4 c3_5 l3_0 l3_1
  go_ret
  exact ⟨by rw [HC.out]; rfl, HB.out⟩

theorem pairFault_any (l : LsaM) (q : Bool) (lo hi : Nat) (A B : Option Addr) (n c m d : Nat) (k : LsaM) (q2 : Bool) (lo2 hi2 : Nat) (A2 B2 : Option Addr) (n2 c2 m2 d2 : Nat) (w : World) (hl : LsaAt q lo hi w A n B m l) (hn : n ≤ 1048576) (hm : m ≤ 1048576) (hk : LsaAt q2 lo2 hi2 w A2 n2 B2 m2 k) (hn2 : n2 ≤ 1048576) (hm2 : m2 ≤ 1048576) :
    Calls Try.prog 88 #[.agg (lsaCells l A B n c m d), .agg (lsaCells k A2 B2 n2 c2 m2 d2)] w fun e w' => e = .returned (.int .i64 (pairC l k)) ∧ Below w.heap.size w w' := by
  by_cases h1 : faultOf l = 0
  · by_cases h2 : faultOf k = 0
    · by_cases h3 : keyB l.typ l.id l.adv k.typ k.id k.adv = false
      · exact pairFault_3 l q lo hi A B n c m d k q2 lo2 hi2 A2 B2 n2 c2 m2 d2 w hl hn hm hk hn2 hm2 h1 h2 h3
      · exact pairFault_4 l q lo hi A B n c m d k q2 lo2 hi2 A2 B2 n2 c2 m2 d2 w hl hn hm hk hn2 hm2 h1 h2 h3
    · exact pairFault_2 l q lo hi A B n c m d k q2 lo2 hi2 A2 B2 n2 c2 m2 d2 w hl hn hm hk hn2 hm2 h1 h2
  · exact pairFault_1 l q lo hi A B n c m d k q2 lo2 hi2 A2 B2 n2 c2 m2 d2 w hl hn hm hk hn2 hm2 h1


end Go.Proofs.Ytamclkjofojhmaa
