/-
  What the model's l3Compare answers. No statement is proved here.
-/
import Derived.Test.YtamclkjofojhmaaPair
namespace Go.Proofs.Ytamclkjofojhmaa
open Go.RowKit
set_option linter.unusedVariables false

attribute [local go_sem high] neq_key eql_key

theorem sumV_yes {l : LsaM} (h : faultOf l = 0) : readN (((encN l).drop 16).take 2) = sumV l := by unfold sumV; rw [if_pos h]

theorem allIn_out {x y : Int} (h : allIn (-900) 900 [x - y] = false) : 900 < y - x ∨ y - x < -900 := by
  simp [allIn] at h; omega
theorem allIn_in {x y : Int} (h : ¬ allIn (-900) 900 [x - y] = false) : y - x ≤ 900 ∧ -900 ≤ y - x := by
  simp [allIn] at h; omega
theorem sumV_bd (l : LsaM) : 0 ≤ sumV l ∧ sumV l < 65536 := by
  unfold sumV
  split
  · have := readN_bd ((((encN l).drop 16).take 2)) ((encN_bytes l).sub 16 2) 2 (by rw [List.length_take, List.length_drop, encN_len]; omega) (by omega)
    rw [List.take_of_length_le (by rw [List.length_take]; omega)] at this
    exact ⟨this.1, this.2⟩
  · omega

set_option maxRecDepth 100000 in
set_option maxHeartbeats 3200000 in
theorem l3Compare_1 (l : LsaM) (q : Bool) (lo hi : Nat) (A B : Option Addr) (n c m d : Nat) (k : LsaM) (q2 : Bool) (lo2 hi2 : Nat) (A2 B2 : Option Addr) (n2 c2 m2 d2 : Nat) (g g2 : Nat) (w : World)  (hx : Box w g 29 (lsaCells l A B n c m d)) (hl : LsaAt q lo hi w A n B m l) (hy : Box w g2 29 (lsaCells k A2 B2 n2 c2 m2 d2)) (hk : LsaAt q2 lo2 hi2 w A2 n2 B2 m2 k) (h0 : pairC l k = 0) (h1 : ¬ cmpI l.seq k.seq = 0)  :
    Calls Try.prog 91 #[.pointer (some ⟨g, 0, none⟩), .pointer (some ⟨g2, 0, none⟩)] w fun e w' => e = .returned (.int .i64 (ordV l k)) ∧ Below w.heap.size w w' := by
  have HX := Kept.box hx
  have HY := Kept.box hy
  clear hx hy
  have HB := Lib.hid (Below.refl w.heap.size w)
  have HL := hl.kept
  have Z0 := Lib.hid hl.le
  clear hl
  have HK := hk.kept
  have Z00 := Lib.hid hk.le
  clear hk
  have HC := Lib.hid h0
  obtain ⟨g1, g2', g3⟩ := pairC_sound h0
  have HF := Lib.hid g1
  have HG := Lib.hid g2'
  have S1 := Lib.hid (sound_of l g1)
  have S2 := Lib.hid (sound_of k g2')
  have b1 := S1.out.seq
  obtain ⟨b11, b12⟩ := b1
  have b2 := S2.out.seq
  obtain ⟨b21, b22⟩ := b2
  have a1 := S1.out.age
  obtain ⟨a11, a12⟩ := a1
  have a2 := S2.out.age
  obtain ⟨a21, a22⟩ := a2
  have HO := Lib.hid (ordV_1 h0 h1)
  have hne := fun h => h1 (cmpI_eq.2 h)
  have HNE := Lib.hid hne
  have hb1 : (l.seq != k.seq) = true := by rw [bne_iff_ne]; exact hne
  clear hne h1 h0
  go_enter Try.func91, Try.ntmps91
  have l1_0 := HX.bx.lt
  have l1_1 := HY.bx.lt
  go_wp2
  clear l1_0 l1_1
  have c2_0 := HX.look 5
  have c2_1 := HY.look 5
  have l2_0 := HX.bx.lt
  have l2_1 := HY.bx.lt
  go_quiet (fail)
  clear c2_0 c2_1 l2_0 l2_1
  have l3_0 := HX.bx.lt
  have l3_1 := HY.bx.lt
  go_wp2
  clear l3_0 l3_1
  refine Code.wp_name ?_
  intro U1 hU1
  have hb : Below w.heap.size w U1 := by rw [hU1]; exact (below_drewN (Below.refl _ _) _)
  have zz : Hid (w.heap.size = U1.heap.size) := Lib.hid (by rw [hU1]; simp [World.drewN])
  replace HX := HX.below hb
  replace HY := HY.below hb
  replace HL := HL.below hb
  replace HK := HK.below hb
  replace HB := Lib.hid (below_step HB.out hb)
  clear hb
  have Z1 := zz; clear zz
  clear hU1
  have c4_0 := HX.look 5
  have c4_1 := HY.look 5
  have l4_0 := HX.bx.lt
  have l4_1 := HY.bx.lt
  go_quiet ((go_at_call 126; exact Calls.quiet_of_same (l3Sign_cmp l.seq k.seq _ HNE.out)))
  clear c4_0 c4_1 l4_0 l4_1
  have l5_0 := HX.bx.lt
  have l5_1 := HY.bx.lt
  go_wp2
  clear l5_0 l5_1
  go_ret
  first
    | exact ⟨by rw [HO.out]; rfl, (below_drewN HB.out _)⟩

set_option maxRecDepth 100000 in
set_option maxHeartbeats 3200000 in
theorem l3Compare_2 (l : LsaM) (q : Bool) (lo hi : Nat) (A B : Option Addr) (n c m d : Nat) (k : LsaM) (q2 : Bool) (lo2 hi2 : Nat) (A2 B2 : Option Addr) (n2 c2 m2 d2 : Nat) (g g2 : Nat) (w : World)  (hx : Box w g 29 (lsaCells l A B n c m d)) (hl : LsaAt q lo hi w A n B m l) (hy : Box w g2 29 (lsaCells k A2 B2 n2 c2 m2 d2)) (hk : LsaAt q2 lo2 hi2 w A2 n2 B2 m2 k) (h0 : pairC l k = 0) (h1 : cmpI l.seq k.seq = 0) (h2 : ¬ cmpI (sumV l) (sumV k) = 0)  :
    Calls Try.prog 91 #[.pointer (some ⟨g, 0, none⟩), .pointer (some ⟨g2, 0, none⟩)] w fun e w' => e = .returned (.int .i64 (ordV l k)) ∧ Below w.heap.size w w' := by
  have HX := Kept.box hx
  have HY := Kept.box hy
  clear hx hy
  have HB := Lib.hid (Below.refl w.heap.size w)
  have HL := hl.kept
  have Z0 := Lib.hid hl.le
  clear hl
  have HK := hk.kept
  have Z00 := Lib.hid hk.le
  clear hk
  have HC := Lib.hid h0
  obtain ⟨g1, g2', g3⟩ := pairC_sound h0
  have HF := Lib.hid g1
  have HG := Lib.hid g2'
  have S1 := Lib.hid (sound_of l g1)
  have S2 := Lib.hid (sound_of k g2')
  have b1 := S1.out.seq
  obtain ⟨b11, b12⟩ := b1
  have b2 := S2.out.seq
  obtain ⟨b21, b22⟩ := b2
  have a1 := S1.out.age
  obtain ⟨a11, a12⟩ := a1
  have a2 := S2.out.age
  obtain ⟨a21, a22⟩ := a2
  have HO := Lib.hid (ordV_2 h0 h1 h2)
  have e1 := cmpI_eq.1 h1
  have hb1 : (l.seq != k.seq) = false := by rw [e1]; simp
  have HV1 := Lib.hid (sumV_yes g1)
  have HV2 := Lib.hid (sumV_yes g2')
  obtain ⟨s1, hs1⟩ : ∃ z, sumV l = z := ⟨_, rfl⟩
  obtain ⟨s2, hs2⟩ : ∃ z, sumV k = z := ⟨_, rfl⟩
  have q1 := sumV_bd l
  have q2' := sumV_bd k
  rw [hs1] at HV1 q1
  rw [hs2] at HV2 q2'
  obtain ⟨q11, q12⟩ := q1
  obtain ⟨q21, q22⟩ := q2'
  rw [hs1, hs2] at h2
  rw [hs1, hs2] at HO
  have hne := fun h => h2 (cmpI_eq.2 h)
  have HNE := Lib.hid hne
  have hb2 : (s1 - s2 != 0) = true := by rw [bne_iff_ne]; intro h; exact hne (by omega)
  clear hne h1 h2 h0 e1 hs1 hs2
  go_enter Try.func91, Try.ntmps91
  have l1_0 := HX.bx.lt
  have l1_1 := HY.bx.lt
  go_wp2
  clear l1_0 l1_1
  have c2_0 := HX.look 5
  have c2_1 := HY.look 5
  have l2_0 := HX.bx.lt
  have l2_1 := HY.bx.lt
  go_quiet (fail)
  clear c2_0 c2_1 l2_0 l2_1
  have l3_0 := HX.bx.lt
  have l3_1 := HY.bx.lt
  go_wp2_with fail
  clear l3_0 l3_1
  refine Calls.name ?_
  intro U1 hU1
  have hb : Below w.heap.size w U1 := by rw [hU1]; exact (below_drewN (Below.refl _ _) _)
  have zz : Hid (w.heap.size = U1.heap.size) := Lib.hid (by rw [hU1]; simp [World.drewN])
  replace HX := HX.below hb
  replace HY := HY.below hb
  replace HL := HL.below hb
  replace HK := HK.below hb
  replace HB := Lib.hid (below_step HB.out hb)
  clear hb
  have Z1 := zz; clear zz
  clear hU1
  refine (l2Sum_any l q lo hi A B n c m d g _ HX.bx HL.lsa S1.out).mono ?_
  rw [HV1.out]
  rintro e w2 ⟨rfl, hb⟩
  have Z2 := Lib.hid hb.size
  replace HX := HX.below hb
  replace HY := HY.below hb
  replace HL := HL.below hb
  replace HK := HK.below hb
  replace HB := Lib.hid (below_step HB.out hb)
  clear hb
  have l4_0 := HX.bx.lt
  have l4_1 := HY.bx.lt
  go_wp2_with fail
  clear l4_0 l4_1
  refine (l2Sum_any k q2 lo2 hi2 A2 B2 n2 c2 m2 d2 g2 _ HY.bx HK.lsa S2.out).mono ?_
  rw [HV2.out]
  rintro e w3 ⟨rfl, hb⟩
  have Z3 := Lib.hid hb.size
  replace HX := HX.below hb
  replace HY := HY.below hb
  replace HL := HL.below hb
  replace HK := HK.below hb
  replace HB := Lib.hid (below_step HB.out hb)
  clear hb
  have l5_0 := HX.bx.lt
  have l5_1 := HY.bx.lt
  go_wp2_with fail
  clear l5_0 l5_1
  refine (l3Sign_cmp s1 s2 _ HNE.out).mono ?_
  rintro e w4 ⟨rfl, rfl⟩
  have l6_0 := HX.bx.lt
  have l6_1 := HY.bx.lt
  go_wp2
  clear l6_0 l6_1
  go_ret
  exact ⟨by rw [HO.out]; rfl, HB.out⟩

set_option maxRecDepth 100000 in
set_option maxHeartbeats 3200000 in
theorem l3Compare_3t (l : LsaM) (q : Bool) (lo hi : Nat) (A B : Option Addr) (n c m d : Nat) (k : LsaM) (q2 : Bool) (lo2 hi2 : Nat) (A2 B2 : Option Addr) (n2 c2 m2 d2 : Nat) (g g2 : Nat) (w : World)  (hx : Box w g 29 (lsaCells l A B n c m d)) (hl : LsaAt q lo hi w A n B m l) (hy : Box w g2 29 (lsaCells k A2 B2 n2 c2 m2 d2)) (hk : LsaAt q2 lo2 hi2 w A2 n2 B2 m2 k) (h0 : pairC l k = 0) (h1 : cmpI l.seq k.seq = 0) (h2 : cmpI (sumV l) (sumV k) = 0) (h3 : oldB l = true ∧ oldB k = false)  :
    Calls Try.prog 91 #[.pointer (some ⟨g, 0, none⟩), .pointer (some ⟨g2, 0, none⟩)] w fun e w' => e = .returned (.int .i64 (ordV l k)) ∧ Below w.heap.size w w' := by
  have HX := Kept.box hx
  have HY := Kept.box hy
  clear hx hy
  have HB := Lib.hid (Below.refl w.heap.size w)
  have HL := hl.kept
  have Z0 := Lib.hid hl.le
  clear hl
  have HK := hk.kept
  have Z00 := Lib.hid hk.le
  clear hk
  have HC := Lib.hid h0
  obtain ⟨g1, g2', g3⟩ := pairC_sound h0
  have HF := Lib.hid g1
  have HG := Lib.hid g2'
  have S1 := Lib.hid (sound_of l g1)
  have S2 := Lib.hid (sound_of k g2')
  have b1 := S1.out.seq
  obtain ⟨b11, b12⟩ := b1
  have b2 := S2.out.seq
  obtain ⟨b21, b22⟩ := b2
  have a1 := S1.out.age
  obtain ⟨a11, a12⟩ := a1
  have a2 := S2.out.age
  obtain ⟨a21, a22⟩ := a2
  have HO := Lib.hid (ordV_3 h0 h1 h2 (by rw [h3.1, h3.2]; decide))
  have e1 := cmpI_eq.1 h1
  have hb1 : (l.seq != k.seq) = false := by rw [e1]; simp
  have HV1 := Lib.hid (sumV_yes g1)
  have HV2 := Lib.hid (sumV_yes g2')
  obtain ⟨s1, hs1⟩ : ∃ z, sumV l = z := ⟨_, rfl⟩
  obtain ⟨s2, hs2⟩ : ∃ z, sumV k = z := ⟨_, rfl⟩
  have q1 := sumV_bd l
  have q2' := sumV_bd k
  rw [hs1] at HV1 q1
  rw [hs2] at HV2 q2'
  obtain ⟨q11, q12⟩ := q1
  obtain ⟨q21, q22⟩ := q2'
  rw [hs1, hs2] at h2
  have e2 := cmpI_eq.1 h2
  have hb2 : (s1 - s2 != 0) = false := by rw [e2]; simp
  have o1 : l.age = 3600 := of_decide_eq_true h3.1
  have o2 : ¬ k.age = 3600 := of_decide_eq_false h3.2
  have b3 : (l.age == 3600) = true := by simpa using o1
  have b4 : (k.age == 3600) = false := by simpa using o2
  have HCI := Lib.hid (cmpI_gt (x := l.age) (y := k.age) (by omega))
  rw [HCI.out] at HO
  clear h1 h2 h0 e1 e2 hs1 hs2 h3 o1 o2
  go_enter Try.func91, Try.ntmps91
  have l1_0 := HX.bx.lt
  have l1_1 := HY.bx.lt
  go_wp2
  clear l1_0 l1_1
  have c2_0 := HX.look 5
  have c2_1 := HY.look 5
  have l2_0 := HX.bx.lt
  have l2_1 := HY.bx.lt
  go_quiet (fail)
  clear c2_0 c2_1 l2_0 l2_1
  have l3_0 := HX.bx.lt
  have l3_1 := HY.bx.lt
  go_wp2_with fail
  clear l3_0 l3_1
  refine Calls.name ?_
  intro U1 hU1
  have hb : Below w.heap.size w U1 := by rw [hU1]; exact (below_drewN (Below.refl _ _) _)
  have zz : Hid (w.heap.size = U1.heap.size) := Lib.hid (by rw [hU1]; simp [World.drewN])
  replace HX := HX.below hb
  replace HY := HY.below hb
  replace HL := HL.below hb
  replace HK := HK.below hb
  replace HB := Lib.hid (below_step HB.out hb)
  clear hb
  have Z1 := zz; clear zz
  clear hU1
  refine (l2Sum_any l q lo hi A B n c m d g _ HX.bx HL.lsa S1.out).mono ?_
  rw [HV1.out]
  rintro e w2 ⟨rfl, hb⟩
  have Z2 := Lib.hid hb.size
  replace HX := HX.below hb
  replace HY := HY.below hb
  replace HL := HL.below hb
  replace HK := HK.below hb
  replace HB := Lib.hid (below_step HB.out hb)
  clear hb
  have l4_0 := HX.bx.lt
  have l4_1 := HY.bx.lt
  go_wp2_with fail
  clear l4_0 l4_1
  refine (l2Sum_any k q2 lo2 hi2 A2 B2 n2 c2 m2 d2 g2 _ HY.bx HK.lsa S2.out).mono ?_
  rw [HV2.out]
  rintro e w3 ⟨rfl, hb⟩
  have Z3 := Lib.hid hb.size
  replace HX := HX.below hb
  replace HY := HY.below hb
  replace HL := HL.below hb
  replace HK := HK.below hb
  replace HB := Lib.hid (below_step HB.out hb)
  clear hb
  have l5_0 := HX.bx.lt
  have l5_1 := HY.bx.lt
  go_wp2
  clear l5_0 l5_1
  have c6_0 := HX.look 0
  have c6_1 := HY.look 0
  have l6_0 := HX.bx.lt
  have l6_1 := HY.bx.lt
  go_quiet (fail)
  clear c6_0 c6_1 l6_0 l6_1
  have c7_0 := HX.look 0
  have l7_0 := HX.bx.lt
  have l7_1 := HY.bx.lt
  go_wp2
  clear c7_0 l7_0 l7_1
  go_ret
  first
    | exact ⟨by rw [HO.out]; rfl, (below_drewN HB.out _)⟩

set_option maxRecDepth 100000 in
set_option maxHeartbeats 3200000 in
theorem l3Compare_3f (l : LsaM) (q : Bool) (lo hi : Nat) (A B : Option Addr) (n c m d : Nat) (k : LsaM) (q2 : Bool) (lo2 hi2 : Nat) (A2 B2 : Option Addr) (n2 c2 m2 d2 : Nat) (g g2 : Nat) (w : World)  (hx : Box w g 29 (lsaCells l A B n c m d)) (hl : LsaAt q lo hi w A n B m l) (hy : Box w g2 29 (lsaCells k A2 B2 n2 c2 m2 d2)) (hk : LsaAt q2 lo2 hi2 w A2 n2 B2 m2 k) (h0 : pairC l k = 0) (h1 : cmpI l.seq k.seq = 0) (h2 : cmpI (sumV l) (sumV k) = 0) (h3 : oldB l = false ∧ oldB k = true)  :
    Calls Try.prog 91 #[.pointer (some ⟨g, 0, none⟩), .pointer (some ⟨g2, 0, none⟩)] w fun e w' => e = .returned (.int .i64 (ordV l k)) ∧ Below w.heap.size w w' := by
  have HX := Kept.box hx
  have HY := Kept.box hy
  clear hx hy
  have HB := Lib.hid (Below.refl w.heap.size w)
  have HL := hl.kept
  have Z0 := Lib.hid hl.le
  clear hl
  have HK := hk.kept
  have Z00 := Lib.hid hk.le
  clear hk
  have HC := Lib.hid h0
  obtain ⟨g1, g2', g3⟩ := pairC_sound h0
  have HF := Lib.hid g1
  have HG := Lib.hid g2'
  have S1 := Lib.hid (sound_of l g1)
  have S2 := Lib.hid (sound_of k g2')
  have b1 := S1.out.seq
  obtain ⟨b11, b12⟩ := b1
  have b2 := S2.out.seq
  obtain ⟨b21, b22⟩ := b2
  have a1 := S1.out.age
  obtain ⟨a11, a12⟩ := a1
  have a2 := S2.out.age
  obtain ⟨a21, a22⟩ := a2
  have HO := Lib.hid (ordV_3 h0 h1 h2 (by rw [h3.1, h3.2]; decide))
  have e1 := cmpI_eq.1 h1
  have hb1 : (l.seq != k.seq) = false := by rw [e1]; simp
  have HV1 := Lib.hid (sumV_yes g1)
  have HV2 := Lib.hid (sumV_yes g2')
  obtain ⟨s1, hs1⟩ : ∃ z, sumV l = z := ⟨_, rfl⟩
  obtain ⟨s2, hs2⟩ : ∃ z, sumV k = z := ⟨_, rfl⟩
  have q1 := sumV_bd l
  have q2' := sumV_bd k
  rw [hs1] at HV1 q1
  rw [hs2] at HV2 q2'
  obtain ⟨q11, q12⟩ := q1
  obtain ⟨q21, q22⟩ := q2'
  rw [hs1, hs2] at h2
  have e2 := cmpI_eq.1 h2
  have hb2 : (s1 - s2 != 0) = false := by rw [e2]; simp
  have o1 : ¬ l.age = 3600 := of_decide_eq_false h3.1
  have o2 : k.age = 3600 := of_decide_eq_true h3.2
  have b3 : (l.age == 3600) = false := by simpa using o1
  have b4 : (k.age == 3600) = true := by simpa using o2
  have HCI := Lib.hid (cmpI_lt (x := l.age) (y := k.age) (by omega))
  rw [HCI.out] at HO
  clear h1 h2 h0 e1 e2 hs1 hs2 h3 o1 o2
  go_enter Try.func91, Try.ntmps91
  have l1_0 := HX.bx.lt
  have l1_1 := HY.bx.lt
  go_wp2
  clear l1_0 l1_1
  have c2_0 := HX.look 5
  have c2_1 := HY.look 5
  have l2_0 := HX.bx.lt
  have l2_1 := HY.bx.lt
  go_quiet (fail)
  clear c2_0 c2_1 l2_0 l2_1
  have l3_0 := HX.bx.lt
  have l3_1 := HY.bx.lt
  go_wp2_with fail
  clear l3_0 l3_1
  refine Calls.name ?_
  intro U1 hU1
  have hb : Below w.heap.size w U1 := by rw [hU1]; exact (below_drewN (Below.refl _ _) _)
  have zz : Hid (w.heap.size = U1.heap.size) := Lib.hid (by rw [hU1]; simp [World.drewN])
  replace HX := HX.below hb
  replace HY := HY.below hb
  replace HL := HL.below hb
  replace HK := HK.below hb
  replace HB := Lib.hid (below_step HB.out hb)
  clear hb
  have Z1 := zz; clear zz
  clear hU1
  refine (l2Sum_any l q lo hi A B n c m d g _ HX.bx HL.lsa S1.out).mono ?_
  rw [HV1.out]
  rintro e w2 ⟨rfl, hb⟩
  have Z2 := Lib.hid hb.size
  replace HX := HX.below hb
  replace HY := HY.below hb
  replace HL := HL.below hb
  replace HK := HK.below hb
  replace HB := Lib.hid (below_step HB.out hb)
  clear hb
  have l4_0 := HX.bx.lt
  have l4_1 := HY.bx.lt
  go_wp2_with fail
  clear l4_0 l4_1
  refine (l2Sum_any k q2 lo2 hi2 A2 B2 n2 c2 m2 d2 g2 _ HY.bx HK.lsa S2.out).mono ?_
  rw [HV2.out]
  rintro e w3 ⟨rfl, hb⟩
  have Z3 := Lib.hid hb.size
  replace HX := HX.below hb
  replace HY := HY.below hb
  replace HL := HL.below hb
  replace HK := HK.below hb
  replace HB := Lib.hid (below_step HB.out hb)
  clear hb
  have l5_0 := HX.bx.lt
  have l5_1 := HY.bx.lt
  go_wp2
  clear l5_0 l5_1
  have c6_0 := HX.look 0
  have c6_1 := HY.look 0
  have l6_0 := HX.bx.lt
  have l6_1 := HY.bx.lt
  go_quiet (fail)
  clear c6_0 c6_1 l6_0 l6_1
  have c7_0 := HX.look 0
  have l7_0 := HX.bx.lt
  have l7_1 := HY.bx.lt
  go_wp2
  clear c7_0 l7_0 l7_1
  go_ret
  first
    | exact ⟨by rw [HO.out]; rfl, (below_drewN HB.out _)⟩

set_option maxRecDepth 100000 in
set_option maxHeartbeats 3200000 in
theorem l3Compare_4a (l : LsaM) (q : Bool) (lo hi : Nat) (A B : Option Addr) (n c m d : Nat) (k : LsaM) (q2 : Bool) (lo2 hi2 : Nat) (A2 B2 : Option Addr) (n2 c2 m2 d2 : Nat) (g g2 : Nat) (w : World)  (hx : Box w g 29 (lsaCells l A B n c m d)) (hl : LsaAt q lo hi w A n B m l) (hy : Box w g2 29 (lsaCells k A2 B2 n2 c2 m2 d2)) (hk : LsaAt q2 lo2 hi2 w A2 n2 B2 m2 k) (h0 : pairC l k = 0) (h1 : cmpI l.seq k.seq = 0) (h2 : cmpI (sumV l) (sumV k) = 0) (h3 : oldB l = oldB k) (h4 : allIn (-900) 900 [l.age - k.age] = false) (hz : 900 < k.age - l.age) :
    Calls Try.prog 91 #[.pointer (some ⟨g, 0, none⟩), .pointer (some ⟨g2, 0, none⟩)] w fun e w' => e = .returned (.int .i64 (ordV l k)) ∧ Below w.heap.size w w' := by
  have HX := Kept.box hx
  have HY := Kept.box hy
  clear hx hy
  have HB := Lib.hid (Below.refl w.heap.size w)
  have HL := hl.kept
  have Z0 := Lib.hid hl.le
  clear hl
  have HK := hk.kept
  have Z00 := Lib.hid hk.le
  clear hk
  have HC := Lib.hid h0
  obtain ⟨g1, g2', g3⟩ := pairC_sound h0
  have HF := Lib.hid g1
  have HG := Lib.hid g2'
  have S1 := Lib.hid (sound_of l g1)
  have S2 := Lib.hid (sound_of k g2')
  have b1 := S1.out.seq
  obtain ⟨b11, b12⟩ := b1
  have b2 := S2.out.seq
  obtain ⟨b21, b22⟩ := b2
  have a1 := S1.out.age
  obtain ⟨a11, a12⟩ := a1
  have a2 := S2.out.age
  obtain ⟨a21, a22⟩ := a2
  have HO := Lib.hid (ordV_4 h0 h1 h2 h3 h4)
  have e1 := cmpI_eq.1 h1
  have hb1 : (l.seq != k.seq) = false := by rw [e1]; simp
  have HV1 := Lib.hid (sumV_yes g1)
  have HV2 := Lib.hid (sumV_yes g2')
  obtain ⟨s1, hs1⟩ : ∃ z, sumV l = z := ⟨_, rfl⟩
  obtain ⟨s2, hs2⟩ : ∃ z, sumV k = z := ⟨_, rfl⟩
  have q1 := sumV_bd l
  have q2' := sumV_bd k
  rw [hs1] at HV1 q1
  rw [hs2] at HV2 q2'
  obtain ⟨q11, q12⟩ := q1
  obtain ⟨q21, q22⟩ := q2'
  rw [hs1, hs2] at h2
  have e2 := cmpI_eq.1 h2
  have hb2 : (s1 - s2 != 0) = false := by rw [e2]; simp
  have e3 : (l.age == 3600) = (k.age == 3600) := by have h := h3; unfold oldB at h; rw [Bool.eq_iff_iff] at h ⊢; simpa using h
  obtain ⟨o, ho⟩ : ∃ z, (l.age == 3600) = z := ⟨_, rfl⟩
  rw [ho] at e3
  have b4 := e3.symm
  have b5 : (o != o) = false := by simp
  have hd := allIn_out h4
  have HNE : Hid (¬ k.age = l.age) := Lib.hid (by omega)
  clear h1 h2 h0 e1 e2 hs1 hs2 h3 h4 e3
  go_enter Try.func91, Try.ntmps91
  have l1_0 := HX.bx.lt
  have l1_1 := HY.bx.lt
  go_wp2
  clear l1_0 l1_1
  have c2_0 := HX.look 5
  have c2_1 := HY.look 5
  have l2_0 := HX.bx.lt
  have l2_1 := HY.bx.lt
  go_quiet (fail)
  clear c2_0 c2_1 l2_0 l2_1
  have l3_0 := HX.bx.lt
  have l3_1 := HY.bx.lt
  go_wp2_with fail
  clear l3_0 l3_1
  refine Calls.name ?_
  intro U1 hU1
  have hb : Below w.heap.size w U1 := by rw [hU1]; exact (below_drewN (Below.refl _ _) _)
  have zz : Hid (w.heap.size = U1.heap.size) := Lib.hid (by rw [hU1]; simp [World.drewN])
  replace HX := HX.below hb
  replace HY := HY.below hb
  replace HL := HL.below hb
  replace HK := HK.below hb
  replace HB := Lib.hid (below_step HB.out hb)
  clear hb
  have Z1 := zz; clear zz
  clear hU1
  refine (l2Sum_any l q lo hi A B n c m d g _ HX.bx HL.lsa S1.out).mono ?_
  rw [HV1.out]
  rintro e w2 ⟨rfl, hb⟩
  have Z2 := Lib.hid hb.size
  replace HX := HX.below hb
  replace HY := HY.below hb
  replace HL := HL.below hb
  replace HK := HK.below hb
  replace HB := Lib.hid (below_step HB.out hb)
  clear hb
  have l4_0 := HX.bx.lt
  have l4_1 := HY.bx.lt
  go_wp2_with fail
  clear l4_0 l4_1
  refine (l2Sum_any k q2 lo2 hi2 A2 B2 n2 c2 m2 d2 g2 _ HY.bx HK.lsa S2.out).mono ?_
  rw [HV2.out]
  rintro e w3 ⟨rfl, hb⟩
  have Z3 := Lib.hid hb.size
  replace HX := HX.below hb
  replace HY := HY.below hb
  replace HL := HL.below hb
  replace HK := HK.below hb
  replace HB := Lib.hid (below_step HB.out hb)
  clear hb
  have l5_0 := HX.bx.lt
  have l5_1 := HY.bx.lt
  go_wp2
  clear l5_0 l5_1
  have c6_0 := HX.look 0
  have c6_1 := HY.look 0
  have l6_0 := HX.bx.lt
  have l6_1 := HY.bx.lt
  go_quiet (fail)
  clear c6_0 c6_1 l6_0 l6_1
  have l7_0 := HX.bx.lt
  have l7_1 := HY.bx.lt
  go_wp2
  clear l7_0 l7_1
  refine Code.wp_name ?_
  intro U4 hU4
  have hb : Below w3.heap.size w3 U4 := by rw [hU4]; exact (below_drewN (Below.refl _ _) _)
  have zz : Hid (w3.heap.size = U4.heap.size) := Lib.hid (by rw [hU4]; simp [World.drewN])
  replace HX := HX.below hb
  replace HY := HY.below hb
  replace HL := HL.below hb
  replace HK := HK.below hb
  replace HB := Lib.hid (below_step HB.out hb)
  clear hb
  have Z4 := zz; clear zz
  clear hU4
  have c8_0 := HX.look 0
  have c8_1 := HY.look 0
  have l8_0 := HX.bx.lt
  have l8_1 := HY.bx.lt
  go_quiet (fail)
  clear c8_0 c8_1 l8_0 l8_1
  have l9_0 := HX.bx.lt
  have l9_1 := HY.bx.lt
  go_wp2_with fail
  clear l9_0 l9_1
  refine Calls.name ?_
  intro U5 hU5
  have hb : Below U4.heap.size U4 U5 := by rw [hU5]; exact (below_drewN (Below.refl _ _) _)
  have zz : Hid (U4.heap.size = U5.heap.size) := Lib.hid (by rw [hU5]; simp [World.drewN])
  replace HX := HX.below hb
  replace HY := HY.below hb
  replace HL := HL.below hb
  replace HK := HK.below hb
  replace HB := Lib.hid (below_step HB.out hb)
  clear hb
  have Z5 := zz; clear zz
  clear hU5
  refine (l3Sign_cmp k.age l.age _ HNE.out).mono ?_
  rintro e w6 ⟨rfl, rfl⟩
  have l10_0 := HX.bx.lt
  have l10_1 := HY.bx.lt
  go_wp2
  clear l10_0 l10_1
  go_ret
  exact ⟨by rw [HO.out]; rfl, HB.out⟩

set_option maxRecDepth 100000 in
set_option maxHeartbeats 3200000 in
theorem l3Compare_4b (l : LsaM) (q : Bool) (lo hi : Nat) (A B : Option Addr) (n c m d : Nat) (k : LsaM) (q2 : Bool) (lo2 hi2 : Nat) (A2 B2 : Option Addr) (n2 c2 m2 d2 : Nat) (g g2 : Nat) (w : World)  (hx : Box w g 29 (lsaCells l A B n c m d)) (hl : LsaAt q lo hi w A n B m l) (hy : Box w g2 29 (lsaCells k A2 B2 n2 c2 m2 d2)) (hk : LsaAt q2 lo2 hi2 w A2 n2 B2 m2 k) (h0 : pairC l k = 0) (h1 : cmpI l.seq k.seq = 0) (h2 : cmpI (sumV l) (sumV k) = 0) (h3 : oldB l = oldB k) (h4 : allIn (-900) 900 [l.age - k.age] = false) (hz : k.age - l.age < -900) (hz2 : ¬ 900 < k.age - l.age) :
    Calls Try.prog 91 #[.pointer (some ⟨g, 0, none⟩), .pointer (some ⟨g2, 0, none⟩)] w fun e w' => e = .returned (.int .i64 (ordV l k)) ∧ Below w.heap.size w w' := by
  have HX := Kept.box hx
  have HY := Kept.box hy
  clear hx hy
  have HB := Lib.hid (Below.refl w.heap.size w)
  have HL := hl.kept
  have Z0 := Lib.hid hl.le
  clear hl
  have HK := hk.kept
  have Z00 := Lib.hid hk.le
  clear hk
  have HC := Lib.hid h0
  obtain ⟨g1, g2', g3⟩ := pairC_sound h0
  have HF := Lib.hid g1
  have HG := Lib.hid g2'
  have S1 := Lib.hid (sound_of l g1)
  have S2 := Lib.hid (sound_of k g2')
  have b1 := S1.out.seq
  obtain ⟨b11, b12⟩ := b1
  have b2 := S2.out.seq
  obtain ⟨b21, b22⟩ := b2
  have a1 := S1.out.age
  obtain ⟨a11, a12⟩ := a1
  have a2 := S2.out.age
  obtain ⟨a21, a22⟩ := a2
  have HO := Lib.hid (ordV_4 h0 h1 h2 h3 h4)
  have e1 := cmpI_eq.1 h1
  have hb1 : (l.seq != k.seq) = false := by rw [e1]; simp
  have HV1 := Lib.hid (sumV_yes g1)
  have HV2 := Lib.hid (sumV_yes g2')
  obtain ⟨s1, hs1⟩ : ∃ z, sumV l = z := ⟨_, rfl⟩
  obtain ⟨s2, hs2⟩ : ∃ z, sumV k = z := ⟨_, rfl⟩
  have q1 := sumV_bd l
  have q2' := sumV_bd k
  rw [hs1] at HV1 q1
  rw [hs2] at HV2 q2'
  obtain ⟨q11, q12⟩ := q1
  obtain ⟨q21, q22⟩ := q2'
  rw [hs1, hs2] at h2
  have e2 := cmpI_eq.1 h2
  have hb2 : (s1 - s2 != 0) = false := by rw [e2]; simp
  have e3 : (l.age == 3600) = (k.age == 3600) := by have h := h3; unfold oldB at h; rw [Bool.eq_iff_iff] at h ⊢; simpa using h
  obtain ⟨o, ho⟩ : ∃ z, (l.age == 3600) = z := ⟨_, rfl⟩
  rw [ho] at e3
  have b4 := e3.symm
  have b5 : (o != o) = false := by simp
  have hd := allIn_out h4
  have HNE : Hid (¬ k.age = l.age) := Lib.hid (by omega)
  clear h1 h2 h0 e1 e2 hs1 hs2 h3 h4 e3
  go_enter Try.func91, Try.ntmps91
  have l1_0 := HX.bx.lt
  have l1_1 := HY.bx.lt
  go_wp2
  clear l1_0 l1_1
  have c2_0 := HX.look 5
  have c2_1 := HY.look 5
  have l2_0 := HX.bx.lt
  have l2_1 := HY.bx.lt
  go_quiet (fail)
  clear c2_0 c2_1 l2_0 l2_1
  have l3_0 := HX.bx.lt
  have l3_1 := HY.bx.lt
  go_wp2_with fail
  clear l3_0 l3_1
  refine Calls.name ?_
  intro U1 hU1
  have hb : Below w.heap.size w U1 := by rw [hU1]; exact (below_drewN (Below.refl _ _) _)
  have zz : Hid (w.heap.size = U1.heap.size) := Lib.hid (by rw [hU1]; simp [World.drewN])
  replace HX := HX.below hb
  replace HY := HY.below hb
  replace HL := HL.below hb
  replace HK := HK.below hb
  replace HB := Lib.hid (below_step HB.out hb)
  clear hb
  have Z1 := zz; clear zz
  clear hU1
  refine (l2Sum_any l q lo hi A B n c m d g _ HX.bx HL.lsa S1.out).mono ?_
  rw [HV1.out]
  rintro e w2 ⟨rfl, hb⟩
  have Z2 := Lib.hid hb.size
  replace HX := HX.below hb
  replace HY := HY.below hb
  replace HL := HL.below hb
  replace HK := HK.below hb
  replace HB := Lib.hid (below_step HB.out hb)
  clear hb
  have l4_0 := HX.bx.lt
  have l4_1 := HY.bx.lt
  go_wp2_with fail
  clear l4_0 l4_1
  refine (l2Sum_any k q2 lo2 hi2 A2 B2 n2 c2 m2 d2 g2 _ HY.bx HK.lsa S2.out).mono ?_
  rw [HV2.out]
  rintro e w3 ⟨rfl, hb⟩
  have Z3 := Lib.hid hb.size
  replace HX := HX.below hb
  replace HY := HY.below hb
  replace HL := HL.below hb
  replace HK := HK.below hb
  replace HB := Lib.hid (below_step HB.out hb)
  clear hb
  have l5_0 := HX.bx.lt
  have l5_1 := HY.bx.lt
  go_wp2
  clear l5_0 l5_1
  have c6_0 := HX.look 0
  have c6_1 := HY.look 0
  have l6_0 := HX.bx.lt
  have l6_1 := HY.bx.lt
  go_quiet (fail)
  clear c6_0 c6_1 l6_0 l6_1
  have l7_0 := HX.bx.lt
  have l7_1 := HY.bx.lt
  go_wp2
  clear l7_0 l7_1
  refine Code.wp_name ?_
  intro U4 hU4
  have hb : Below w3.heap.size w3 U4 := by rw [hU4]; exact (below_drewN (Below.refl _ _) _)
  have zz : Hid (w3.heap.size = U4.heap.size) := Lib.hid (by rw [hU4]; simp [World.drewN])
  replace HX := HX.below hb
  replace HY := HY.below hb
  replace HL := HL.below hb
  replace HK := HK.below hb
  replace HB := Lib.hid (below_step HB.out hb)
  clear hb
  have Z4 := zz; clear zz
  clear hU4
  have c8_0 := HX.look 0
  have c8_1 := HY.look 0
  have l8_0 := HX.bx.lt
  have l8_1 := HY.bx.lt
  go_quiet (fail)
  clear c8_0 c8_1 l8_0 l8_1
  have l9_0 := HX.bx.lt
  have l9_1 := HY.bx.lt
  go_wp2_with fail
  clear l9_0 l9_1
  refine Calls.name ?_
  intro U5 hU5
  have hb : Below U4.heap.size U4 U5 := by rw [hU5]; exact (below_drewN (Below.refl _ _) _)
  have zz : Hid (U4.heap.size = U5.heap.size) := Lib.hid (by rw [hU5]; simp [World.drewN])
  replace HX := HX.below hb
  replace HY := HY.below hb
  replace HL := HL.below hb
  replace HK := HK.below hb
  replace HB := Lib.hid (below_step HB.out hb)
  clear hb
  have Z5 := zz; clear zz
  clear hU5
  refine (l3Sign_cmp k.age l.age _ HNE.out).mono ?_
  rintro e w6 ⟨rfl, rfl⟩
  have l10_0 := HX.bx.lt
  have l10_1 := HY.bx.lt
  go_wp2
  clear l10_0 l10_1
  go_ret
  exact ⟨by rw [HO.out]; rfl, HB.out⟩

set_option maxRecDepth 100000 in
set_option maxHeartbeats 3200000 in
theorem l3Compare_5 (l : LsaM) (q : Bool) (lo hi : Nat) (A B : Option Addr) (n c m d : Nat) (k : LsaM) (q2 : Bool) (lo2 hi2 : Nat) (A2 B2 : Option Addr) (n2 c2 m2 d2 : Nat) (g g2 : Nat) (w : World)  (hx : Box w g 29 (lsaCells l A B n c m d)) (hl : LsaAt q lo hi w A n B m l) (hy : Box w g2 29 (lsaCells k A2 B2 n2 c2 m2 d2)) (hk : LsaAt q2 lo2 hi2 w A2 n2 B2 m2 k) (h0 : pairC l k = 0) (h1 : cmpI l.seq k.seq = 0) (h2 : cmpI (sumV l) (sumV k) = 0) (h3 : oldB l = oldB k) (h4 : ¬ allIn (-900) 900 [l.age - k.age] = false)  :
    Calls Try.prog 91 #[.pointer (some ⟨g, 0, none⟩), .pointer (some ⟨g2, 0, none⟩)] w fun e w' => e = .returned (.int .i64 (ordV l k)) ∧ Below w.heap.size w w' := by
  have HX := Kept.box hx
  have HY := Kept.box hy
  clear hx hy
  have HB := Lib.hid (Below.refl w.heap.size w)
  have HL := hl.kept
  have Z0 := Lib.hid hl.le
  clear hl
  have HK := hk.kept
  have Z00 := Lib.hid hk.le
  clear hk
  have HC := Lib.hid h0
  obtain ⟨g1, g2', g3⟩ := pairC_sound h0
  have HF := Lib.hid g1
  have HG := Lib.hid g2'
  have S1 := Lib.hid (sound_of l g1)
  have S2 := Lib.hid (sound_of k g2')
  have b1 := S1.out.seq
  obtain ⟨b11, b12⟩ := b1
  have b2 := S2.out.seq
  obtain ⟨b21, b22⟩ := b2
  have a1 := S1.out.age
  obtain ⟨a11, a12⟩ := a1
  have a2 := S2.out.age
  obtain ⟨a21, a22⟩ := a2
  have HO := Lib.hid (ordV_5 h0 h1 h2 h3 h4)
  have e1 := cmpI_eq.1 h1
  have hb1 : (l.seq != k.seq) = false := by rw [e1]; simp
  have HV1 := Lib.hid (sumV_yes g1)
  have HV2 := Lib.hid (sumV_yes g2')
  obtain ⟨s1, hs1⟩ : ∃ z, sumV l = z := ⟨_, rfl⟩
  obtain ⟨s2, hs2⟩ : ∃ z, sumV k = z := ⟨_, rfl⟩
  have q1 := sumV_bd l
  have q2' := sumV_bd k
  rw [hs1] at HV1 q1
  rw [hs2] at HV2 q2'
  obtain ⟨q11, q12⟩ := q1
  obtain ⟨q21, q22⟩ := q2'
  rw [hs1, hs2] at h2
  have e2 := cmpI_eq.1 h2
  have hb2 : (s1 - s2 != 0) = false := by rw [e2]; simp
  have e3 : (l.age == 3600) = (k.age == 3600) := by have h := h3; unfold oldB at h; rw [Bool.eq_iff_iff] at h ⊢; simpa using h
  obtain ⟨o, ho⟩ : ∃ z, (l.age == 3600) = z := ⟨_, rfl⟩
  rw [ho] at e3
  have b4 := e3.symm
  have b5 : (o != o) = false := by simp
  have hd := allIn_in h4
  obtain ⟨v1, v2⟩ := hd
  have d3 : ¬ (900 < k.age - l.age) := by omega
  have d4 : ¬ (k.age - l.age < -900) := by omega
  clear h1 h2 h0 e1 e2 hs1 hs2 h3 h4 e3
  go_enter Try.func91, Try.ntmps91
  have l1_0 := HX.bx.lt
  have l1_1 := HY.bx.lt
  go_wp2
  clear l1_0 l1_1
  have c2_0 := HX.look 5
  have c2_1 := HY.look 5
  have l2_0 := HX.bx.lt
  have l2_1 := HY.bx.lt
  go_quiet (fail)
  clear c2_0 c2_1 l2_0 l2_1
  have l3_0 := HX.bx.lt
  have l3_1 := HY.bx.lt
  go_wp2_with fail
  clear l3_0 l3_1
  refine Calls.name ?_
  intro U1 hU1
  have hb : Below w.heap.size w U1 := by rw [hU1]; exact (below_drewN (Below.refl _ _) _)
  have zz : Hid (w.heap.size = U1.heap.size) := Lib.hid (by rw [hU1]; simp [World.drewN])
  replace HX := HX.below hb
  replace HY := HY.below hb
  replace HL := HL.below hb
  replace HK := HK.below hb
  replace HB := Lib.hid (below_step HB.out hb)
  clear hb
  have Z1 := zz; clear zz
  clear hU1
  refine (l2Sum_any l q lo hi A B n c m d g _ HX.bx HL.lsa S1.out).mono ?_
  rw [HV1.out]
  rintro e w2 ⟨rfl, hb⟩
  have Z2 := Lib.hid hb.size
  replace HX := HX.below hb
  replace HY := HY.below hb
  replace HL := HL.below hb
  replace HK := HK.below hb
  replace HB := Lib.hid (below_step HB.out hb)
  clear hb
  have l4_0 := HX.bx.lt
  have l4_1 := HY.bx.lt
  go_wp2_with fail
  clear l4_0 l4_1
  refine (l2Sum_any k q2 lo2 hi2 A2 B2 n2 c2 m2 d2 g2 _ HY.bx HK.lsa S2.out).mono ?_
  rw [HV2.out]
  rintro e w3 ⟨rfl, hb⟩
  have Z3 := Lib.hid hb.size
  replace HX := HX.below hb
  replace HY := HY.below hb
  replace HL := HL.below hb
  replace HK := HK.below hb
  replace HB := Lib.hid (below_step HB.out hb)
  clear hb
  have l5_0 := HX.bx.lt
  have l5_1 := HY.bx.lt
  go_wp2
  clear l5_0 l5_1
  have c6_0 := HX.look 0
  have c6_1 := HY.look 0
  have l6_0 := HX.bx.lt
  have l6_1 := HY.bx.lt
  go_quiet (fail)
  clear c6_0 c6_1 l6_0 l6_1
  have l7_0 := HX.bx.lt
  have l7_1 := HY.bx.lt
  go_wp2
  clear l7_0 l7_1
  refine Code.wp_name ?_
  intro U4 hU4
  have hb : Below w3.heap.size w3 U4 := by rw [hU4]; exact (below_drewN (Below.refl _ _) _)
  have zz : Hid (w3.heap.size = U4.heap.size) := Lib.hid (by rw [hU4]; simp [World.drewN])
  replace HX := HX.below hb
  replace HY := HY.below hb
  replace HL := HL.below hb
  replace HK := HK.below hb
  replace HB := Lib.hid (below_step HB.out hb)
  clear hb
  have Z4 := zz; clear zz
  clear hU4
  have c8_0 := HX.look 0
  have c8_1 := HY.look 0
  have l8_0 := HX.bx.lt
  have l8_1 := HY.bx.lt
  go_quiet (fail)
  clear c8_0 c8_1 l8_0 l8_1
  have l9_0 := HX.bx.lt
  have l9_1 := HY.bx.lt
  go_wp2
  clear l9_0 l9_1
  go_ret
  first
    | exact ⟨by rw [HO.out]; rfl, (below_drewN HB.out _)⟩


end Go.Proofs.Ytamclkjofojhmaa
