/-
  The program's unsealedBytes. No statement is proved here.
-/
import Derived.Test.YtamclkjofojhmaaEnc
namespace Go.Proofs.Ytamclkjofojhmaa
open Go.RowKit

theorem inv_R (x : Value) (w : World) : (invoke (.fn (.method "loop.example/g00732/impl.words") #[]) #[.iface 133 x]).run Try.prog w = .ok (.enter 154 #[x]) w := by kernel_rfl
theorem inv_N (x : Value) (w : World) : (invoke (.fn (.method "loop.example/g00732/impl.words") #[]) #[.iface 135 x]).run Try.prog w = .ok (.enter 155 #[x]) w := by kernel_rfl
theorem inv_S (x : Value) (w : World) : (invoke (.fn (.method "loop.example/g00732/impl.words") #[]) #[.iface 137 x]).run Try.prog w = .ok (.enter 156 #[x]) w := by kernel_rfl
attribute [local go_sem] inv_R inv_N inv_S

set_option maxRecDepth 100000 in
set_option maxHeartbeats 3200000 in
theorem unsealed_1 (l : LsaM) (q : Bool) (lo hi : Nat) (A B : Option Addr) (n c m d : Nat) (w : World) (hl : LsaAt q lo hi w A n B m l) (hs : Sound l) (ht : l.typ = 1) :
    Calls Try.prog 55 #[.agg (lsaCells l A B n c m d)] w fun e w' => ∃ E c', e = .returned (.slice E (20 + (bodyN l).length) c') ∧ Own w' w.heap.size E (20 + (bodyN l).length) c' (rawN l) ∧ Below w.heap.size w w' := by
  have hV : Below w.heap.size w (w.alloc (.cells (lsaCells l A B n c m d) 29)) := (Below.refl _ _).alloc (Nat.le_refl _) _
  have HB0 := Lib.hid hV
  have HL0 := Lib.hid (hl.below hV)
  have HT := Lib.hid ht
  have HS := Lib.hid hs
  have HN : Hid (n ≤ 8) := Lib.hid (by have := hs.links; have := hl.in_.links.1; omega)
  have HM : Hid (m ≤ 8) := Lib.hid (by have := hs.routers; have := hl.in_.routers.1; omega)
  clear hV hl ht hs
  go_enter Try.func55, Try.ntmps55
  go_wp2_with fail
  obtain ⟨V, hV⟩ : ∃ W : World, W = w.alloc (.cells (lsaCells l A B n c m d) 29) := ⟨_, rfl⟩
  have HX0 : Hid (Box V w.heap.size 29 (lsaCells l A B n c m d)) := by rw [hV]; exact Lib.hid (Box.made _ _ _)
  rw [← hV] at HB0 HL0 ⊢
  clear hV
  refine (bodyOf_1 l A B n c m d _ HT.out).mono ?_
  rintro e w1 ⟨rfl, hb⟩
  have HB1 := Lib.hid (below_step HB0.out hb)
  have HL1 := Lib.hid (HL0.out.below hb)
  have HX1 := Lib.hid (HX0.out.below hb)
  clear hb HB0 HL0 HX0
  go_wp2_with fail
  refine (words_1 _ _ _ A n c l.links _ HL1.out.in_.links HL1.out.le HN.out).mono ?_
  rintro e w2 ⟨E1, k1, d1, rfl, ho, hb⟩
  have HE2 := Lib.hid ho
  have HB2 := Lib.hid (below_step HB1.out hb)
  have HX2 := Lib.hid (HX1.out.below hb)
  clear hb ho HB1 HL1 HX1
  have HW : Hid (rWords l.links = bodyW l) := Lib.hid (by unfold bodyW; rw [if_pos HT.out])
  go_wp2_with fail
  refine (packWords_any E1 k1 d1 (rWords l.links) _ (HE2.out.inF wcell_len) (by rw [HW.out]; exact bodyW_ok HS.out) (by have h1 := HE2.out.1; have h2 := bodyW_len HS.out; rw [HW.out] at h1; omega)).mono ?_
  rintro e w3 ⟨E2, k2, d2, rfl, ho, hb⟩
  have HK : Hid (k2 = (bodyN l).length) := Lib.hid (by have := ho.len; rw [← this, HW.out]; rfl)
  have HF3 : Hid (Own w3 w2.heap.size E2 k2 d2 (bodyN l)) := Lib.hid (by rw [HW.out] at ho; exact ho)
  have HB3 := Lib.hid (below_step HB2.out hb)
  have HX3 := Lib.hid (HX2.out.below hb)
  clear hb ho HB2 HX2 HE2 HW
  have hk := bodyN_len HS.out
  rw [← HK.out] at hk
  have hq1 := HS.out.seq
  by_cases hsg : l.seq < 0
  · have HQ : Hid (seqN l = l.seq + 4294967296) := Lib.hid (by unfold seqN; rw [if_pos hsg])
    have HH : Hid (InF 2 wcell (w3.alloc (.cells #[.int .i64 l.age, .int .i64 2, .int .i64 l.options, .int .i64 1, .int .i64 l.typ, .int .i64 1, .int .i64 l.id, .int .i64 4, .int .i64 l.adv, .int .i64 4, .int .i64 (l.seq + 4294967296), .int .i64 4, .int .i64 0, .int .i64 2, .int .i64 (20 + (k2 : Int)), .int .i64 2] 122)) (some ⟨w3.heap.size, 0, none⟩) 8 (headW l)) := Lib.hid ((Box.made w3 122 #[.int .i64 l.age, .int .i64 2, .int .i64 l.options, .int .i64 1, .int .i64 l.typ, .int .i64 1, .int .i64 l.id, .int .i64 4, .int .i64 l.adv, .int .i64 4, .int .i64 (l.seq + 4294967296), .int .i64 4, .int .i64 0, .int .i64 2, .int .i64 (20 + (k2 : Int)), .int .i64 2]).inF (headW l) (by simp [headW, HQ.out, HK.out]))
    have x0 := HX3.out.look 0
    have x1 := HX3.out.look 1
    have x2 := HX3.out.look 2
    have x3 := HX3.out.look 3
    have x4 := HX3.out.look 4
    have x5 := HX3.out.look 5
    have x6 := HX3.out.look 6
    have x7 := HX3.out.look 7
    have x8 := HX3.out.look 8
    have x9 := HX3.out.look 9
    go_wp2_with fail
    clear x0 x1 x2 x3 x4 x5 x6 x7 x8 x9
    refine (packWords_any (some ⟨w3.heap.size, 0, none⟩) 8 8 (headW l) _ HH.out (headW_ok HS.out) (by omega)).mono ?_
    rintro e w4 ⟨E3, k3, d3, rfl, ho, hb⟩
    have hb3 : Below w3.heap.size w3 (w3.alloc (.cells #[.int .i64 l.age, .int .i64 2, .int .i64 l.options, .int .i64 1, .int .i64 l.typ, .int .i64 1, .int .i64 l.id, .int .i64 4, .int .i64 l.adv, .int .i64 4, .int .i64 (l.seq + 4294967296), .int .i64 4, .int .i64 0, .int .i64 2, .int .i64 (20 + (k2 : Int)), .int .i64 2] 122)) := (Below.refl _ _).alloc (Nat.le_refl _) _
    have HF4 := Lib.hid (HF3.out.below (below_step hb3 hb)).bin
    have HB4 := Lib.hid (below_step HB3.out (below_step hb3 hb))
    have HO4 : Hid (Own w4 w.heap.size E3 20 d3 (headN l)) := Lib.hid (by
      have e := ho.len
      have e2 := headN_len l
      obtain rfl : k3 = 20 := by rw [← e]; exact e2
      exact ho.mono (Nat.le_trans HB3.out.size (by simp)))
    obtain rfl : k3 = 20 := by rw [← ho.len]; exact headN_len l
    clear ho hb hb3 HF3 HB3 HX3 HH
    go_wp2_with (at_builtin; refine wpList_app rfl (.tmp 43) (.tmp 44) rfl rfl HO4.out rfl (by omega) HF4.out (by omega) HB4.out.size ?_; intro A' c' w5 ho5 hg5)
    go_ret
    refine ⟨A', c', by rw [← HK.out]; rfl, ?_, HB4.out.grown hg5 HB4.out.size (fun r hr => (HO4.out.block r hr).1)⟩
    rw [← HK.out]; exact ho5
  · have HQ : Hid (seqN l = l.seq) := Lib.hid (by unfold seqN; rw [if_neg hsg])
    have HH : Hid (InF 2 wcell (w3.alloc (.cells #[.int .i64 l.age, .int .i64 2, .int .i64 l.options, .int .i64 1, .int .i64 l.typ, .int .i64 1, .int .i64 l.id, .int .i64 4, .int .i64 l.adv, .int .i64 4, .int .i64 (l.seq), .int .i64 4, .int .i64 0, .int .i64 2, .int .i64 (20 + (k2 : Int)), .int .i64 2] 122)) (some ⟨w3.heap.size, 0, none⟩) 8 (headW l)) := Lib.hid ((Box.made w3 122 #[.int .i64 l.age, .int .i64 2, .int .i64 l.options, .int .i64 1, .int .i64 l.typ, .int .i64 1, .int .i64 l.id, .int .i64 4, .int .i64 l.adv, .int .i64 4, .int .i64 (l.seq), .int .i64 4, .int .i64 0, .int .i64 2, .int .i64 (20 + (k2 : Int)), .int .i64 2]).inF (headW l) (by simp [headW, HQ.out, HK.out]))
    have x0 := HX3.out.look 0
    have x1 := HX3.out.look 1
    have x2 := HX3.out.look 2
    have x3 := HX3.out.look 3
    have x4 := HX3.out.look 4
    have x5 := HX3.out.look 5
    have x6 := HX3.out.look 6
    have x7 := HX3.out.look 7
    have x8 := HX3.out.look 8
    have x9 := HX3.out.look 9
    go_wp2_with fail
    clear x0 x1 x2 x3 x4 x5 x6 x7 x8 x9
    refine (packWords_any (some ⟨w3.heap.size, 0, none⟩) 8 8 (headW l) _ HH.out (headW_ok HS.out) (by omega)).mono ?_
    rintro e w4 ⟨E3, k3, d3, rfl, ho, hb⟩
    have hb3 : Below w3.heap.size w3 (w3.alloc (.cells #[.int .i64 l.age, .int .i64 2, .int .i64 l.options, .int .i64 1, .int .i64 l.typ, .int .i64 1, .int .i64 l.id, .int .i64 4, .int .i64 l.adv, .int .i64 4, .int .i64 (l.seq), .int .i64 4, .int .i64 0, .int .i64 2, .int .i64 (20 + (k2 : Int)), .int .i64 2] 122)) := (Below.refl _ _).alloc (Nat.le_refl _) _
    have HF4 := Lib.hid (HF3.out.below (below_step hb3 hb)).bin
    have HB4 := Lib.hid (below_step HB3.out (below_step hb3 hb))
    have HO4 : Hid (Own w4 w.heap.size E3 20 d3 (headN l)) := Lib.hid (by
      have e := ho.len
      have e2 := headN_len l
      obtain rfl : k3 = 20 := by rw [← e]; exact e2
      exact ho.mono (Nat.le_trans HB3.out.size (by simp)))
    obtain rfl : k3 = 20 := by rw [← ho.len]; exact headN_len l
    clear ho hb hb3 HF3 HB3 HX3 HH
    go_wp2_with (at_builtin; refine wpList_app rfl (.tmp 43) (.tmp 44) rfl rfl HO4.out rfl (by omega) HF4.out (by omega) HB4.out.size ?_; intro A' c' w5 ho5 hg5)
    go_ret
    refine ⟨A', c', by rw [← HK.out]; rfl, ?_, HB4.out.grown hg5 HB4.out.size (fun r hr => (HO4.out.block r hr).1)⟩
    rw [← HK.out]; exact ho5

set_option maxRecDepth 100000 in
set_option maxHeartbeats 3200000 in
theorem unsealed_2 (l : LsaM) (q : Bool) (lo hi : Nat) (A B : Option Addr) (n c m d : Nat) (w : World) (hl : LsaAt q lo hi w A n B m l) (hs : Sound l) (ht : l.typ = 2) :
    Calls Try.prog 55 #[.agg (lsaCells l A B n c m d)] w fun e w' => ∃ E c', e = .returned (.slice E (20 + (bodyN l).length) c') ∧ Own w' w.heap.size E (20 + (bodyN l).length) c' (rawN l) ∧ Below w.heap.size w w' := by
  have hV : Below w.heap.size w (w.alloc (.cells (lsaCells l A B n c m d) 29)) := (Below.refl _ _).alloc (Nat.le_refl _) _
  have HB0 := Lib.hid hV
  have HL0 := Lib.hid (hl.below hV)
  have HT := Lib.hid ht
  have HS := Lib.hid hs
  have HN : Hid (n ≤ 8) := Lib.hid (by have := hs.links; have := hl.in_.links.1; omega)
  have HM : Hid (m ≤ 8) := Lib.hid (by have := hs.routers; have := hl.in_.routers.1; omega)
  clear hV hl ht hs
  go_enter Try.func55, Try.ntmps55
  go_wp2_with fail
  obtain ⟨V, hV⟩ : ∃ W : World, W = w.alloc (.cells (lsaCells l A B n c m d) 29) := ⟨_, rfl⟩
  have HX0 : Hid (Box V w.heap.size 29 (lsaCells l A B n c m d)) := by rw [hV]; exact Lib.hid (Box.made _ _ _)
  rw [← hV] at HB0 HL0 ⊢
  clear hV
  refine (bodyOf_2 l A B n c m d _ HT.out).mono ?_
  rintro e w1 ⟨rfl, hb⟩
  have HB1 := Lib.hid (below_step HB0.out hb)
  have HL1 := Lib.hid (HL0.out.below hb)
  have HX1 := Lib.hid (HX0.out.below hb)
  clear hb HB0 HL0 HX0
  go_wp2_with fail
  refine (words_2 _ _ _ B m d l.mask l.routers _ HL1.out.in_.routers HL1.out.le HM.out).mono ?_
  rintro e w2 ⟨E1, k1, d1, rfl, ho, hb⟩
  have HE2 := Lib.hid ho
  have HB2 := Lib.hid (below_step HB1.out hb)
  have HX2 := Lib.hid (HX1.out.below hb)
  clear hb ho HB1 HL1 HX1
  have HW : Hid (nWords l.mask l.routers = bodyW l) := Lib.hid (by unfold bodyW; rw [if_neg (by rw [HT.out]; decide), if_pos HT.out])
  go_wp2_with fail
  refine (packWords_any E1 k1 d1 (nWords l.mask l.routers) _ (HE2.out.inF wcell_len) (by rw [HW.out]; exact bodyW_ok HS.out) (by have h1 := HE2.out.1; have h2 := bodyW_len HS.out; rw [HW.out] at h1; omega)).mono ?_
  rintro e w3 ⟨E2, k2, d2, rfl, ho, hb⟩
  have HK : Hid (k2 = (bodyN l).length) := Lib.hid (by have := ho.len; rw [← this, HW.out]; rfl)
  have HF3 : Hid (Own w3 w2.heap.size E2 k2 d2 (bodyN l)) := Lib.hid (by rw [HW.out] at ho; exact ho)
  have HB3 := Lib.hid (below_step HB2.out hb)
  have HX3 := Lib.hid (HX2.out.below hb)
  clear hb ho HB2 HX2 HE2 HW
  have hk := bodyN_len HS.out
  rw [← HK.out] at hk
  have hq1 := HS.out.seq
  by_cases hsg : l.seq < 0
  · have HQ : Hid (seqN l = l.seq + 4294967296) := Lib.hid (by unfold seqN; rw [if_pos hsg])
    have HH : Hid (InF 2 wcell (w3.alloc (.cells #[.int .i64 l.age, .int .i64 2, .int .i64 l.options, .int .i64 1, .int .i64 l.typ, .int .i64 1, .int .i64 l.id, .int .i64 4, .int .i64 l.adv, .int .i64 4, .int .i64 (l.seq + 4294967296), .int .i64 4, .int .i64 0, .int .i64 2, .int .i64 (20 + (k2 : Int)), .int .i64 2] 122)) (some ⟨w3.heap.size, 0, none⟩) 8 (headW l)) := Lib.hid ((Box.made w3 122 #[.int .i64 l.age, .int .i64 2, .int .i64 l.options, .int .i64 1, .int .i64 l.typ, .int .i64 1, .int .i64 l.id, .int .i64 4, .int .i64 l.adv, .int .i64 4, .int .i64 (l.seq + 4294967296), .int .i64 4, .int .i64 0, .int .i64 2, .int .i64 (20 + (k2 : Int)), .int .i64 2]).inF (headW l) (by simp [headW, HQ.out, HK.out]))
    have x0 := HX3.out.look 0
    have x1 := HX3.out.look 1
    have x2 := HX3.out.look 2
    have x3 := HX3.out.look 3
    have x4 := HX3.out.look 4
    have x5 := HX3.out.look 5
    have x6 := HX3.out.look 6
    have x7 := HX3.out.look 7
    have x8 := HX3.out.look 8
    have x9 := HX3.out.look 9
    go_wp2_with fail
    clear x0 x1 x2 x3 x4 x5 x6 x7 x8 x9
    refine (packWords_any (some ⟨w3.heap.size, 0, none⟩) 8 8 (headW l) _ HH.out (headW_ok HS.out) (by omega)).mono ?_
    rintro e w4 ⟨E3, k3, d3, rfl, ho, hb⟩
    have hb3 : Below w3.heap.size w3 (w3.alloc (.cells #[.int .i64 l.age, .int .i64 2, .int .i64 l.options, .int .i64 1, .int .i64 l.typ, .int .i64 1, .int .i64 l.id, .int .i64 4, .int .i64 l.adv, .int .i64 4, .int .i64 (l.seq + 4294967296), .int .i64 4, .int .i64 0, .int .i64 2, .int .i64 (20 + (k2 : Int)), .int .i64 2] 122)) := (Below.refl _ _).alloc (Nat.le_refl _) _
    have HF4 := Lib.hid (HF3.out.below (below_step hb3 hb)).bin
    have HB4 := Lib.hid (below_step HB3.out (below_step hb3 hb))
    have HO4 : Hid (Own w4 w.heap.size E3 20 d3 (headN l)) := Lib.hid (by
      have e := ho.len
      have e2 := headN_len l
      obtain rfl : k3 = 20 := by rw [← e]; exact e2
      exact ho.mono (Nat.le_trans HB3.out.size (by simp)))
    obtain rfl : k3 = 20 := by rw [← ho.len]; exact headN_len l
    clear ho hb hb3 HF3 HB3 HX3 HH
    go_wp2_with (at_builtin; refine wpList_app rfl (.tmp 43) (.tmp 44) rfl rfl HO4.out rfl (by omega) HF4.out (by omega) HB4.out.size ?_; intro A' c' w5 ho5 hg5)
    go_ret
    refine ⟨A', c', by rw [← HK.out]; rfl, ?_, HB4.out.grown hg5 HB4.out.size (fun r hr => (HO4.out.block r hr).1)⟩
    rw [← HK.out]; exact ho5
  · have HQ : Hid (seqN l = l.seq) := Lib.hid (by unfold seqN; rw [if_neg hsg])
    have HH : Hid (InF 2 wcell (w3.alloc (.cells #[.int .i64 l.age, .int .i64 2, .int .i64 l.options, .int .i64 1, .int .i64 l.typ, .int .i64 1, .int .i64 l.id, .int .i64 4, .int .i64 l.adv, .int .i64 4, .int .i64 (l.seq), .int .i64 4, .int .i64 0, .int .i64 2, .int .i64 (20 + (k2 : Int)), .int .i64 2] 122)) (some ⟨w3.heap.size, 0, none⟩) 8 (headW l)) := Lib.hid ((Box.made w3 122 #[.int .i64 l.age, .int .i64 2, .int .i64 l.options, .int .i64 1, .int .i64 l.typ, .int .i64 1, .int .i64 l.id, .int .i64 4, .int .i64 l.adv, .int .i64 4, .int .i64 (l.seq), .int .i64 4, .int .i64 0, .int .i64 2, .int .i64 (20 + (k2 : Int)), .int .i64 2]).inF (headW l) (by simp [headW, HQ.out, HK.out]))
    have x0 := HX3.out.look 0
    have x1 := HX3.out.look 1
    have x2 := HX3.out.look 2
    have x3 := HX3.out.look 3
    have x4 := HX3.out.look 4
    have x5 := HX3.out.look 5
    have x6 := HX3.out.look 6
    have x7 := HX3.out.look 7
    have x8 := HX3.out.look 8
    have x9 := HX3.out.look 9
    go_wp2_with fail
    clear x0 x1 x2 x3 x4 x5 x6 x7 x8 x9
    refine (packWords_any (some ⟨w3.heap.size, 0, none⟩) 8 8 (headW l) _ HH.out (headW_ok HS.out) (by omega)).mono ?_
    rintro e w4 ⟨E3, k3, d3, rfl, ho, hb⟩
    have hb3 : Below w3.heap.size w3 (w3.alloc (.cells #[.int .i64 l.age, .int .i64 2, .int .i64 l.options, .int .i64 1, .int .i64 l.typ, .int .i64 1, .int .i64 l.id, .int .i64 4, .int .i64 l.adv, .int .i64 4, .int .i64 (l.seq), .int .i64 4, .int .i64 0, .int .i64 2, .int .i64 (20 + (k2 : Int)), .int .i64 2] 122)) := (Below.refl _ _).alloc (Nat.le_refl _) _
    have HF4 := Lib.hid (HF3.out.below (below_step hb3 hb)).bin
    have HB4 := Lib.hid (below_step HB3.out (below_step hb3 hb))
    have HO4 : Hid (Own w4 w.heap.size E3 20 d3 (headN l)) := Lib.hid (by
      have e := ho.len
      have e2 := headN_len l
      obtain rfl : k3 = 20 := by rw [← e]; exact e2
      exact ho.mono (Nat.le_trans HB3.out.size (by simp)))
    obtain rfl : k3 = 20 := by rw [← ho.len]; exact headN_len l
    clear ho hb hb3 HF3 HB3 HX3 HH
    go_wp2_with (at_builtin; refine wpList_app rfl (.tmp 43) (.tmp 44) rfl rfl HO4.out rfl (by omega) HF4.out (by omega) HB4.out.size ?_; intro A' c' w5 ho5 hg5)
    go_ret
    refine ⟨A', c', by rw [← HK.out]; rfl, ?_, HB4.out.grown hg5 HB4.out.size (fun r hr => (HO4.out.block r hr).1)⟩
    rw [← HK.out]; exact ho5

set_option maxRecDepth 100000 in
set_option maxHeartbeats 3200000 in
theorem unsealed_3 (l : LsaM) (q : Bool) (lo hi : Nat) (A B : Option Addr) (n c m d : Nat) (w : World) (hl : LsaAt q lo hi w A n B m l) (hs : Sound l) (ht : l.typ = 3) :
    Calls Try.prog 55 #[.agg (lsaCells l A B n c m d)] w fun e w' => ∃ E c', e = .returned (.slice E (20 + (bodyN l).length) c') ∧ Own w' w.heap.size E (20 + (bodyN l).length) c' (rawN l) ∧ Below w.heap.size w w' := by
  have hV : Below w.heap.size w (w.alloc (.cells (lsaCells l A B n c m d) 29)) := (Below.refl _ _).alloc (Nat.le_refl _) _
  have HB0 := Lib.hid hV
  have HL0 := Lib.hid (hl.below hV)
  have HT := Lib.hid ht
  have HS := Lib.hid hs
  have HN : Hid (n ≤ 8) := Lib.hid (by have := hs.links; have := hl.in_.links.1; omega)
  have HM : Hid (m ≤ 8) := Lib.hid (by have := hs.routers; have := hl.in_.routers.1; omega)
  clear hV hl ht hs
  go_enter Try.func55, Try.ntmps55
  go_wp2_with fail
  obtain ⟨V, hV⟩ : ∃ W : World, W = w.alloc (.cells (lsaCells l A B n c m d) 29) := ⟨_, rfl⟩
  have HX0 : Hid (Box V w.heap.size 29 (lsaCells l A B n c m d)) := by rw [hV]; exact Lib.hid (Box.made _ _ _)
  rw [← hV] at HB0 HL0 ⊢
  clear hV
  refine (bodyOf_3 l A B n c m d _ HT.out).mono ?_
  rintro e w1 ⟨rfl, hb⟩
  have HB1 := Lib.hid (below_step HB0.out hb)
  have HL1 := Lib.hid (HL0.out.below hb)
  have HX1 := Lib.hid (HX0.out.below hb)
  clear hb HB0 HL0 HX0
  go_wp2_with fail
  refine (words_3 l.mask l.cost _).mono ?_
  rintro e w2 ⟨E1, k1, d1, rfl, ho, hb⟩
  have HE2 := Lib.hid ho
  have HB2 := Lib.hid (below_step HB1.out hb)
  have HX2 := Lib.hid (HX1.out.below hb)
  clear hb ho HB1 HL1 HX1
  have HW : Hid (sWords l.mask l.cost = bodyW l) := Lib.hid (by unfold bodyW; rw [if_neg (by rw [HT.out]; decide), if_neg (by rw [HT.out]; decide)])
  go_wp2_with fail
  refine (packWords_any E1 k1 d1 (sWords l.mask l.cost) _ (HE2.out.inF wcell_len) (by rw [HW.out]; exact bodyW_ok HS.out) (by have h1 := HE2.out.1; have h2 := bodyW_len HS.out; rw [HW.out] at h1; omega)).mono ?_
  rintro e w3 ⟨E2, k2, d2, rfl, ho, hb⟩
  have HK : Hid (k2 = (bodyN l).length) := Lib.hid (by have := ho.len; rw [← this, HW.out]; rfl)
  have HF3 : Hid (Own w3 w2.heap.size E2 k2 d2 (bodyN l)) := Lib.hid (by rw [HW.out] at ho; exact ho)
  have HB3 := Lib.hid (below_step HB2.out hb)
  have HX3 := Lib.hid (HX2.out.below hb)
  clear hb ho HB2 HX2 HE2 HW
  have hk := bodyN_len HS.out
  rw [← HK.out] at hk
  have hq1 := HS.out.seq
  by_cases hsg : l.seq < 0
  · have HQ : Hid (seqN l = l.seq + 4294967296) := Lib.hid (by unfold seqN; rw [if_pos hsg])
    have HH : Hid (InF 2 wcell (w3.alloc (.cells #[.int .i64 l.age, .int .i64 2, .int .i64 l.options, .int .i64 1, .int .i64 l.typ, .int .i64 1, .int .i64 l.id, .int .i64 4, .int .i64 l.adv, .int .i64 4, .int .i64 (l.seq + 4294967296), .int .i64 4, .int .i64 0, .int .i64 2, .int .i64 (20 + (k2 : Int)), .int .i64 2] 122)) (some ⟨w3.heap.size, 0, none⟩) 8 (headW l)) := Lib.hid ((Box.made w3 122 #[.int .i64 l.age, .int .i64 2, .int .i64 l.options, .int .i64 1, .int .i64 l.typ, .int .i64 1, .int .i64 l.id, .int .i64 4, .int .i64 l.adv, .int .i64 4, .int .i64 (l.seq + 4294967296), .int .i64 4, .int .i64 0, .int .i64 2, .int .i64 (20 + (k2 : Int)), .int .i64 2]).inF (headW l) (by simp [headW, HQ.out, HK.out]))
    have x0 := HX3.out.look 0
    have x1 := HX3.out.look 1
    have x2 := HX3.out.look 2
    have x3 := HX3.out.look 3
    have x4 := HX3.out.look 4
    have x5 := HX3.out.look 5
    have x6 := HX3.out.look 6
    have x7 := HX3.out.look 7
    have x8 := HX3.out.look 8
    have x9 := HX3.out.look 9
    go_wp2_with fail
    clear x0 x1 x2 x3 x4 x5 x6 x7 x8 x9
    refine (packWords_any (some ⟨w3.heap.size, 0, none⟩) 8 8 (headW l) _ HH.out (headW_ok HS.out) (by omega)).mono ?_
    rintro e w4 ⟨E3, k3, d3, rfl, ho, hb⟩
    have hb3 : Below w3.heap.size w3 (w3.alloc (.cells #[.int .i64 l.age, .int .i64 2, .int .i64 l.options, .int .i64 1, .int .i64 l.typ, .int .i64 1, .int .i64 l.id, .int .i64 4, .int .i64 l.adv, .int .i64 4, .int .i64 (l.seq + 4294967296), .int .i64 4, .int .i64 0, .int .i64 2, .int .i64 (20 + (k2 : Int)), .int .i64 2] 122)) := (Below.refl _ _).alloc (Nat.le_refl _) _
    have HF4 := Lib.hid (HF3.out.below (below_step hb3 hb)).bin
    have HB4 := Lib.hid (below_step HB3.out (below_step hb3 hb))
    have HO4 : Hid (Own w4 w.heap.size E3 20 d3 (headN l)) := Lib.hid (by
      have e := ho.len
      have e2 := headN_len l
      obtain rfl : k3 = 20 := by rw [← e]; exact e2
      exact ho.mono (Nat.le_trans HB3.out.size (by simp)))
    obtain rfl : k3 = 20 := by rw [← ho.len]; exact headN_len l
    clear ho hb hb3 HF3 HB3 HX3 HH
    go_wp2_with (at_builtin; refine wpList_app rfl (.tmp 43) (.tmp 44) rfl rfl HO4.out rfl (by omega) HF4.out (by omega) HB4.out.size ?_; intro A' c' w5 ho5 hg5)
    go_ret
    refine ⟨A', c', by rw [← HK.out]; rfl, ?_, HB4.out.grown hg5 HB4.out.size (fun r hr => (HO4.out.block r hr).1)⟩
    rw [← HK.out]; exact ho5
  · have HQ : Hid (seqN l = l.seq) := Lib.hid (by unfold seqN; rw [if_neg hsg])
    have HH : Hid (InF 2 wcell (w3.alloc (.cells #[.int .i64 l.age, .int .i64 2, .int .i64 l.options, .int .i64 1, .int .i64 l.typ, .int .i64 1, .int .i64 l.id, .int .i64 4, .int .i64 l.adv, .int .i64 4, .int .i64 (l.seq), .int .i64 4, .int .i64 0, .int .i64 2, .int .i64 (20 + (k2 : Int)), .int .i64 2] 122)) (some ⟨w3.heap.size, 0, none⟩) 8 (headW l)) := Lib.hid ((Box.made w3 122 #[.int .i64 l.age, .int .i64 2, .int .i64 l.options, .int .i64 1, .int .i64 l.typ, .int .i64 1, .int .i64 l.id, .int .i64 4, .int .i64 l.adv, .int .i64 4, .int .i64 (l.seq), .int .i64 4, .int .i64 0, .int .i64 2, .int .i64 (20 + (k2 : Int)), .int .i64 2]).inF (headW l) (by simp [headW, HQ.out, HK.out]))
    have x0 := HX3.out.look 0
    have x1 := HX3.out.look 1
    have x2 := HX3.out.look 2
    have x3 := HX3.out.look 3
    have x4 := HX3.out.look 4
    have x5 := HX3.out.look 5
    have x6 := HX3.out.look 6
    have x7 := HX3.out.look 7
    have x8 := HX3.out.look 8
    have x9 := HX3.out.look 9
    go_wp2_with fail
    clear x0 x1 x2 x3 x4 x5 x6 x7 x8 x9
    refine (packWords_any (some ⟨w3.heap.size, 0, none⟩) 8 8 (headW l) _ HH.out (headW_ok HS.out) (by omega)).mono ?_
    rintro e w4 ⟨E3, k3, d3, rfl, ho, hb⟩
    have hb3 : Below w3.heap.size w3 (w3.alloc (.cells #[.int .i64 l.age, .int .i64 2, .int .i64 l.options, .int .i64 1, .int .i64 l.typ, .int .i64 1, .int .i64 l.id, .int .i64 4, .int .i64 l.adv, .int .i64 4, .int .i64 (l.seq), .int .i64 4, .int .i64 0, .int .i64 2, .int .i64 (20 + (k2 : Int)), .int .i64 2] 122)) := (Below.refl _ _).alloc (Nat.le_refl _) _
    have HF4 := Lib.hid (HF3.out.below (below_step hb3 hb)).bin
    have HB4 := Lib.hid (below_step HB3.out (below_step hb3 hb))
    have HO4 : Hid (Own w4 w.heap.size E3 20 d3 (headN l)) := Lib.hid (by
      have e := ho.len
      have e2 := headN_len l
      obtain rfl : k3 = 20 := by rw [← e]; exact e2
      exact ho.mono (Nat.le_trans HB3.out.size (by simp)))
    obtain rfl : k3 = 20 := by rw [← ho.len]; exact headN_len l
    clear ho hb hb3 HF3 HB3 HX3 HH
    go_wp2_with (at_builtin; refine wpList_app rfl (.tmp 43) (.tmp 44) rfl rfl HO4.out rfl (by omega) HF4.out (by omega) HB4.out.size ?_; intro A' c' w5 ho5 hg5)
    go_ret
    refine ⟨A', c', by rw [← HK.out]; rfl, ?_, HB4.out.grown hg5 HB4.out.size (fun r hr => (HO4.out.block r hr).1)⟩
    rw [← HK.out]; exact ho5

theorem unsealed_any (l : LsaM) (q : Bool) (lo hi : Nat) (A B : Option Addr) (n c m d : Nat) (w : World) (hl : LsaAt q lo hi w A n B m l) (hs : Sound l) :
    Calls Try.prog 55 #[.agg (lsaCells l A B n c m d)] w fun e w' => ∃ E c', e = .returned (.slice E (20 + (bodyN l).length) c') ∧ Own w' w.heap.size E (20 + (bodyN l).length) c' (rawN l) ∧ Below w.heap.size w w' := by
  rcases hs.typ with h | h | h
  · exact unsealed_1 l q lo hi A B n c m d w hl hs h
  · exact unsealed_2 l q lo hi A B n c m d w hl hs h
  · exact unsealed_3 l q lo hi A B n c m d w hl hs h

end Go.Proofs.Ytamclkjofojhmaa
