/-
  What both EncodeLsa and both SumOf answer. No statement is proved here.
-/
import Derived.Test.YtamclkjofojhmaaEncode
import Derived.Test.YtamclkjofojhmaaL2Enc
import Derived.Test.YtamclkjofojhmaaRead
namespace Go.Proofs.Ytamclkjofojhmaa
open Go.RowKit
set_option linter.unusedVariables false

def ebytes (l : LsaM) : List Int := if faultOf l = 0 then encN l else []
def sumV (l : LsaM) : Int := if faultOf l = 0 then readN (((encN l).drop 16).take 2) else 0
theorem ebytes_len (l : LsaM) : (ebytes l).length ≤ 120 := by
  unfold ebytes
  split
  · rw [encN_len]; have := bodyN_len (sound_of l ‹_›); omega
  · simp
theorem ebytes_bytes (l : LsaM) : Bytes (ebytes l) := by
  unfold ebytes
  split
  · exact encN_bytes l
  · intro z hz; cases hz

theorem encode_any (l : LsaM) (q : Bool) (lo hi : Nat) (A B : Option Addr) (n c m d : Nat) (w : World) (hl : LsaAt q lo hi w A n B m l) (hn : n ≤ 1048576) (hm : m ≤ 1048576) :
    Calls Try.prog 14 #[.agg (lsaCells l A B n c m d)] w fun e w' => ∃ E k j, e = .returned (.agg #[.int .i64 (faultOf l), .slice E k j]) ∧ Own w' w.heap.size E k j (ebytes l) ∧ Below w.heap.size w w' := by
  by_cases h : faultOf l = 0
  · refine (encode_yes l q lo hi A B n c m d w hl hn hm h).mono fun e w' ⟨E, k, h1, h2, h3⟩ => ⟨E, _, k, by rw [h]; exact h1, ?_, h3⟩
    unfold ebytes; rw [if_pos h]; exact h2
  · refine (encode_no l q lo hi A B n c m d w hl hn hm h).mono fun e w' ⟨h1, h2⟩ => ⟨none, 0, 0, h1, ?_, h2⟩
    unfold ebytes; rw [if_neg h]; exact Own.nil_ _ _

theorem setTwo {u w : World} {g : Nat} (h : Below w.heap.size w u) (hg : w.heap.size ≤ g) (x y : Value) : Below w.heap.size w ((u.setCell ⟨g, 0, none⟩ x).setCell ⟨g, 1, none⟩ y) := (h.setCell (p := ⟨g, 0, none⟩) hg x).setCell (p := ⟨g, 1, none⟩) hg y

set_option maxRecDepth 100000 in
set_option maxHeartbeats 1600000 in
theorem specEncode_any (l : LsaM) (q : Bool) (lo hi : Nat) (A B : Option Addr) (n c m d : Nat) (w : World) (hl : LsaAt q lo hi w A n B m l) (hn : n ≤ 1048576) (hm : m ≤ 1048576) :
    Calls Try.prog 18 #[.agg (lsaCells l A B n c m d)] w fun e w' => ∃ E k j, e = .returned (.agg #[.int .i64 (faultOf l), .slice E k j]) ∧ Own w' w.heap.size E k j (ebytes l) ∧ Below w.heap.size w w' := by
  have hV : Below w.heap.size w ((w.alloc (.cells (lsaCells l A B n c m d) 29)).alloc (.cells #[.int .i64 0, .slice none 0 0] 32)) := ((Below.refl _ _).alloc (Nat.le_refl _) _).alloc (by simp) _
  have HB := Lib.hid hV
  have HL := Lib.hid (hl.below hV)
  clear hV hl
  obtain ⟨r, hr⟩ : ∃ r, faultOf l = r := ⟨_, rfl⟩
  rw [hr]
  have HR := Lib.hid hr
  clear hr
  go_enter Try.func18, Try.ntmps18
  go_wp2_with fail
  obtain ⟨V, hV⟩ : ∃ W : World, W = (w.alloc (.cells (lsaCells l A B n c m d) 29)).alloc (.cells #[.int .i64 0, .slice none 0 0] 32) := ⟨_, rfl⟩
  have hs : (w.alloc (.cells (lsaCells l A B n c m d) 29)).heap.size = w.heap.size + 1 := by simp
  have HX : Hid (Box V (w.heap.size + 1) 32 #[.int .i64 0, .slice none 0 0]) := Lib.hid (by rw [hV, ← hs]; exact Box.made _ _ _)
  have HY : Hid (Box V w.heap.size 29 (lsaCells l A B n c m d)) := Lib.hid (by rw [hV]; exact (Box.made _ _ _).below ((Below.refl _ _).alloc (Nat.le_refl _) _))
  rw [← hV] at HB HL ⊢
  clear hV hs
  refine (specFault_any l q lo hi A B n c m d _ HL.out.in_ HL.out.le hn hm).mono ?_
  rw [HR.out]
  rintro e w1 ⟨rfl, hb⟩
  have HX1 := Lib.hid (HX.out.below hb)
  have HY1 := Lib.hid (HY.out.below hb)
  have HL1 := Lib.hid (HL.out.below hb)
  have HB1 := Lib.hid (below_step HB.out hb)
  clear hb HX HB HL HY
  have hr := HR.out
  by_cases h : r = 0
  rotate_left
  · have hne : (r != 0) = true := by rw [bne_iff_ne]; exact h
    have HE : Hid (ebytes l = []) := Lib.hid (by unfold ebytes; rw [if_neg (by rw [hr]; exact h)])
    clear hr h
    have y0 := HX1.out.look 0
    have y1 := HX1.out.look 1
    have f0 := HX1.out.free 0
    have f1 := HX1.out.free 1
    go_wp2
    have HX2 := (HX1.out.put 0 (.int .i64 r)).put 1 (.slice none 0 0)
    have z0 := HX2.look 0
    have z1 := HX2.look 1
    exact bodyPost_ret (v := .agg #[.int .i64 r, .slice none 0 0]) (by simp [results, Try.results18, go_sem, z0, z1]) rfl ⟨none, 0, 0, rfl, by rw [HE.out]; exact Own.nil_ _ _, setTwo HB1.out (by omega) _ _⟩
  · subst h
    have HS := Lib.hid (sound_of l hr)
    have HE : Hid (ebytes l = encN l) := Lib.hid (by unfold ebytes; rw [if_pos hr])
    clear hr
    go_wp2_with fail
    refine (l2Encode_any l q lo hi A B n c m d w.heap.size _ HY1.out HL1.out HS.out).mono ?_
    rintro e w2 ⟨E, k, rfl, ho, hb⟩
    have HX2 := Lib.hid (HX1.out.below hb)
    have HO := Lib.hid ho
    have HB2 := Lib.hid (below_step HB1.out hb)
    have HG : Hid (w.heap.size + 1 < w1.heap.size) := Lib.hid HX1.out.lt
    clear ho hb
    have y0 := HX2.out.look 0
    have y1 := HX2.out.look 1
    have f0 := HX2.out.free 0
    have f1 := HX2.out.free 1
    go_wp2
    have hG := grown_trans (setCell_grown w2 ⟨w.heap.size + 1, 0, none⟩ (.int .i64 0)) (setCell_grown _ ⟨w.heap.size + 1, 1, none⟩ (.slice E (20 + (bodyN l).length) k))
    have hblk := HO.out.block
    have hg := HG.out
    have hf2 : Own _ w.heap.size E (20 + (bodyN l).length) k (encN l) := (HO.out.grown hG (by
      cases hF : E.map (·.block) with
      | none => exact .inl rfl
      | some r =>
        refine .inr (fun e => ?_)
        injection e with e
        have e' : r = w.heap.size + 1 := e
        have := (hblk r hF).1
        omega)).mono (by omega)
    have HX3 := (HX2.out.put 0 (.int .i64 0)).put 1 (.slice E (20 + (bodyN l).length) k)
    have z0 := HX3.look 0
    have z1 := HX3.look 1
    exact bodyPost_ret (v := .agg #[.int .i64 0, .slice E (20 + (bodyN l).length) k]) (by simp [results, Try.results18, go_sem, z0, z1]) rfl ⟨E, _, k, rfl, by rw [HE.out]; exact hf2, setTwo HB2.out (by omega) _ _⟩

theorem l2Sum_any (l : LsaM) (q : Bool) (lo hi : Nat) (A B : Option Addr) (n c m d g : Nat) (w : World) (hx : Box w g 29 (lsaCells l A B n c m d)) (hl : LsaAt q lo hi w A n B m l) (hs : Sound l) :
    Calls Try.prog 83 #[.pointer (some ⟨g, 0, none⟩)] w fun e w' => e = .returned (.int .i64 (readN (((encN l).drop 16).take 2))) ∧ Below w.heap.size w w' := by
  have HX := Lib.hid hx
  have HL := Lib.hid hl
  have HS := Lib.hid hs
  have hbd := bodyN_len hs
  clear hx hl hs
  go_enter Try.func83, Try.ntmps83
  go_wp2_with fail
  refine (l2Encode_any l q lo hi A B n c m d g _ HX.out HL.out HS.out).mono ?_
  rintro e w2 ⟨E, k, rfl, ho, hb⟩
  have HO := Lib.hid ho.bin
  have HB := Lib.hid hb
  clear ho hb
  go_wp2_with fail
  refine (l1Read_any E (20 + (bodyN l).length) k (encN l) 16 2 _ HO.out (encN_bytes l) (by omega) (by omega) (by omega)).mono ?_
  rintro e w3 ⟨rfl, rfl⟩
  go_wp2
  go_ret
  exact ⟨rfl, HB.out⟩

set_option maxRecDepth 100000 in
set_option maxHeartbeats 1600000 in
theorem specSum_any (l : LsaM) (q : Bool) (lo hi : Nat) (A B : Option Addr) (n c m d : Nat) (w : World) (hl : LsaAt q lo hi w A n B m l) (hn : n ≤ 1048576) (hm : m ≤ 1048576) :
    Calls Try.prog 22 #[.agg (lsaCells l A B n c m d)] w fun e w' => e = .returned (.agg #[.int .i64 (faultOf l), .int .i64 (sumV l)]) ∧ Below w.heap.size w w' := by
  have hV : Below w.heap.size w ((w.alloc (.cells (lsaCells l A B n c m d) 29)).alloc (.cells #[.int .i64 0, .int .i64 0] 42)) := ((Below.refl _ _).alloc (Nat.le_refl _) _).alloc (by simp) _
  have HB := Lib.hid hV
  have HL := Lib.hid (hl.below hV)
  clear hV hl
  obtain ⟨r, hr⟩ : ∃ r, faultOf l = r := ⟨_, rfl⟩
  obtain ⟨sv, hsv⟩ : ∃ s, sumV l = s := ⟨_, rfl⟩
  rw [hr, hsv]
  have HR := Lib.hid hr
  have HSV := Lib.hid hsv
  clear hr hsv
  go_enter Try.func22, Try.ntmps22
  go_wp2_with fail
  obtain ⟨V, hV⟩ : ∃ W : World, W = (w.alloc (.cells (lsaCells l A B n c m d) 29)).alloc (.cells #[.int .i64 0, .int .i64 0] 42) := ⟨_, rfl⟩
  have hs : (w.alloc (.cells (lsaCells l A B n c m d) 29)).heap.size = w.heap.size + 1 := by simp
  have HX : Hid (Box V (w.heap.size + 1) 42 #[.int .i64 0, .int .i64 0]) := Lib.hid (by rw [hV, ← hs]; exact Box.made _ _ _)
  have HY : Hid (Box V w.heap.size 29 (lsaCells l A B n c m d)) := Lib.hid (by rw [hV]; exact (Box.made _ _ _).below ((Below.refl _ _).alloc (Nat.le_refl _) _))
  rw [← hV] at HB HL ⊢
  clear hV hs
  refine (specFault_any l q lo hi A B n c m d _ HL.out.in_ HL.out.le hn hm).mono ?_
  rw [HR.out]
  rintro e w1 ⟨rfl, hb⟩
  have HX1 := Lib.hid (HX.out.below hb)
  have HY1 := Lib.hid (HY.out.below hb)
  have HL1 := Lib.hid (HL.out.below hb)
  have HB1 := Lib.hid (below_step HB.out hb)
  clear hb HX HB HL HY
  have hr := HR.out
  by_cases h : r = 0
  rotate_left
  · have hne : (r != 0) = true := by rw [bne_iff_ne]; exact h
    obtain rfl : sv = 0 := by rw [← HSV.out]; unfold sumV; rw [if_neg (by rw [hr]; exact h)]
    clear hr h
    have y0 := HX1.out.look 0
    have y1 := HX1.out.look 1
    have f0 := HX1.out.free 0
    have f1 := HX1.out.free 1
    go_wp2
    have HX2 := (HX1.out.put 0 (.int .i64 r)).put 1 (.int .i64 0)
    have z0 := HX2.look 0
    have z1 := HX2.look 1
    exact bodyPost_ret (v := .agg #[.int .i64 r, .int .i64 0]) (by simp [results, Try.results22, go_sem, z0, z1]) rfl ⟨rfl, setTwo HB1.out (by omega) _ _⟩
  · subst h
    have HS := Lib.hid (sound_of l hr)
    have HE : Hid (readN (((encN l).drop 16).take 2) = sv) := Lib.hid (by rw [← HSV.out]; unfold sumV; rw [if_pos hr])
    clear hr
    go_wp2_with fail
    refine (l2Sum_any l q lo hi A B n c m d w.heap.size _ HY1.out HL1.out HS.out).mono ?_
    rw [HE.out]
    rintro e w2 ⟨rfl, hb⟩
    have HX2 := Lib.hid (HX1.out.below hb)
    have HB2 := Lib.hid (below_step HB1.out hb)
    clear hb
    have y0 := HX2.out.look 0
    have y1 := HX2.out.look 1
    have f0 := HX2.out.free 0
    have f1 := HX2.out.free 1
    go_wp2
    have HX3 := (HX2.out.put 0 (.int .i64 0)).put 1 (.int .i64 sv)
    have z0 := HX3.look 0
    have z1 := HX3.look 1
    exact bodyPost_ret (v := .agg #[.int .i64 0, .int .i64 sv]) (by simp [results, Try.results22, go_sem, z0, z1]) rfl ⟨rfl, setTwo HB2.out (by omega) _ _⟩

set_option maxRecDepth 100000 in
set_option maxHeartbeats 1600000 in
theorem sum_any (l : LsaM) (q : Bool) (lo hi : Nat) (A B : Option Addr) (n c m d : Nat) (w : World) (hl : LsaAt q lo hi w A n B m l) (hn : n ≤ 1048576) (hm : m ≤ 1048576) :
    Calls Try.prog 21 #[.agg (lsaCells l A B n c m d)] w fun e w' => e = .returned (.agg #[.int .i64 (faultOf l), .int .i64 (sumV l)]) ∧ Below w.heap.size w w' := by
  have hV : Below w.heap.size w ((w.alloc (.cells (lsaCells l A B n c m d) 29)).alloc (.cells #[.int .i64 0, .int .i64 0] 42)) := ((Below.refl _ _).alloc (Nat.le_refl _) _).alloc (by simp) _
  have HB := Lib.hid hV
  have HL := Lib.hid (hl.below hV)
  clear hV hl
  obtain ⟨r, hr⟩ : ∃ r, faultOf l = r := ⟨_, rfl⟩
  obtain ⟨sv, hsv⟩ : ∃ s, sumV l = s := ⟨_, rfl⟩
  rw [hr, hsv]
  have HR := Lib.hid hr
  have HSV := Lib.hid hsv
  clear hr hsv
  go_enter Try.func21, Try.ntmps21
  go_wp2_with fail
  obtain ⟨V, hV⟩ : ∃ W : World, W = (w.alloc (.cells (lsaCells l A B n c m d) 29)).alloc (.cells #[.int .i64 0, .int .i64 0] 42) := ⟨_, rfl⟩
  have hs : (w.alloc (.cells (lsaCells l A B n c m d) 29)).heap.size = w.heap.size + 1 := by simp
  have HX : Hid (Box V (w.heap.size + 1) 42 #[.int .i64 0, .int .i64 0]) := Lib.hid (by rw [hV, ← hs]; exact Box.made _ _ _)
  rw [← hV] at HB HL ⊢
  clear hV hs
  refine (encode_any l q lo hi A B n c m d _ HL.out hn hm).mono ?_
  rw [HR.out]
  rintro e w1 ⟨E, k, j, rfl, ho, hb⟩
  have HX1 := Lib.hid (HX.out.below hb)
  have HB1 := Lib.hid (below_step HB.out hb)
  have HO := Lib.hid ho
  clear hb ho HX HB HL
  have hr := HR.out
  have hW : Below w1.heap.size w1 (w1.alloc (.cells #[.int .i64 r, .slice E k j] 32)) := (Below.refl _ _).alloc (Nat.le_refl _) _
  have HX2 := Lib.hid (HX1.out.below hW)
  have HB2 := Lib.hid (below_step HB1.out hW)
  by_cases h : r = 0
  rotate_left
  · have hne : (r != 0) = true := by rw [bne_iff_ne]; exact h
    obtain rfl : sv = 0 := by rw [← HSV.out]; unfold sumV; rw [if_neg (by rw [hr]; exact h)]
    clear hr h hW
    have y0 := HX2.out.look 0
    have y1 := HX2.out.look 1
    have f0 := HX2.out.free 0
    have f1 := HX2.out.free 1
    go_wp2
    have HX3 := (HX2.out.put 0 (.int .i64 r)).put 1 (.int .i64 0)
    have z0 := HX3.look 0
    have z1 := HX3.look 1
    exact bodyPost_ret (v := .agg #[.int .i64 r, .int .i64 0]) (by simp [results, Try.results21, go_sem, z0, z1]) rfl ⟨rfl, setTwo HB2.out (by omega) _ _⟩
  · subst h
    have hS := sound_of l hr
    have hbd := bodyN_len hS
    have HEB : Hid (ebytes l = encN l) := Lib.hid (by unfold ebytes; rw [if_pos hr])
    have HE : Hid (readN (((encN l).drop 16).take 2) = sv) := Lib.hid (by rw [← HSV.out]; unfold sumV; rw [if_pos hr])
    have hk : k = 20 + (bodyN l).length := by have := HO.out.len; rw [HEB.out, encN_len] at this; omega
    have HOB := Lib.hid (HO.out.bin.below hW)
    have hkj := HO.out.cap
    rw [HEB.out] at HOB
    have hrok : rOK k 16 2 := by unfold rOK; omega
    have HRC : Hid (rcode k 16 2 = 0) := Lib.hid (by unfold rcode; rw [if_pos hrok])
    have HRV : Hid (rval k (encN l) 16 2 = readN (((encN l).drop 16).take 2)) := Lib.hid (by unfold rval; rw [if_pos hrok]; rfl)
    have HKB : Hid (k ≤ 1048576) := Lib.hid (by omega)
    have HKJ := Lib.hid hkj
    clear hr hS hbd hk hW hkj hrok
    go_wp2_with fail
    refine (read_any E k j (encN l) 16 2 _ HOB.out (encN_bytes l) HKB.out HKJ.out).mono ?_
    rw [HRC.out, HRV.out]
    rw [HE.out]
    rintro e w2 ⟨rfl, hb⟩
    have HX3 := Lib.hid (HX2.out.below hb)
    have HB3 := Lib.hid (below_step HB2.out hb)
    clear hb
    have y0 := HX3.out.look 0
    have y1 := HX3.out.look 1
    have f0 := HX3.out.free 0
    have f1 := HX3.out.free 1
    go_wp2
    have HX4 := (HX3.out.put 0 (.int .i64 0)).put 1 (.int .i64 sv)
    have z0 := HX4.look 0
    have z1 := HX4.look 1
    exact bodyPost_ret (v := .agg #[.int .i64 0, .int .i64 sv]) (by simp [results, Try.results21, go_sem, z0, z1]) rfl ⟨rfl, setTwo HB3.out (by omega) _ _⟩

end Go.Proofs.Ytamclkjofojhmaa
