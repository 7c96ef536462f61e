/-
  The program's EncodeLsa. No statement is proved here.
-/
import Derived.Test.YtamclkjofojhmaaUnsealed
import Derived.Test.YtamclkjofojhmaaConcat
import Derived.Deep.RegionHeld3
namespace Go.Proofs.Ytamclkjofojhmaa
open Go.RowKit

/-- A part of bytes that can be read. -/
theorem BIn.part {w : World} {g o n a s : Nat} {zs : List Int} (h : BIn w (some ⟨g, o, none⟩) n zs) (has : a + s ≤ n) : BIn w (some ⟨g, o + a, none⟩) s ((zs.drop a).take s) := by
  have hl := h.1
  refine ⟨by rw [List.length_take, List.length_drop]; omega, fun hs => ⟨g, o + a, rfl, fun i hi => ?_⟩⟩
  obtain ⟨g', o', e, hc⟩ := h.at_ (k := a + i) (by omega)
  injection e with e
  injection e with e1 e2
  subst e1 e2
  rw [show ((zs.drop a).take s).getD i 0 = zs.getD (a + i) 0 by simp [List.getD, hi], Nat.add_assoc]
  exact hc

theorem encode_no (l : LsaM) (q : Bool) (lo hi : Nat) (A B : Option Addr) (n c m d : Nat) (w : World) (hl : LsaAt q lo hi w A n B m l) (hn : n ≤ 1048576) (hm : m ≤ 1048576) (hf : ¬ faultOf l = 0) :
    Calls Try.prog 14 #[.agg (lsaCells l A B n c m d)] w fun e w' => e = .returned (.agg #[.int .i64 (faultOf l), .slice none 0 0]) ∧ Below w.heap.size w w' := by
  have hV : Below w.heap.size w ((w.alloc (.cells (lsaCells l A B n c m d) 29)).alloc (.cells #[.int .i64 0, .slice none 0 0] 32)) := ((Below.refl _ _).alloc (Nat.le_refl _) _).alloc (by simp) _
  have HB := Lib.hid hV
  have HL := Lib.hid (hl.below hV)
  clear hV hl
  obtain ⟨r, hr⟩ : ∃ r, faultOf l = r := ⟨_, rfl⟩
  rw [hr] at hf
  have HR := Lib.hid hr
  have hne : (r != 0) = true := by rw [bne_iff_ne]; exact hf
  rw [HR.out]
  clear hr
  go_enter Try.func14, Try.ntmps14
  go_wp2_with fail
  obtain ⟨V, hV⟩ : ∃ W : World, W = (w.alloc (.cells (lsaCells l A B n c m d) 29)).alloc (.cells #[.int .i64 0, .slice none 0 0] 32) := ⟨_, rfl⟩
  have hs : (w.alloc (.cells (lsaCells l A B n c m d) 29)).heap.size = w.heap.size + 1 := by simp
  have HX : Hid (Box V (w.heap.size + 1) 32 #[.int .i64 0, .slice none 0 0]) := Lib.hid (by rw [hV, ← hs]; exact Box.made _ _ _)
  rw [← hV] at HB HL ⊢
  clear hV hs
  refine (lsaFault_any l q lo hi A B n c m d _ HL.out hn hm).mono ?_
  rw [HR.out]
  rintro e w1 ⟨rfl, hb⟩
  have HX1 := Lib.hid (HX.out.below hb)
  have HB1 := Lib.hid (below_step HB.out hb)
  have HS : Hid (w.heap.size ≤ w.heap.size + 1) := Lib.hid (by omega)
  clear hb HX HB HL
  have y0 := HX1.out.look 0
  have y1 := HX1.out.look 1
  have f0 := HX1.out.free 0
  have f1 := HX1.out.free 1
  go_wp2
  have hb := (HB1.out.setCell (p := ⟨w.heap.size + 1, 0, none⟩) HS.out (.int .i64 r)).setCell (p := ⟨w.heap.size + 1, 1, none⟩) HS.out (.slice none 0 0)
  have HX2 := (HX1.out.put 0 (.int .i64 r)).put 1 (.slice none 0 0)
  have z0 := HX2.look 0
  have z1 := HX2.look 1
  refine bodyPost_ret (v := .agg #[.int .i64 r, .slice none 0 0]) (by simp [results, Try.results14, go_sem, z0, z1]) rfl ⟨rfl, hb⟩

set_option maxRecDepth 100000 in
set_option maxHeartbeats 3200000 in
theorem encode_yes (l : LsaM) (q : Bool) (lo hi : Nat) (A B : Option Addr) (n c m d : Nat) (w : World) (hl : LsaAt q lo hi w A n B m l) (hn : n ≤ 1048576) (hm : m ≤ 1048576) (hf : faultOf l = 0) :
    Calls Try.prog 14 #[.agg (lsaCells l A B n c m d)] w fun e w' => ∃ E k, e = .returned (.agg #[.int .i64 0, .slice E (20 + (bodyN l).length) k]) ∧ Own w' w.heap.size E (20 + (bodyN l).length) k (encN l) ∧ Below w.heap.size w w' := by
  have hV : Below w.heap.size w ((w.alloc (.cells (lsaCells l A B n c m d) 29)).alloc (.cells #[.int .i64 0, .slice none 0 0] 32)) := ((Below.refl _ _).alloc (Nat.le_refl _) _).alloc (by simp) _
  have HB := Lib.hid hV
  have HL := Lib.hid (hl.below hV)
  have HF := Lib.hid hf
  have HS := Lib.hid (sound_of l hf)
  clear hV hl hf
  obtain ⟨bl, hbl⟩ : ∃ bl, (bodyN l).length = bl := ⟨_, rfl⟩
  have HBL := Lib.hid hbl
  have hbd := bodyN_len HS.out
  rw [hbl] at hbd ⊢
  clear hbl
  go_enter Try.func14, Try.ntmps14
  go_wp2_with fail
  obtain ⟨V, hV⟩ : ∃ W : World, W = (w.alloc (.cells (lsaCells l A B n c m d) 29)).alloc (.cells #[.int .i64 0, .slice none 0 0] 32) := ⟨_, rfl⟩
  have hs : (w.alloc (.cells (lsaCells l A B n c m d) 29)).heap.size = w.heap.size + 1 := by simp
  have HX : Hid (Box V (w.heap.size + 1) 32 #[.int .i64 0, .slice none 0 0]) := Lib.hid (by rw [hV, ← hs]; exact Box.made _ _ _)
  have HY : Hid (Box V w.heap.size 29 (lsaCells l A B n c m d)) := Lib.hid (by rw [hV]; exact (Box.made _ _ _).below ((Below.refl _ _).alloc (Nat.le_refl _) _))
  rw [← hV] at HB HL ⊢
  clear hV hs
  refine (lsaFault_any l q lo hi A B n c m d _ HL.out hn hm).mono ?_
  rw [HF.out]
  rintro e w1 ⟨rfl, hb⟩
  have HX1 := Lib.hid (HX.out.below hb)
  have HY1 := Lib.hid (HY.out.below hb)
  have HL1 := Lib.hid (HL.out.below hb)
  have HB1 := Lib.hid (below_step HB.out hb)
  clear hb HX HB HL HY
  have x0 := HY1.out.look 0
  have x1 := HY1.out.look 1
  have x2 := HY1.out.look 2
  have x3 := HY1.out.look 3
  have x4 := HY1.out.look 4
  have x5 := HY1.out.look 5
  have x6 := HY1.out.look 6
  have x7 := HY1.out.look 7
  have x8 := HY1.out.look 8
  have x9 := HY1.out.look 9
  go_wp2_with fail
  clear x0 x1 x2 x3 x4 x5 x6 x7 x8 x9
  refine (unsealed_any l q lo hi A B n c m d _ HL1.out HS.out).mono ?_
  rw [HBL.out]
  rintro e w2 ⟨E, k, rfl, ho, hb⟩
  obtain ⟨g, rfl, hg1, hg2⟩ := ho.form (by omega)
  have hcap := ho.cap
  have HO2 := Lib.hid ho
  have HX2 := Lib.hid (HX1.out.below hb)
  have HB2 := Lib.hid (below_step HB1.out hb)
  have HG : Hid (w.heap.size + 1 < g) := Lib.hid (by have := HX1.out.lt; omega)
  clear ho hb HX1 HB1 HY1 HL1 hg1 hg2
  have hi1 : (2 : Int) ≤ (20 + bl : Nat) := by omega
  have hi2 : (2 : Int) ≤ (k : Int) := by omega
  have hk2 : ¬ k = 2 := by omega
  have hpart : BIn w2 (some ⟨g, 2, none⟩) (20 + bl - 2) ((rawN l).drop 2) := by
    have h := HO2.out.bin.part (a := 2) (s := 20 + bl - 2) (by omega)
    rw [List.take_of_length_le (by rw [List.length_drop, HO2.out.len]; omega), Nat.zero_add] at h
    exact h
  have HP2 := Lib.hid hpart
  have HRB : Hid (Bytes ((rawN l).drop 2)) := Lib.hid (fun z h => rawN_bytes l z (List.mem_of_mem_drop h))
  have HM2 := Lib.hid hbd
  clear hpart
  go_wp2_with fail
  refine (seal_yes _ (20 + bl - 2) _ ((rawN l).drop 2) 14 _ HP2.out HRB.out (by omega) (by omega)).mono ?_
  rintro e w3 ⟨S, sc, rfl, ho, hb⟩
  have HO3 := Lib.hid (HO2.out.below hb)
  have HS3 := Lib.hid ho
  have HX3 := Lib.hid (HX2.out.below hb)
  have HB3 := Lib.hid (below_step HB2.out hb)
  have HG3 : Hid (g < w3.heap.size) := Lib.hid (HO3.out.block g rfl).2
  clear ho hb HX2 HB2 HO2 HP2
  have hi3 : (0 : Int) ≤ 2 := by omega
  have hi4 : (2 : Int) ≤ (k : Int) := by omega
  go_wp2_with fail
  obtain ⟨V, hV⟩ : ∃ W : World, W = w3.alloc (.cells #[.int .i64 0, .slice S (20 + bl - 2) sc] 32) := ⟨_, rfl⟩
  have hbV : Below w3.heap.size w3 V := by rw [hV]; exact (Below.refl _ _).alloc (Nat.le_refl _) _
  have HZ : Hid (Box V w3.heap.size 32 #[.int .i64 0, .slice S (20 + bl - 2) sc]) := Lib.hid (by rw [hV]; exact Box.made _ _ _)
  rw [← hV]
  clear hV
  have HO4 := Lib.hid (HO3.out.below hbV)
  have HS4 := Lib.hid (HS3.out.below hbV)
  have HX4 := Lib.hid (HX3.out.below hbV)
  have HB4 := Lib.hid (below_step HB3.out hbV)
  clear hbV HO3 HS3 HX3 HB3
  have hbW : Below V.heap.size V (V.drew.alloc (.cells #[.slice (some ⟨g, 0, none⟩) 2 k, .slice S (20 + bl - 2) sc] 22)) := ((Below.refl _ _).drew).alloc (by simp) _
  have HXW : Hid (Box (V.drew.alloc (.cells #[.slice (some ⟨g, 0, none⟩) 2 k, .slice S (20 + bl - 2) sc] 22)) V.heap.size 22 #[.slice (some ⟨g, 0, none⟩) 2 k, .slice S (20 + bl - 2) sc]) := Lib.hid (Box.made V.drew _ _)
  have HAW : Hid (BIn (V.drew.alloc (.cells #[.slice (some ⟨g, 0, none⟩) 2 k, .slice S (20 + bl - 2) sc] 22)) (some ⟨g, 0, none⟩) 2 ((rawN l).take 2)) := Lib.hid (by
    have h := (HO4.out.bin.part (a := 0) (s := 2) (by omega)).below hbW
    rw [List.drop_zero, Nat.zero_add] at h
    exact h)
  have HEW : Hid (BIn (V.drew.alloc (.cells #[.slice (some ⟨g, 0, none⟩) 2 k, .slice S (20 + bl - 2) sc] 22)) S (20 + bl - 2) (sealN ((rawN l).drop 2) 14)) := Lib.hid (HS4.out.bin.below hbW)
  have HBW := Lib.hid hbW
  have SB : Hid (∀ W, Hid (Below V.heap.size V W) → (fun W => W.cell? ⟨w3.heap.size, 1, none⟩ = some (.slice S (20 + bl - 2) sc)) W) := Lib.hid (fun W h => (HZ.out.below h.out).look 1)
  have V0 : Hid (Below V.heap.size V V.drew) := (Below.refl _ _).drew
  have hne' : ¬ w3.heap.size = w.heap.size + 1 := by have := HG.out; have := HG3.out; omega
  clear hbW
  go_region_held3 (fun W => W.cell? ⟨w3.heap.size, 1, none⟩ = some (.slice S (20 + bl - 2) sc)) (first | exact SB.out _ (by assumption) | exact SB.out _ HBW | ((try dsimp only); rw [World.cell?_setCell_far _ _ _ _ (fun h => hne' h.symm), World.cell?_setCell_far _ _ _ _ (fun h => hne' h.symm)]; exact hz1))
    (first | (go_at_call 57; refine (concat_two V.heap.size 22 (some ⟨g, 0, none⟩) S 2 k (20 + bl - 2) sc ((rawN l).take 2) (sealN ((rawN l).drop 2) 14) _ HXW.out HAW.out HEW.out (by omega) (by omega) (by omega) (by omega)).mono ?_; rintro e u ⟨F, fk, rfl, ho, hb⟩; have HF := Lib.hid ho; have U1 := Lib.hid (below_step HBW.out hb); have HXU := Lib.hid (HX4.out.below U1.out); have y0 := HXU.out.look 0; have y1 := HXU.out.look 1; have f0 := HXU.out.free 0; have f1 := HXU.out.free 1; have hz1 := SB.out _ U1; clear ho hb))
  clear y0 y1 f0 f1 hz1
  have hlen : 2 + (20 + bl - 2) = 20 + bl := by omega
  rw [hlen]
  go_wp2
  have hf := HF.out
  rw [hlen] at hf
  have hG := grown_trans (setCell_grown u ⟨w.heap.size + 1, 0, none⟩ (.int .i64 0)) (setCell_grown _ ⟨w.heap.size + 1, 1, none⟩ (.slice F (20 + bl) fk))
  have hblk := hf.block
  have hVz : w.heap.size + 1 < V.heap.size := HX4.out.lt
  have hf2 : Own _ w.heap.size F (20 + bl) fk (encN l) := (hf.grown hG (by
    cases hF : F.map (·.block) with
    | none => exact .inl rfl
    | some r =>
      refine .inr (fun e => ?_)
      injection e with e
      have e' : r = w.heap.size + 1 := e
      have := (hblk r hF).1
      simp at this
      omega)).mono (by simp; omega)
  have HX2 := (HXU.out.put 0 (.int .i64 0)).put 1 (.slice F (20 + bl) fk)
  have z0 := HX2.look 0
  have z1 := HX2.look 1
  have hbf := ((below_step HB4.out U1.out).setCell (p := ⟨w.heap.size + 1, 0, none⟩) (by simp) (.int .i64 0)).setCell (p := ⟨w.heap.size + 1, 1, none⟩) (by simp) (.slice F (20 + bl) fk)
  exact bodyPost_ret (v := .agg #[.int .i64 0, .slice F (20 + bl) fk]) (by simp [results, Try.results14, go_sem, z0, z1]) rfl ⟨F, fk, rfl, hf2, hbf⟩

end Go.Proofs.Ytamclkjofojhmaa
