/-
  The model's l2Encode. No statement is proved here.
-/
import Derived.Test.YtamclkjofojhmaaL2Body
import Derived.Deep.DeepCutAuto
namespace Go.Proofs.Ytamclkjofojhmaa
open Go.RowKit
set_option linter.unusedVariables false

theorem packN_one {x : Int} (h0 : 0 ≤ x) (h1 : x ≤ 255) : packN x 1 = [x] := by simp [packN]; omega
def tailN (l : LsaM) : List Int := ((((([l.options, l.typ] ++ packN l.id 4) ++ packN l.adv 4) ++ packN (seqN l) 4) ++ [0, 0]) ++ packN (20 + ((bodyN l).length : Int)) 2) ++ bodyN l
theorem rawN_eq {l : LsaM} (h : Sound l) : rawN l = packN l.age 2 ++ tailN l := by
  have h1 := packN_one h.options.1 h.options.2
  have h2 := packN_one (x := l.typ) (by have := h.typ; omega) (by have := h.typ; omega)
  unfold rawN headN tailN
  simp [packAll, headW, h1, h2, packN02]
theorem encN_eq {l : LsaM} (h : Sound l) : encN l = packN l.age 2 ++ sealN (tailN l) 14 := by
  have hl : (packN l.age 2).length = 2 := packN_len _ _
  unfold encN
  rw [rawN_eq h, List.take_append_of_le_length (by rw [hl]; exact Nat.le_refl _), List.take_of_length_le (by rw [hl]; exact Nat.le_refl _), List.drop_append_of_le_length (by rw [hl]; exact Nat.le_refl _), List.drop_of_length_le (by rw [hl]; exact Nat.le_refl _), List.nil_append]
theorem tailN_len (l : LsaM) : (tailN l).length = 18 + (bodyN l).length := by
  simp [tailN, packN_len]
  omega
theorem tailN_bytes {l : LsaM} (h : Sound l) : Bytes (tailN l) := by
  intro z hz
  exact rawN_bytes l z (by rw [rawN_eq h]; exact List.mem_append_right _ hz)

set_option maxRecDepth 100000 in
set_option maxHeartbeats 6400000 in
theorem l2Encode_any (l : LsaM) (q : Bool) (lo hi : Nat) (A B : Option Addr) (n c m d g : Nat) (w : World) (hx : Box w g 29 (lsaCells l A B n c m d)) (hl : LsaAt q lo hi w A n B m l) (hs : Sound l) :
    Calls Try.prog 59 #[.pointer (some ⟨g, 0, none⟩)] w fun e w' => ∃ E k, e = .returned (.slice E (20 + (bodyN l).length) k) ∧ Own w' w.heap.size E (20 + (bodyN l).length) k (encN l) ∧ Below w.heap.size w w' := by
  have HX := Lib.hid hx
  have HL := Lib.hid hl
  have HS := Lib.hid hs
  have ho1 := hs.options
  have ht1 := hs.typ
  have hid := hs.id
  have had := hs.adv
  have hse := hs.seq
  have hag := hs.age
  have hbd := bodyN_len hs
  have HZ : Hid (encN l = packN l.age 2 ++ sealN (tailN l) 14) := Lib.hid (encN_eq hs)
  have HTL : Hid (tailN l = ((((([l.options, l.typ] ++ packN l.id 4) ++ packN l.adv 4) ++ packN (seqN l) 4) ++ [0, 0]) ++ packN (20 + ((bodyN l).length : Int)) 2) ++ bodyN l) := Lib.hid rfl
  have hw1 : IntKind.u8.wrap l.options = l.options := by rw [IntKind.wrap_u8']; omega
  have hw2 : IntKind.u8.wrap l.typ = l.typ := by rw [IntKind.wrap_u8']; omega
  have HW1 := Lib.hid hw1
  have HW2 := Lib.hid hw2
  obtain ⟨bl, hbl⟩ : ∃ bl, (bodyN l).length = bl := ⟨_, rfl⟩
  have HBL := Lib.hid hbl
  rw [hbl] at hbd ⊢
  clear hx hl hs hbl hw1 hw2
  go_enter Try.func59, Try.ntmps59
  go_wp2_with fail
  refine (l2Body_any l q lo hi A B n c m d g _ HX.out HL.out HS.out).mono ?_
  rw [HBL.out]
  rintro e w1 ⟨BE, bk, rfl, hbo, hb⟩
  have HBO := Lib.hid hbo
  have HBW := Lib.hid hb
  have HX1 := Lib.hid (HX.out.below hb)
  clear hbo hb HX HL
  have SB : Hid (∀ W, Hid (Below w1.heap.size w1 W) → (fun W => W.cell? ⟨g, 1, none⟩ = some (.int .i64 l.options) ∧ W.cell? ⟨g, 2, none⟩ = some (.int .i64 l.typ) ∧ W.cell? ⟨g, 3, none⟩ = some (.int .i64 l.id) ∧ W.cell? ⟨g, 4, none⟩ = some (.int .i64 l.adv)) W) := Lib.hid (fun W h => ⟨(HX1.out.below h.out).look 1, (HX1.out.below h.out).look 2, (HX1.out.below h.out).look 3, (HX1.out.below h.out).look 4⟩)
  have HB : Hid (Below w1.heap.size w1 w1.drew) := (Below.refl _ _).drew
  go_upto_region 2 with (fail)
  go_cut [4] (fun s wx => ∃ E k, s = .slice E 10 k ∧ Hid (Own wx w1.heap.size E 10 k (([IntKind.u8.wrap l.options, IntKind.u8.wrap l.typ] ++ packN l.id 4) ++ packN l.adv 4)) ∧ Hid (Below w1.heap.size w1 wx))
  case first =>
    go_region_held3 (fun W => W.cell? ⟨g, 1, none⟩ = some (.int .i64 l.options) ∧ W.cell? ⟨g, 2, none⟩ = some (.int .i64 l.typ) ∧ W.cell? ⟨g, 3, none⟩ = some (.int .i64 l.id) ∧ W.cell? ⟨g, 4, none⟩ = some (.int .i64 l.adv)) (first | exact SB.out _ HB | exact SB.out _ (Lib.hid (below_step HB.out (up1 _ _))))
      (first
        | (go_at_call 112; ((with_reducible refine (l1Pack_4 l.id _ (by omega) (by omega)).mono ?_); rintro e u1 ⟨P1, c1, rfl, hp, hb⟩; (first | (have HD := Lib.hid (hp.apart HP2.out.lts)) | (have HD := Lib.hid (hp.apart (HP2.out.below (up1 _ _)).lts)) | skip); (first | (have HP1 := Lib.hid (hp.mono HB.out.size)) | (have HP1 := Lib.hid (hp.mono (below_step HB.out (up1 _ _)).size))); (first | (have HP2 := Lib.hid (HP2.out.below hb)) | (have HP2 := Lib.hid ((HP2.out.below (up1 _ _)).below hb)) | skip); (first | (have HL := Lib.hid (HL.out.below hb)) | (have HL := Lib.hid ((own_lit2 _ _ _ HB.out.size).below hb)) | (have HL := Lib.hid ((own_lit2d _ _ _ HB.out.size).below hb)) | skip); (first | (have HB := Lib.hid (below_step HB.out hb)) | (have HB := Lib.hid (below_step (below_step HB.out (up1 _ _)) hb)) | (have HB := Lib.hid (below_step (below_step HB.out (up1d _ _)) hb))); clear hp hb))
        | (go_at_call 112; ((with_reducible refine (l1Pack_4 l.adv _ (by omega) (by omega)).mono ?_); rintro e u2 ⟨P2, c2, rfl, hp, hb⟩; (first | (have HD := Lib.hid (hp.apart' HP1.out.lts)) | (have HD := Lib.hid (hp.apart' (HP1.out.below (up1 _ _)).lts)) | skip); (first | (have HP2 := Lib.hid (hp.mono HB.out.size)) | (have HP2 := Lib.hid (hp.mono (below_step HB.out (up1 _ _)).size))); (first | (have HP1 := Lib.hid (HP1.out.below hb)) | (have HP1 := Lib.hid ((HP1.out.below (up1 _ _)).below hb)) | skip); (first | (have HO := Lib.hid (HO.out.below hb)) | (have HO := Lib.hid ((HO.out.below (up1 _ _)).below hb)) | skip); (first | (have HL := Lib.hid (HL.out.below hb)) | (have HL := Lib.hid ((own_lit2 _ _ _ HB.out.size).below hb)) | (have HL := Lib.hid ((own_lit2d _ _ _ HB.out.size).below hb)) | skip); (first | (have HB := Lib.hid (below_step HB.out hb)) | (have HB := Lib.hid (below_step (below_step HB.out (up1 _ _)) hb)) | (have HB := Lib.hid (below_step (below_step HB.out (up1d _ _)) hb))); clear hp hb))
        | ((refine step_app (by rfl) (.tmp 19) (.tmp 25) (by rfl) (by rfl) (B := w1.heap.size) (by first | exact HL.out | exact own_lit2 _ _ _ HB.out.size | exact own_lit2d _ _ _ HB.out.size) (by rfl) (by first | omega | (simp; done)) (by first | exact HP1.out.bin | exact (HP1.out.below (up1 _ _)).bin | exact (HP1.out.below (up1d _ _)).bin) (by first | omega | (simp; omega)) (by first | exact HB.out.size | exact (below_step HB.out (up1 _ _)).size) ?_); intro Aa ka ua ho hg; (first | (have HB := Lib.hid (HB.out.grown hg HB.out.size (fun r hr => by simp at hr; have := HB.out.size; omega))) | (have HB := Lib.hid ((below_step HB.out (up1 _ _)).grown hg (below_step HB.out (up1 _ _)).size (fun r hr => by simp at hr; have := HB.out.size; omega)))); have HO := Lib.hid ho; clear ho hg)
        | ((refine step_app (by rfl) (.tmp 26) (.tmp 32) (by rfl) (by rfl) (B := w1.heap.size) (by first | exact HO.out | exact HO.out.below (up1 _ _) | exact HO.out.below (up1d _ _)) (by rfl) (by first | omega | (simp; done)) (by first | exact HP2.out.bin) (by first | omega | (simp; omega)) (by first | exact HB.out.size | exact (below_step HB.out (up1 _ _)).size) ?_); intro Ab kb ub ho hg; (first | (have HB := Lib.hid (HB.out.grown hg HB.out.size (fun r hr => (HO.out.block r hr).1))) | (have HB := Lib.hid ((below_step HB.out (up1 _ _)).grown hg (below_step HB.out (up1 _ _)).size (fun r hr => (HO.out.block r hr).1)))); have HR := Lib.hid ho; clear ho hg))
    all_goals (go_wp2_with fail; go_meet; exact ⟨_, _, rfl, HR, HB⟩)
  obtain ⟨E, k, rfl, HO, HC⟩ := hcut
  rw [HW1.out, HW2.out] at HO
  have HBO2 := Lib.hid (HBO.out.below HC.out)
  have HX2 := Lib.hid (HX1.out.below HC.out)
  have HB2 := Lib.hid (below_step HBW.out HC.out)
  have DB : Hid (∀ r, BE.map (·.block) = some r → r < w1.heap.size) := Lib.hid HBO.out.lts
  have HC2 := HC
  clear SB HB HBO HX1 HC HW1 HW2
  by_cases hsg : l.seq < 0
  · have HQ : Hid (seqN l = l.seq + 4294967296) := Lib.hid (by unfold seqN; rw [if_pos hsg])
    have x5 := HX2.out.look 5
    go_wp2_with fail
    refine (l1Pack_4 (l.seq + 4294967296) _ (by omega) (by omega)).mono ?_
    rintro e w3 ⟨P3, c3, rfl, hp, hb⟩
    have HXr3 := Lib.hid (HX2.out.below hb)
    have HBOr3 := Lib.hid (HBO2.out.below hb)
    have HOr3 := Lib.hid (HO.out.below hb)
    have HCr3 := Lib.hid (below_step HC2.out hb)
    clear HX2 HBO2 HO HC2
    have HP3 := Lib.hid hp
    have SZ3 := Lib.hid hb.size
    clear hp hb
    clear x5
    have hbl0 : 0 < bl := by omega
    go_wp2_with (first
      | (at_builtin; refine wpList_app rfl (.tmp 42) (.tmp 44) rfl rfl HOr3.out rfl (by omega) HP3.out.bin (by omega) HCr3.out.size ?_; intro A4 k4 w4 ho hg; have HXr4 := Lib.hid (HXr3.out.grown hg (HOr3.out.ne_box HXr3.out (by decide))); have HBOr4 := Lib.hid (HBOr3.out.grown hg (HOr3.out.apart DB.out)); have HCr4 := Lib.hid (HCr3.out.grown hg HCr3.out.size (fun r hr => (HOr3.out.block r hr).1)); have HOr4 := Lib.hid ho; clear ho hg HXr3 HBOr3 HOr3 HCr3)
      | (at_builtin; have hup := up1 w4 (.cells #[.int .u8 0, .int .u8 0] 5); have HXr5 := Lib.hid (HXr4.out.below hup); have HBOr5 := Lib.hid (HBOr4.out.below hup); have HOr5 := Lib.hid (HOr4.out.below hup); have HCr5 := Lib.hid (below_step HCr4.out hup); clear HXr4 HBOr4 HOr4 HCr4; clear hup; refine wpList_app rfl (.tmp 45) (.tmp 46) rfl rfl HOr5.out rfl (by omega) (bin_lit2 _ _ _) (by omega) HCr5.out.size ?_; intro A5 k5 w5 ho hg; have HXr6 := Lib.hid (HXr5.out.grown hg (HOr5.out.ne_box HXr5.out (by decide))); have HBOr6 := Lib.hid (HBOr5.out.grown hg (HOr5.out.apart DB.out)); have HCr6 := Lib.hid (HCr5.out.grown hg HCr5.out.size (fun r hr => (HOr5.out.block r hr).1)); have HOr6 := Lib.hid ho; clear ho hg HXr5 HBOr5 HOr5 HCr5))
    refine (l1Pack_2 ((bl : Int) + 20) _ (by omega) (by omega)).mono ?_
    rintro e w6 ⟨P6, c6, rfl, hp, hb⟩
    have HXr7 := Lib.hid (HXr6.out.below hb)
    have HBOr7 := Lib.hid (HBOr6.out.below hb)
    have HOr7 := Lib.hid (HOr6.out.below hb)
    have HCr7 := Lib.hid (below_step HCr6.out hb)
    clear HXr6 HBOr6 HOr6 HCr6
    have HP6 := Lib.hid hp
    have SZ6 := Lib.hid hb.size
    clear hp hb
    go_wp2_with (first
      | (at_builtin; refine wpList_app rfl (.tmp 48) (.tmp 52) rfl rfl HOr7.out rfl (by omega) HP6.out.bin (by omega) HCr7.out.size ?_; intro A7 k7 w7 ho hg; have HXr8 := Lib.hid (HXr7.out.grown hg (HOr7.out.ne_box HXr7.out (by decide))); have HBOr8 := Lib.hid (HBOr7.out.grown hg (HOr7.out.apart DB.out)); have HCr8 := Lib.hid (HCr7.out.grown hg HCr7.out.size (fun r hr => (HOr7.out.block r hr).1)); have HOr8 := Lib.hid ho; clear ho hg HXr7 HBOr7 HOr7 HCr7)
      | (at_builtin; refine wpList_app rfl (.tmp 53) (.tmp 54) rfl rfl HOr8.out rfl (by omega) HBOr8.out.bin (by omega) HCr8.out.size ?_; intro A8 k8 w8 ho hg; have HXr9 := Lib.hid (HXr8.out.grown hg (HOr8.out.ne_box HXr8.out (by decide))); have HBOr9 := Lib.hid (HBOr8.out.grown hg (HOr8.out.apart DB.out)); have HCr9 := Lib.hid (HCr8.out.grown hg HCr8.out.size (fun r hr => (HOr8.out.block r hr).1)); have HOr9 := Lib.hid ho; clear ho hg HXr8 HBOr8 HOr8 HCr8; have x0 := HXr9.out.look 0))
    have e2 : 10 + 4 + 2 + 2 + bl = 18 + bl := by omega
    have ho := HOr9.out
    rw [e2] at ho ⊢
    have HO9 : Hid (Own w8 w1.heap.size A8 (18 + bl) k8 (tailN l)) := Lib.hid (by rw [HTL.out, HQ.out, HBL.out, Int.add_comm 20 (bl : Int)]; exact ho)
    clear ho e2 HOr9
    have DP := Lib.hid HO9.out.lts
    have S18 := Lib.hid HCr9.out.size
    refine (l1Pack_2 (l.age) _ (by omega) (by omega)).mono ?_
    rintro e w9 ⟨P9, c9, rfl, hp, hb⟩
    have HXr10 := Lib.hid (HXr9.out.below hb)
    have HOr10 := Lib.hid (HO9.out.below hb)
    have HCr10 := Lib.hid (below_step HCr9.out hb)
    clear HXr9 HO9 HCr9
    have HP9 := Lib.hid hp
    have SZ9 := Lib.hid hb.size
    clear hp hb
    clear x0
    have HAP := Lib.hid (HP9.out.apart' DP.out)
    go_wp2_with fail
    refine (l1Seal_any A8 w1.heap.size (18 + bl) k8 (tailN l) 14 _ HOr10.out (tailN_bytes HS.out) (by omega) (by omega)).mono ?_
    rintro e w10 ⟨rfl, ho, hg⟩
    have HP10 := Lib.hid (HP9.out.grown hg HAP.out)
    have HC10 := Lib.hid (HCr10.out.grown hg HCr10.out.size (fun r hr => (HOr10.out.block r hr).1))
    have HO10 := Lib.hid ho
    have S910 := Lib.hid (Nat.le_trans SZ9.out hg.size)
    clear ho hg HP9 HCr10 HOr10
    go_wp2_with (at_builtin; refine wpList_app rfl (.tmp 60) (.tmp 62) rfl rfl HP10.out rfl (by omega) HO10.out.bin (by omega) S910.out ?_; intro A11 k11 w11 ho hg)
    go_ret
    have e3 : 2 + (18 + bl) = 20 + bl := by omega
    rw [e3] at ho
    have s1 := HBW.out.size
    have s8 := S18.out
    refine ⟨A11, k11, by rw [e3]; rfl, ?_, (below_step HBW.out HC10.out).grown hg (below_step HBW.out HC10.out).size (fun r hr => by have := (HP10.out.block r hr).1; omega)⟩
    rw [HZ.out]; exact ho.mono (by omega)
  · have HQ : Hid (seqN l = l.seq) := Lib.hid (by unfold seqN; rw [if_neg hsg])
    have x5 := HX2.out.look 5
    go_wp2_with fail
    refine (l1Pack_4 (l.seq) _ (by omega) (by omega)).mono ?_
    rintro e w3 ⟨P3, c3, rfl, hp, hb⟩
    have HXr3 := Lib.hid (HX2.out.below hb)
    have HBOr3 := Lib.hid (HBO2.out.below hb)
    have HOr3 := Lib.hid (HO.out.below hb)
    have HCr3 := Lib.hid (below_step HC2.out hb)
    clear HX2 HBO2 HO HC2
    have HP3 := Lib.hid hp
    have SZ3 := Lib.hid hb.size
    clear hp hb
    clear x5
    have hbl0 : 0 < bl := by omega
    go_wp2_with (first
      | (at_builtin; refine wpList_app rfl (.tmp 42) (.tmp 44) rfl rfl HOr3.out rfl (by omega) HP3.out.bin (by omega) HCr3.out.size ?_; intro A4 k4 w4 ho hg; have HXr4 := Lib.hid (HXr3.out.grown hg (HOr3.out.ne_box HXr3.out (by decide))); have HBOr4 := Lib.hid (HBOr3.out.grown hg (HOr3.out.apart DB.out)); have HCr4 := Lib.hid (HCr3.out.grown hg HCr3.out.size (fun r hr => (HOr3.out.block r hr).1)); have HOr4 := Lib.hid ho; clear ho hg HXr3 HBOr3 HOr3 HCr3)
      | (at_builtin; have hup := up1 w4 (.cells #[.int .u8 0, .int .u8 0] 5); have HXr5 := Lib.hid (HXr4.out.below hup); have HBOr5 := Lib.hid (HBOr4.out.below hup); have HOr5 := Lib.hid (HOr4.out.below hup); have HCr5 := Lib.hid (below_step HCr4.out hup); clear HXr4 HBOr4 HOr4 HCr4; clear hup; refine wpList_app rfl (.tmp 45) (.tmp 46) rfl rfl HOr5.out rfl (by omega) (bin_lit2 _ _ _) (by omega) HCr5.out.size ?_; intro A5 k5 w5 ho hg; have HXr6 := Lib.hid (HXr5.out.grown hg (HOr5.out.ne_box HXr5.out (by decide))); have HBOr6 := Lib.hid (HBOr5.out.grown hg (HOr5.out.apart DB.out)); have HCr6 := Lib.hid (HCr5.out.grown hg HCr5.out.size (fun r hr => (HOr5.out.block r hr).1)); have HOr6 := Lib.hid ho; clear ho hg HXr5 HBOr5 HOr5 HCr5))
    refine (l1Pack_2 ((bl : Int) + 20) _ (by omega) (by omega)).mono ?_
    rintro e w6 ⟨P6, c6, rfl, hp, hb⟩
    have HXr7 := Lib.hid (HXr6.out.below hb)
    have HBOr7 := Lib.hid (HBOr6.out.below hb)
    have HOr7 := Lib.hid (HOr6.out.below hb)
    have HCr7 := Lib.hid (below_step HCr6.out hb)
    clear HXr6 HBOr6 HOr6 HCr6
    have HP6 := Lib.hid hp
    have SZ6 := Lib.hid hb.size
    clear hp hb
    go_wp2_with (first
      | (at_builtin; refine wpList_app rfl (.tmp 48) (.tmp 52) rfl rfl HOr7.out rfl (by omega) HP6.out.bin (by omega) HCr7.out.size ?_; intro A7 k7 w7 ho hg; have HXr8 := Lib.hid (HXr7.out.grown hg (HOr7.out.ne_box HXr7.out (by decide))); have HBOr8 := Lib.hid (HBOr7.out.grown hg (HOr7.out.apart DB.out)); have HCr8 := Lib.hid (HCr7.out.grown hg HCr7.out.size (fun r hr => (HOr7.out.block r hr).1)); have HOr8 := Lib.hid ho; clear ho hg HXr7 HBOr7 HOr7 HCr7)
      | (at_builtin; refine wpList_app rfl (.tmp 53) (.tmp 54) rfl rfl HOr8.out rfl (by omega) HBOr8.out.bin (by omega) HCr8.out.size ?_; intro A8 k8 w8 ho hg; have HXr9 := Lib.hid (HXr8.out.grown hg (HOr8.out.ne_box HXr8.out (by decide))); have HBOr9 := Lib.hid (HBOr8.out.grown hg (HOr8.out.apart DB.out)); have HCr9 := Lib.hid (HCr8.out.grown hg HCr8.out.size (fun r hr => (HOr8.out.block r hr).1)); have HOr9 := Lib.hid ho; clear ho hg HXr8 HBOr8 HOr8 HCr8; have x0 := HXr9.out.look 0))
    have e2 : 10 + 4 + 2 + 2 + bl = 18 + bl := by omega
    have ho := HOr9.out
    rw [e2] at ho ⊢
    have HO9 : Hid (Own w8 w1.heap.size A8 (18 + bl) k8 (tailN l)) := Lib.hid (by rw [HTL.out, HQ.out, HBL.out, Int.add_comm 20 (bl : Int)]; exact ho)
    clear ho e2 HOr9
    have DP := Lib.hid HO9.out.lts
    have S18 := Lib.hid HCr9.out.size
    refine (l1Pack_2 (l.age) _ (by omega) (by omega)).mono ?_
    rintro e w9 ⟨P9, c9, rfl, hp, hb⟩
    have HXr10 := Lib.hid (HXr9.out.below hb)
    have HOr10 := Lib.hid (HO9.out.below hb)
    have HCr10 := Lib.hid (below_step HCr9.out hb)
    clear HXr9 HO9 HCr9
    have HP9 := Lib.hid hp
    have SZ9 := Lib.hid hb.size
    clear hp hb
    clear x0
    have HAP := Lib.hid (HP9.out.apart' DP.out)
    go_wp2_with fail
    refine (l1Seal_any A8 w1.heap.size (18 + bl) k8 (tailN l) 14 _ HOr10.out (tailN_bytes HS.out) (by omega) (by omega)).mono ?_
    rintro e w10 ⟨rfl, ho, hg⟩
    have HP10 := Lib.hid (HP9.out.grown hg HAP.out)
    have HC10 := Lib.hid (HCr10.out.grown hg HCr10.out.size (fun r hr => (HOr10.out.block r hr).1))
    have HO10 := Lib.hid ho
    have S910 := Lib.hid (Nat.le_trans SZ9.out hg.size)
    clear ho hg HP9 HCr10 HOr10
    go_wp2_with (at_builtin; refine wpList_app rfl (.tmp 60) (.tmp 62) rfl rfl HP10.out rfl (by omega) HO10.out.bin (by omega) S910.out ?_; intro A11 k11 w11 ho hg)
    go_ret
    have e3 : 2 + (18 + bl) = 20 + bl := by omega
    rw [e3] at ho
    have s1 := HBW.out.size
    have s8 := S18.out
    refine ⟨A11, k11, by rw [e3]; rfl, ?_, (below_step HBW.out HC10.out).grown hg (below_step HBW.out HC10.out).size (fun r hr => by have := (HP10.out.block r hr).1; omega)⟩
    rw [HZ.out]; exact ho.mono (by omega)

end Go.Proofs.Ytamclkjofojhmaa
