/-
  The walk of l1Spoil, by which the laws turn bytes: it returns, whatever the bytes. No statement is proved here.
-/
/-
  The walk of l2Draw told more: what it draws is right. No statement is proved here.
-/
/-
  The walk of DrawDecodeLsa: bytes that are an advertisement's, or nearly: it returns. No statement is proved here.
-/
/-
  What AgeLsa and FlushLsa answer. No statement is proved here.
-/
/-
  The walks of the draws of FnAges, of FlushLsa and NextSeq. No statement is proved here.
-/
/-
  The walk of the draw of two advertisements of chapter 2. No statement is proved here.
-/
import Derived.Test.YtamclkjofojhmaaMDraw
import Derived.Test.YtamclkjofojhmaaStep
import Derived.Test.YtamclkjofojhmaaSeal
import Derived.Test.YtamclkjofojhmaaDec
import Derived.Test.YtamclkjofojhmaaEncode
import Derived.Test.YtamclkjofojhmaaWalk
import Derived.Test.YtamclkjofojhmaaEnc
import Derived.Test.YtamclkjofojhmaaL2Enc
import Derived.Test.YtamclkjofojhmaaClone
import Derived.Test.YtamclkjofojhmaaEncBoth
import Derived.IntWalk
import Derived.Test.YtamclkjofojhmaaMBent
namespace Go.Proofs.Ytamclkjofojhmaa
open Go.RowKit
set_option linter.unusedVariables false

theorem xor_bd (a b : Int) : 0 ≤ bits .xor .u8 a b ∧ bits .xor .u8 a b < 256 := by
  unfold bits
  have h : (BitVec.ofInt 8 a ^^^ BitVec.ofInt 8 b).toNat < 256 := (BitVec.ofInt 8 a ^^^ BitVec.ofInt 8 b).isLt
  simp [IntKind.wrap, IntKind.bits, IntKind.signed]
  omega
theorem Dr.drew {w0 w : World} {g : Nat} {A : Option Addr} {n c : Nat} {cs : List Int} {K : Nat} (h : Dr w0 g A n c cs K w) : Dr w0 g A n c cs K w.drew := by
  obtain ⟨k, hk, hs⟩ := h.at_
  exact ⟨⟨k, hk, ⟨hs.box, hs.data, hs.bytes, hs.small, hs.apart⟩⟩, h.data, h.before, h.fr.os, h.fr.tape, h.fr.output, h.fr.size, h.fr.block⟩

/-- What a call answers that hands bytes on. -/
def SomeBytes (B0 : Nat) (w : World) (N : Nat) (e : Ending) (w' : World) : Prop :=
  ∃ A n c zs, e = .returned (.slice A n c) ∧ BIn w' A n zs ∧ Bytes zs ∧ n ≤ c ∧ n ≤ N ∧ Below B0 w w'

section
variable {w0 w w' : World} {g : Nat} {A0 : Option Addr} {n0 c0 : Nat} {cs : List Int} {K : Nat} {B b n c : Nat} {zs : List Int}
theorem Own.past (h : Own w B (some ⟨b, 0, none⟩) n c zs) (hd : Dr w g A0 n0 c0 cs K w') (hg : g < b) : Own w' B (some ⟨b, 0, none⟩) n c zs :=
  h.only hd.fr (fun r hr => by simp only [Option.map_some, Option.some.injEq] at hr; omega)
theorem past_below {B0 : Nat} {a : World} (h : Below B0 a w) (hd : Dr w g A0 n0 c0 cs K w') (h1 : B0 ≤ g) (h2 : B0 ≤ w.heap.size) : Below B0 a w' := h.trans (hd.fr.below h1 h2)
end

set_option maxRecDepth 100000 in
set_option maxHeartbeats 3200000 in
theorem l1Spoil_any (B0 g : Nat) (A0 : Option Addr) (n0 c0 : Nat) (cs : List Int) (K B b n c : Nat) (zs : List Int) (w : World) (hs : Dr w g A0 n0 c0 cs K w) (hK : K ≤ 90000) (ho : Own w B (some ⟨b, 0, none⟩) n c zs) (hz : Bytes zs) (hB0 : B0 ≤ g) (hgB : g < B) (hn0 : 0 < n) (hn : n ≤ 400) :
    Calls Try.prog 61 #[.pointer (some ⟨g, 0, none⟩), .slice (some ⟨b, 0, none⟩) n c] w (SomeBytes B0 w (n + 1)) := by
  have hgb : g < b := by have := ho.block b rfl; omega
  have hlt := hs.lt
  have HS := Lib.hid hs
  have HO := Lib.hid ho
  have HZ := Lib.hid hz
  have HBw := Lib.hid (Below.refl B0 w)
  have hcap : (n : Int) ≤ (c : Int) := by have := ho.cap; omega
  have hcap' : n ≤ c := ho.cap
  have hlen := ho.len
  have HLEN := Lib.hid hlen
  clear hs ho hz hlen
  go_enter Try.func61, Try.ntmps61
  go_wp2_with fail
  refine (dNext 8 HS.out (by omega) (by omega) (by omega)).mono ?_
  rintro e w1 ⟨v, rfl, hv0, hv1, hs⟩
  have HO1 := Lib.hid (HO.out.past hs hgb)
  have HB1 := Lib.hid (past_below HBw.out hs hB0 (by omega))
  have HS1 := Lib.hid hs.here
  have hlt1 := hs.fr.size
  clear hs HS HO HBw
  have hv : v = 0 ∨ v = 1 ∨ v = 2 ∨ (3 ≤ v ∧ v < 8) := by omega
  rcases hv with rfl | rfl | rfl | ⟨hv2, hv3⟩
  · have hp : (0 : Int) < (n : Int) := by omega
    have hdz : w1.heap.size ≤ w1.drew.heap.size := Nat.le_refl _
    have hBd : B0 ≤ w1.drew.heap.size := by omega
    go_wp2_with fail
    go_region_law (first
      | ((show (if Region.wanted (Oper.mk (some 16) _ _ _ _ _) _ = true then _ else _)); go_simp; have PC := dNext (w := w1.drew) (n : Int) HS1.out.drew.here (by omega) (by omega) (by omega); with_reducible refine PC.mono ?_; clear PC; rintro e u1 ⟨i, rfl, i0, i1, hs⟩; obtain ⟨j, rfl⟩ := Int.eq_ofNat_of_zero_le i0; have hj : j < n := (by omega); have HO2 := Lib.hid (Own.past (w := w1.drew) HO1.out.drew hs hgb); have HB2 := Lib.hid (past_below (w := w1.drew) HB1.out.drew hs hB0 hBd); have HS2 := Lib.hid hs.here; have ce := HO2.out.cell hj; obtain ⟨z, hzz⟩ : ∃ z, zs.getD j 0 = z := ⟨_, rfl⟩; rw [hzz] at ce; have HZZ := Lib.hid hzz; have hs2 : w1.heap.size ≤ u1.heap.size := Nat.le_trans hdz hs.fr.size; clear hs hzz)
      | ((show (if Region.wanted (Oper.mk (some 20) _ _ _ _ _) _ = true then _ else _)); go_simp; have PC := dNext (w := u1) 255 HS2.out (by omega) (by omega) (by omega); with_reducible refine PC.mono ?_; clear PC; rintro e u2 ⟨v2, rfl, p0, p1, hs⟩; have HO3 := Lib.hid (HO2.out.past hs hgb); have HB3 := Lib.hid (past_below HB2.out hs hB0 (by omega)); have ce2 := HO3.out.cell hj; rw [HZZ.out] at ce2; have fe2 := HO3.out.frozen j; have hs3 : u1.heap.size ≤ u2.heap.size := hs.fr.size; clear hs))
    all_goals
      have hbd := HB3.out
      go_wp2
      go_ret
      have hst := HO3.out.stored j (bits .xor .u8 z (IntKind.u8.wrap (IntKind.i64.wrap (1 + v2))))
      exact ⟨_, n, c, zs.set j (bits .xor .u8 z (IntKind.u8.wrap (IntKind.i64.wrap (1 + v2)))), rfl, hst.1.bin, HZ.out.set j _ (xor_bd _ _).1 (xor_bd _ _).2, hcap', by omega, hbd.grown hst.2 (by omega) (fun r hr => by injection hr with hr; omega)⟩
  · go_wp2_with fail
    refine (dNext 3 HS1.out (by omega) (by omega) (by omega)).mono ?_
    rintro e w2 ⟨v2, rfl, p0, p1, hs⟩
    have HO2 := Lib.hid (HO1.out.past hs hgb)
    have HB2 := Lib.hid (past_below HB1.out hs hB0 (by omega))
    have hlt2 := hs.fr.size
    clear hs
    have hBle : B ≤ w2.heap.size := by have := HO2.out.block b rfl; omega
    have HU : Hid (Below w2.heap.size w2 (w2.alloc (.cells #[.int .u8 v2] 5))) := Lib.hid ((Below.refl _ _).alloc (Nat.le_refl _) _)
    have HL : Hid (BIn (w2.alloc (.cells #[.int .u8 v2] 5)) (some ⟨w2.heap.size, 0, none⟩) 1 [v2]) := Lib.hid (Own.lit w2 _ [v2] rfl (by simp [maxLen]) (Nat.le_refl _)).bin
    go_wp2_with (at_builtin; refine wpList_app rfl (.tmp 27) (.tmp 31) rfl (B := B) rfl (HO2.out.below HU.out) rfl (by omega) HL.out (by omega) (by have := HU.out.size; omega) ?_; intro A' c' w3 ho hg; have HO3 := Lib.hid ho; have HB3 := Lib.hid (((HB2.out.trans (HU.out.mono (by omega)))).grown hg (by have := HU.out.size; omega) (fun r hr => by simp only [Option.map_some, Option.some.injEq] at hr; omega)); clear ho hg)
    go_ret
    exact ⟨A', n + 1, c', zs ++ [v2], rfl, HO3.out.bin, fun z hz => by
      rcases List.mem_append.1 hz with h | h
      · exact HZ.out z h
      · simp only [List.mem_singleton] at h; omega, HO3.out.cap, Nat.le_refl _, HB3.out⟩
  · go_wp2_with fail
    refine (dNext ((n : Int) + 1) HS1.out (by omega) (by omega) (by omega)).mono ?_
    rintro e w2 ⟨v2, rfl, p0, p1, hs⟩
    obtain ⟨k, rfl⟩ := Int.eq_ofNat_of_zero_le p0
    have HO2 := Lib.hid (HO1.out.past hs hgb)
    have HB2 := Lib.hid (past_below HB1.out hs hB0 (by omega))
    clear hs
    have hk : (k : Int) ≤ (c : Int) := by omega
    have hk' : k ≤ n := by omega
    go_wp2
    go_ret
    have hb := BIn.part HO2.out.bin (a := 0) (s := k) (by omega)
    exact ⟨_, k, c, (zs.drop 0).take k, rfl, hb, fun z hz => HZ.out z (List.mem_of_mem_drop (List.mem_of_mem_take hz)), by omega, by omega, HB2.out⟩
  · have e0 : (v == 0) = false := by rw [beq_eq_false_iff_ne]; omega
    have e1 : (v == 1) = false := by rw [beq_eq_false_iff_ne]; omega
    have e2 : (v == 2) = false := by rw [beq_eq_false_iff_ne]; omega
    go_wp2
    go_ret
    exact ⟨_, n, c, zs, rfl, HO1.out.bin, HZ.out, hcap', by omega, HB1.out⟩

end Go.Proofs.Ytamclkjofojhmaa

namespace Go.Proofs.Ytamclkjofojhmaa
open Go.RowKit
set_option linter.unusedVariables false

theorem linkOk_mk {k t o c : Int} (h1 : 1 ≤ k ∧ k ≤ 2) (h2 : 0 ≤ t ∧ t ≤ 4294967295) (h3 : 0 ≤ o ∧ o ≤ 4294967295) (h4 : 0 ≤ c ∧ c ≤ 65535) : linkOk ⟨k, t, o, c⟩ = true := by
  unfold linkOk idIn
  rw [allIn_one_yes h1.1 h1.2, allIn_one_yes h2.1 h2.2, allIn_one_yes h3.1 h3.2, allIn_one_yes h4.1 h4.2]; rfl
theorem all_snoc {ys : List Lnk} {x : Lnk} (h : ys.all linkOk = true) (hx : linkOk x = true) : (ys ++ [x]).all linkOk = true := by
  rw [List.all_append, h, List.all_cons, hx]; rfl
theorem ups_snoc {ys : List Int} {p adv : Int} {n : Nat} (h : ups ys) (hb : ∀ r ∈ ys, 1 ≤ r ∧ r < p) (hp : 1 ≤ p) (hn : n = n) : ups (ys ++ [p]) ∧ (∀ r ∈ ys ++ [p], 1 ≤ r ∧ r < p + 1) ∧ (adv < p + 1 → 0 < n + 1) := by
  refine ⟨fun i hi => ?_, fun r hr => ?_, fun _ => by omega⟩
  · rw [List.length_append, List.length_singleton] at hi
    by_cases e : i + 1 < ys.length
    · have := h i (by omega)
      rw [List.getD_eq_getElem?_getD, List.getD_eq_getElem?_getD, List.getElem?_append_left (by omega), List.getElem?_append_left e]
      rw [List.getD_eq_getElem?_getD, List.getD_eq_getElem?_getD] at this
      exact this
    · have hi' : i < ys.length := by omega
      have hm := hb ys[i] (List.getElem_mem hi')
      rw [List.getD_eq_getElem?_getD, List.getD_eq_getElem?_getD, List.getElem?_append_left hi', List.getElem?_append_right (by omega), List.getElem?_eq_getElem hi', show i + 1 - ys.length = 0 by omega]
      exact hm.2
  · rcases List.mem_append.1 hr with h' | h'
    · have := hb r h'; omega
    · simp only [List.mem_singleton] at h'; omega
theorem sound_1 (va vo vi vs : Int) (ys : List Lnk) (h1 : 0 ≤ va ∧ va ≤ 3600) (h2 : 0 ≤ vo ∧ vo ≤ 255) (h3 : 0 ≤ vi ∧ vi ≤ 4294967295) (h4 : -2147483647 ≤ vs ∧ vs ≤ 2147483647) (h5 : ys.length ≤ 8) (h6 : ys.all linkOk = true) : Sound ⟨va, vo, 1, vi, vi, vs, ys, [], 0, 0⟩ :=
  ⟨.inl rfl, h1, h2, h3, h3, h4, ⟨Int.le_refl _, by show (0 : Int) ≤ 4294967295; omega⟩, ⟨Int.le_refl _, by show (0 : Int) ≤ 16777215; omega⟩, h5, Nat.zero_le _, List.all_eq_true.1 h6, (fun r hr => by cases hr), rfl, (fun h => by cases h), (fun i hi => absurd hi (by simp)), fun _ => rfl⟩
theorem sound_2 (va vo vi vd vs vm : Int) (ys : List Int) (h1 : 0 ≤ va ∧ va ≤ 3600) (h2 : 0 ≤ vo ∧ vo ≤ 255) (h3 : 11 ≤ vi ∧ vi ≤ 4294967295) (h3' : 0 ≤ vd ∧ vd ≤ 4294967295) (h4 : -2147483647 ≤ vs ∧ vs ≤ 2147483647) (hm : 0 ≤ vm ∧ vm ≤ 4294967295) (h5 : ys.length ≤ 8) (h6 : ups ys) (h7 : ∀ r ∈ ys, 0 ≤ r ∧ r ≤ 4294967295) (h8 : 0 < ys.length) : Sound ⟨va, vo, 2, vi, vd, vs, [], ys, vm, 0⟩ :=
  ⟨.inr (.inl rfl), h1, h2, ⟨by show 0 ≤ vi; omega, h3.2⟩, h3', h4, hm, ⟨Int.le_refl _, by show (0 : Int) ≤ 16777215; omega⟩, Nat.zero_le _, h5, (fun r hr => by cases hr), fun r hr => allIn_one_yes (h7 r hr).1 (h7 r hr).2, rfl, fun _ => h8, h6, (fun h => by cases h)⟩
theorem sound_3 (va vo vi vd vs vm vc : Int) (h1 : 0 ≤ va ∧ va ≤ 3600) (h2 : 0 ≤ vo ∧ vo ≤ 255) (h3 : 11 ≤ vi ∧ vi ≤ 4294967295) (h3' : 0 ≤ vd ∧ vd ≤ 4294967295) (h4 : -2147483647 ≤ vs ∧ vs ≤ 2147483647) (hm : 0 ≤ vm ∧ vm ≤ 4294967295) (hc : 0 ≤ vc ∧ vc ≤ 16777215) : Sound ⟨va, vo, 3, vi, vd, vs, [], [], vm, vc⟩ :=
  ⟨.inr (.inr rfl), h1, h2, ⟨by show 0 ≤ vi; omega, h3.2⟩, h3', h4, hm, hc, Nat.zero_le _, Nat.zero_le _, (fun r hr => by cases hr), (fun r hr => by cases hr), rfl, (fun h => by cases h), (fun i hi => absurd hi (by simp)), (fun h => by cases h)⟩
def DrawSOut (w : World) (g : Nat) (A0 : Option Addr) (n0 c0 : Nat) (cs : List Int) (K : Nat) (e : Ending) (w' : World) : Prop :=
  ∃ l A B n c m d, e = .returned (.agg (lsaCells l A B n c m d)) ∧ Sound l ∧ LsaOwn w.heap.size w'.heap.size w' A n c B m d l ∧ n ≤ 8 ∧ m ≤ 8 ∧ Dr w g A0 n0 c0 cs K w'

set_option maxRecDepth 100000 in
set_option maxHeartbeats 6400000 in
theorem l2DrawS_any (g : Nat) (A0 : Option Addr) (n0 c0 : Nat) (cs : List Int) (K : Nat) (w : World) (hs : Dr w g A0 n0 c0 cs K w) (hK : K ≤ 90000) :
    Calls Try.prog 58 #[.pointer (some ⟨g, 0, none⟩)] w (DrawSOut w g A0 n0 c0 cs (K + 40)) := by
  have HS := hs
  have Zg : Hid (g < w.heap.size) := Lib.hid hs.lt
  clear hs
  go_enter Try.func58, Try.ntmps58
  go_wp2_with fail
  refine Calls.name ?_
  intro U1 hU1
  have hb : Below w.heap.size w U1 := by rw [hU1]; exact (((Below.refl _ _).alloc (Nat.le_refl _) _).alloc (by simp <;> omega) _)
  have zz : Hid (w.heap.size + 2 = U1.heap.size) := Lib.hid (by rw [hU1]; simp)
  have HX1 : Kept w.heap.size (w.heap.size + 1) (BoxK w.heap.size 29 #[.int .i64 0, .int .i64 0, .int .i64 0, .int .i64 0, .int .i64 0, .int .i64 0, .slice none 0 0, .slice none 0 0, .int .i64 0, .int .i64 0]) U1 := by rw [hU1]; exact Kept.box ((Box.made_at _ _ _ rfl).over _)
  have HX2 : Kept (w.heap.size + 1) (w.heap.size + 1 + 1) (BoxK (w.heap.size + 1) 2 #[.int .i64 0, .int .i64 5, .int .i64 100, .int .i64 3599, .int .i64 3600]) U1 := by rw [hU1]; exact Kept.box (Box.made_at _ _ _ (by simp <;> omega))
  replace HS := HS.below hb
  clear hb
  have Z1 := zz; clear zz
  have Y1 := Lib.hid (And.intro Zg.out Z1.out); clear Zg Z1
  clear hU1
  refine (dPick (w.heap.size + 1) 5 [0, 5, 100, 3599, 3600] HS.here (by omega) HX2.bx rfl rfl (by omega) (by omega) (by have := Y1.out; omega)).mono ?_
  rintro e w2 ⟨va, rfl, hv, hs⟩
  have ho := hs.fr
  have Z2 := Lib.hid ho.size
  have Y2 := Lib.hid (And.intro Y1.out Z2.out); clear Y1 Z2
  clear HX2
  replace HX1 := HX1.only ho (by have := Y2.out; omega)
  replace HS := HS.next hs; clear ho hs
  have HVva : Hid (0 ≤ va ∧ va ≤ 3600) := Lib.hid (by simp only [List.mem_cons, List.not_mem_nil, or_false] at hv; omega)
  clear hv
  have l2_0 := HX1.bx.lt
  go_wp2_with fail
  clear l2_0
  refine Calls.name ?_
  intro U3 hU3
  have hb : Below w2.heap.size w2 U3 := by rw [hU3]; exact ((Below.refl _ _).alloc (Nat.le_refl _) _)
  have zz : Hid (w2.heap.size + 1 = U3.heap.size) := Lib.hid (by rw [hU3]; simp)
  have HX3 : Kept w2.heap.size (w2.heap.size + 1) (BoxK w2.heap.size 2 #[.int .i64 0, .int .i64 2, .int .i64 255]) U3 := by rw [hU3]; exact Kept.box (Box.made_at _ _ _ rfl)
  replace HS := HS.below hb
  replace HX1 := HX1.below hb
  clear hb
  have Z3 := zz; clear zz
  have Y3 := Lib.hid (And.intro Y2.out Z3.out); clear Y2 Z3
  clear hU3
  refine (dPick w2.heap.size 3 [0, 2, 255] HS.here (by omega) HX3.bx rfl rfl (by omega) (by omega) (by have := Y3.out; omega)).mono ?_
  rintro e w4 ⟨vo, rfl, hv, hs⟩
  have ho := hs.fr
  have Z4 := Lib.hid ho.size
  have Y4 := Lib.hid (And.intro Y3.out Z4.out); clear Y3 Z4
  clear HX3
  replace HX1 := HX1.only ho (by have := Y4.out; omega)
  replace HS := HS.next hs; clear ho hs
  have HVvo : Hid (0 ≤ vo ∧ vo ≤ 255) := Lib.hid (by simp only [List.mem_cons, List.not_mem_nil, or_false] at hv; omega)
  clear hv
  have l3_0 := HX1.bx.lt
  go_wp2_with fail
  clear l3_0
  refine Calls.name ?_
  intro U5 hU5
  have hb : Below w4.heap.size w4 U5 := by rw [hU5]; exact ((Below.refl _ _).alloc (Nat.le_refl _) _)
  have zz : Hid (w4.heap.size + 1 = U5.heap.size) := Lib.hid (by rw [hU5]; simp)
  have HX4 : Kept w4.heap.size (w4.heap.size + 1) (BoxK w4.heap.size 2 #[.int .i64 1, .int .i64 1, .int .i64 2, .int .i64 3, .int .i64 (-2147483647), .int .i64 2147483647, .int .i64 0, .int .i64 (-5)]) U5 := by rw [hU5]; exact Kept.box (Box.made_at _ _ _ rfl)
  replace HS := HS.below hb
  replace HX1 := HX1.below hb
  clear hb
  have Z5 := zz; clear zz
  have Y5 := Lib.hid (And.intro Y4.out Z5.out); clear Y4 Z5
  clear hU5
  refine (dPick w4.heap.size 8 [1, 1, 2, 3, -2147483647, 2147483647, 0, -5] HS.here (by omega) HX4.bx rfl rfl (by omega) (by omega) (by have := Y5.out; omega)).mono ?_
  rintro e w6 ⟨vs, rfl, hv, hs⟩
  have ho := hs.fr
  have Z6 := Lib.hid ho.size
  have Y6 := Lib.hid (And.intro Y5.out Z6.out); clear Y5 Z6
  clear HX4
  replace HX1 := HX1.only ho (by have := Y6.out; omega)
  replace HS := HS.next hs; clear ho hs
  have HVvs : Hid (-2147483647 ≤ vs ∧ vs ≤ 2147483647) := Lib.hid (by simp only [List.mem_cons, List.not_mem_nil, or_false] at hv; omega)
  clear hv
  have l4_0 := HX1.bx.lt
  go_wp2_with fail
  clear l4_0
  refine Calls.name ?_
  intro U7 hU7
  have hb : Below w6.heap.size w6 U7 := by rw [hU7]; exact (((Below.refl _ _).alloc (Nat.le_refl _) _).alloc (by simp <;> omega) _)
  have zz : Hid (w6.heap.size + 2 = U7.heap.size) := Lib.hid (by rw [hU7]; simp)
  have HX5 : Kept w6.heap.size (w6.heap.size + 1) (BoxK w6.heap.size 29 #[.int .i64 va, .int .i64 vo, .int .i64 0, .int .i64 0, .int .i64 0, .int .i64 vs, .slice none 0 0, .slice none 0 0, .int .i64 0, .int .i64 0]) U7 := by rw [hU7]; exact Kept.box ((Box.made_at _ _ _ rfl).over _)
  have HX6 : Kept (w6.heap.size + 1) (w6.heap.size + 1 + 1) (BoxK (w6.heap.size + 1) 2 #[.int .i64 1, .int .i64 1, .int .i64 1, .int .i64 2, .int .i64 3]) U7 := by rw [hU7]; exact Kept.box (Box.made_at _ _ _ (by simp <;> omega))
  replace HS := HS.below hb
  replace HX1 := HX1.below hb
  clear hb
  have Z7 := zz; clear zz
  have Y7 := Lib.hid (And.intro Y6.out Z7.out); clear Y6 Z7
  clear hU7
  refine (dPick (w6.heap.size + 1) 5 [1, 1, 1, 2, 3] HS.here (by omega) HX6.bx rfl rfl (by omega) (by omega) (by have := Y7.out; omega)).mono ?_
  rintro e w8 ⟨vt, rfl, hv, hs⟩
  have ho := hs.fr
  have Z8 := Lib.hid ho.size
  have Y8 := Lib.hid (And.intro Y7.out Z8.out); clear Y7 Z8
  clear HX6
  replace HX1 := HX1.only ho (by have := Y8.out; omega)
  replace HX5 := HX5.only ho (by have := Y8.out; omega)
  replace HS := HS.next hs; clear ho hs
  have HVvt : Hid (1 ≤ vt ∧ vt ≤ 3) := Lib.hid (by simp only [List.mem_cons, List.not_mem_nil, or_false] at hv; omega)
  have ht : vt = 1 ∨ vt = 2 ∨ vt = 3 := by simp only [List.mem_cons, List.not_mem_nil, or_false] at hv; omega
  clear hv
  rcases ht with rfl | rfl | rfl
  · have c5_0 := HX5.look 2
    have f5_0 := HX5.free 2
    have l5_0 := HX1.bx.lt
    have l5_1 := HX5.bx.lt
    go_wp2_with fail
    clear c5_0 f5_0 l5_0 l5_1
    refine Calls.name ?_
    intro U9 hU9
    have ho : Only w6.heap.size (w6.heap.size + 1) w8 U9 := by rw [hU9]; exact ((Only.refl _ _ _).set (p := ⟨w6.heap.size, 2, none⟩) (Nat.le_refl _) (Nat.lt_succ_self _) _)
    replace HX5 : Kept w6.heap.size (w6.heap.size + 1) (BoxK w6.heap.size 29 #[.int .i64 va, .int .i64 vo, .int .i64 1, .int .i64 0, .int .i64 0, .int .i64 vs, .slice none 0 0, .slice none 0 0, .int .i64 0, .int .i64 0]) U9 := by rw [hU9]; exact Kept.box (HX5.bx.puts 2 (.int .i64 1) (cs' := #[.int .i64 va, .int .i64 vo, .int .i64 1, .int .i64 0, .int .i64 0, .int .i64 vs, .slice none 0 0, .slice none 0 0, .int .i64 0, .int .i64 0]) rfl)
    replace HS := HS.only ho (by have := Y8.out; omega)
    replace HX1 := HX1.only ho (by have := Y8.out; omega)
    have Z9 : Hid (U9.heap.size = w8.heap.size) := Lib.hid (by rw [hU9]; simp [World.setCell]); clear ho
    have Y9 := Lib.hid (And.intro Y8.out Z9.out); clear Y8 Z9
    clear hU9
    refine (dNext 4 HS.here (by omega) (by omega) (by omega)).mono ?_
    rintro e w10 ⟨vd, rfl, hvd0, hvd1, hs⟩
    have ho := hs.fr
    have Z10 := Lib.hid ho.size
    have Y10 := Lib.hid (And.intro Y9.out Z10.out); clear Y9 Z10
    replace HX1 := HX1.only ho (by have := Y10.out; omega)
    replace HX5 := HX5.only ho (by have := Y10.out; omega)
    replace HS := HS.next hs; clear ho hs
    have c6_0 := HX5.look 4
    have f6_0 := HX5.free 4
    have l6_0 := HX1.bx.lt
    have l6_1 := HX5.bx.lt
    go_wp2_with fail
    clear c6_0 f6_0 l6_0 l6_1
    obtain ⟨U11, hU11⟩ : ∃ W : World, W = (w10.setCell ⟨w6.heap.size, 4, none⟩ (.int .i64 (1 + vd))) := ⟨_, rfl⟩
    have ho : Only w6.heap.size (w6.heap.size + 1) w10 U11 := by rw [hU11]; exact ((Only.refl _ _ _).set (p := ⟨w6.heap.size, 4, none⟩) (Nat.le_refl _) (Nat.lt_succ_self _) _)
    replace HX5 : Kept w6.heap.size (w6.heap.size + 1) (BoxK w6.heap.size 29 #[.int .i64 va, .int .i64 vo, .int .i64 1, .int .i64 0, .int .i64 (1 + vd), .int .i64 vs, .slice none 0 0, .slice none 0 0, .int .i64 0, .int .i64 0]) U11 := by rw [hU11]; exact Kept.box (HX5.bx.puts 4 (.int .i64 (1 + vd)) (cs' := #[.int .i64 va, .int .i64 vo, .int .i64 1, .int .i64 0, .int .i64 (1 + vd), .int .i64 vs, .slice none 0 0, .slice none 0 0, .int .i64 0, .int .i64 0]) rfl)
    replace HS := HS.only ho (by have := Y10.out; omega)
    replace HX1 := HX1.only ho (by have := Y10.out; omega)
    have Z11 : Hid (U11.heap.size = w10.heap.size) := Lib.hid (by rw [hU11]; simp [World.setCell]); clear ho
    have Y11 := Lib.hid (And.intro Y10.out Z11.out); clear Y10 Z11
    refine Calls.name ?_
    intro U12 hU12
    have kU12 : U12 = (U11.alloc (.cells #[.int .i64 11, .int .i64 12, .int .i64 4294967295] 2)) := by rw [hU11]; exact hU12
    have hb : Below U11.heap.size U11 U12 := by rw [kU12]; exact ((Below.refl _ _).alloc (Nat.le_refl _) _)
    have zz : Hid (U11.heap.size + 1 = U12.heap.size) := Lib.hid (by rw [kU12]; simp)
    have HX7 : Kept w10.heap.size (w10.heap.size + 1) (BoxK w10.heap.size 2 #[.int .i64 11, .int .i64 12, .int .i64 4294967295]) U12 := by rw [kU12]; exact Kept.box (Box.made_at _ _ _ (by rw [hU11]; simp [World.setCell]))
    replace HS := HS.below hb
    replace HX1 := HX1.below hb
    replace HX5 := HX5.below hb
    clear hb
    have Z12 := zz; clear zz
    have Y12 := Lib.hid (And.intro Y11.out Z12.out); clear Y11 Z12
    clear kU12 hU12 hU11
    refine (dPick w10.heap.size 3 [11, 12, 4294967295] HS.here (by omega) HX7.bx rfl rfl (by omega) (by omega) (by have := Y12.out; omega)).mono ?_
    rintro e w13 ⟨vi, rfl, hv, hs⟩
    have ho := hs.fr
    have Z13 := Lib.hid ho.size
    have Y13 := Lib.hid (And.intro Y12.out Z13.out); clear Y12 Z13
    clear HX7
    replace HX1 := HX1.only ho (by have := Y13.out; omega)
    replace HX5 := HX5.only ho (by have := Y13.out; omega)
    replace HS := HS.next hs; clear ho hs
    have HVvi : Hid (11 ≤ vi ∧ vi ≤ 4294967295) := Lib.hid (by simp only [List.mem_cons, List.not_mem_nil, or_false] at hv; omega)
    clear hv
    have c7_0 := HX5.look 2
    have c7_1 := HX5.look 3
    have c7_2 := HX5.look 4
    have f7_0 := HX5.free 3
    have l7_0 := HX1.bx.lt
    have l7_1 := HX5.bx.lt
    go_wp2_with fail
    clear c7_0 c7_1 c7_2 f7_0 l7_0 l7_1
    refine Calls.name ?_
    intro U14 hU14
    have ho : Only w6.heap.size (w6.heap.size + 1) w13 U14 := by rw [hU14]; exact (((Only.refl _ _ _).set (p := ⟨w6.heap.size, 3, none⟩) (Nat.le_refl _) (Nat.lt_succ_self _) _).set (p := ⟨w6.heap.size, 3, none⟩) (Nat.le_refl _) (Nat.lt_succ_self _) _)
    replace HX5 : Kept w6.heap.size (w6.heap.size + 1) (BoxK w6.heap.size 29 #[.int .i64 va, .int .i64 vo, .int .i64 1, .int .i64 (1 + vd), .int .i64 (1 + vd), .int .i64 vs, .slice none 0 0, .slice none 0 0, .int .i64 0, .int .i64 0]) U14 := by rw [hU14]; exact Kept.box ((HX5.bx.puts 3 (.int .i64 vi) (cs' := #[.int .i64 va, .int .i64 vo, .int .i64 1, .int .i64 vi, .int .i64 (1 + vd), .int .i64 vs, .slice none 0 0, .slice none 0 0, .int .i64 0, .int .i64 0]) rfl).puts 3 (.int .i64 (1 + vd)) (cs' := #[.int .i64 va, .int .i64 vo, .int .i64 1, .int .i64 (1 + vd), .int .i64 (1 + vd), .int .i64 vs, .slice none 0 0, .slice none 0 0, .int .i64 0, .int .i64 0]) rfl)
    replace HS := HS.only ho (by have := Y13.out; omega)
    replace HX1 := HX1.only ho (by have := Y13.out; omega)
    have Z14 : Hid (U14.heap.size = w13.heap.size) := Lib.hid (by rw [hU14]; simp [World.setCell]); clear ho
    have Y14 := Lib.hid (And.intro Y13.out Z14.out); clear Y13 Z14
    clear hU14
    refine (dNext 4 HS.here (by omega) (by omega) (by omega)).mono ?_
    rintro e w15 ⟨p0, rfl, hp00, hp01, hs⟩
    have ho := hs.fr
    have Z15 := Lib.hid ho.size
    have Y15 := Lib.hid (And.intro Y14.out Z15.out); clear Y14 Z15
    replace HX1 := HX1.only ho (by have := Y15.out; omega)
    replace HX5 := HX5.only ho (by have := Y15.out; omega)
    replace HS := HS.next hs; clear ho hs
    have l8_0 := HX1.bx.lt
    have l8_1 := HX5.bx.lt
    go_wp2_with fail
    clear l8_0 l8_1
    go_loopw [4] (fun t wr => ∃ (p : Int) (A : Option Addr) (n c : Nat) (ys : List Lnk) (K2 hi : Nat), t = .int .i64 p ∧ Hid (ys.all linkOk = true) ∧ 0 ≤ p ∧ (n : Int) + p ≤ 3 ∧ (K2 : Int) + 5 * p ≤ K + 30 ∧ Hid (w15.heap.size ≤ wr.heap.size) ∧ Dr w g A0 n0 c0 cs K2 wr ∧ Kept w.heap.size (w.heap.size + 1) (BoxK w.heap.size 29 #[.int .i64 0, .int .i64 0, .int .i64 0, .int .i64 0, .int .i64 0, .int .i64 0, .slice none 0 0, .slice none 0 0, .int .i64 0, .int .i64 0]) wr ∧ Kept w6.heap.size (w6.heap.size + 1) (BoxK w6.heap.size 29 #[.int .i64 va, .int .i64 vo, .int .i64 1, .int .i64 (1 + vd), .int .i64 (1 + vd), .int .i64 vs, .slice A n c, .slice none 0 0, .int .i64 0, .int .i64 0]) wr ∧ Kept (w15.heap.size) hi (OwnFK 101 4 lcell (w15.heap.size) hi A n c ys) wr) (fun t _ => (intOf t).toNat)
    case atStart => exact ⟨p0, none, 0, 0, [], _, w15.heap.size, rfl, Lib.hid rfl, by omega, by omega, by omega, Lib.hid (Nat.le_refl _), HS, HX1, HX5, OwnFK.nil_ _ _ _ _ (Nat.le_refl _)⟩
    case round =>
      clear HS HX1 HX5
      obtain ⟨p, A, n, c, ys, K2, hi, rfl, HI, hp0, hp1, hp2, Zw, HS, HX1, HX5, HO⟩ := hrel
      have Y16 := Lib.hid (And.intro Y15.out Zw.out); clear Y15 Zw
      have Zo := Lib.hid HO.le
      have Y17 := Lib.hid (And.intro Y16.out Zo.out); clear Y16 Zo
      by_cases hp : (0 : Int) < p
      · have l9_0 := HX1.bx.lt
        have l9_1 := HX5.bx.lt
        go_wp2_with fail
        clear l9_0 l9_1
        refine (dNext 4 HS.here (by omega) (by omega) (by omega)).mono ?_
        rintro e w16 ⟨vx, rfl, hvx0, hvx1, hs⟩
        have ho := hs.fr
        have Z16 := Lib.hid ho.size
        have Y18 := Lib.hid (And.intro Y17.out Z16.out); clear Y17 Z16
        replace HX1 := HX1.only ho (by have := Y18.out; omega)
        replace HX5 := HX5.only ho (by have := Y18.out; omega)
        replace HO := HO.only ho (by have := Y18.out; omega)
        replace HS := HS.next hs; clear ho hs
        have l10_0 := HX1.bx.lt
        have l10_1 := HX5.bx.lt
        go_wp2_with fail
        clear l10_0 l10_1
        refine (dNext 9 HS.here (by omega) (by omega) (by omega)).mono ?_
        rintro e w17 ⟨vw, rfl, hvw0, hvw1, hs⟩
        have ho := hs.fr
        have Z17 := Lib.hid ho.size
        have Y19 := Lib.hid (And.intro Y18.out Z17.out); clear Y18 Z17
        replace HX1 := HX1.only ho (by have := Y19.out; omega)
        replace HX5 := HX5.only ho (by have := Y19.out; omega)
        replace HO := HO.only ho (by have := Y19.out; omega)
        replace HS := HS.next hs; clear ho hs
        have l11_0 := HX1.bx.lt
        have l11_1 := HX5.bx.lt
        go_wp2_with fail
        clear l11_0 l11_1
        refine Calls.name ?_
        intro U18 hU18
        have hb : Below w17.heap.size w17 U18 := by rw [hU18]; exact ((Below.refl _ _).alloc (Nat.le_refl _) _)
        have zz : Hid (w17.heap.size + 1 = U18.heap.size) := Lib.hid (by rw [hU18]; simp)
        have HX8 : Kept w17.heap.size (w17.heap.size + 1) (BoxK w17.heap.size 2 #[.int .i64 1, .int .i64 1, .int .i64 2, .int .i64 5, .int .i64 65535, .int .i64 0]) U18 := by rw [hU18]; exact Kept.box (Box.made_at _ _ _ rfl)
        replace HS := HS.below hb
        replace HX1 := HX1.below hb
        replace HX5 := HX5.below hb
        replace HO := HO.below hb
        clear hb
        have Z18 := zz; clear zz
        have Y20 := Lib.hid (And.intro Y19.out Z18.out); clear Y19 Z18
        clear hU18
        refine (dPick w17.heap.size 6 [1, 1, 2, 5, 65535, 0] HS.here (by omega) HX8.bx rfl rfl (by omega) (by omega) (by have := Y20.out; omega)).mono ?_
        rintro e w19 ⟨vc, rfl, hv, hs⟩
        have ho := hs.fr
        have Z19 := Lib.hid ho.size
        have Y21 := Lib.hid (And.intro Y20.out Z19.out); clear Y20 Z19
        clear HX8
        replace HX1 := HX1.only ho (by have := Y21.out; omega)
        replace HX5 := HX5.only ho (by have := Y21.out; omega)
        replace HO := HO.only ho (by have := Y21.out; omega)
        replace HS := HS.next hs; clear ho hs
        have HVvc : Hid (0 ≤ vc ∧ vc ≤ 65535) := Lib.hid (by simp only [List.mem_cons, List.not_mem_nil, or_false] at hv; omega)
        clear hv
        have l12_0 := HX1.bx.lt
        have l12_1 := HX5.bx.lt
        go_wp2_with fail
        clear l12_0 l12_1
        refine Calls.name ?_
        intro U20 hU20
        have hb : Below w19.heap.size w19 U20 := by rw [hU20]; exact ((Below.refl _ _).alloc (Nat.le_refl _) _)
        have zz : Hid (w19.heap.size + 1 = U20.heap.size) := Lib.hid (by rw [hU20]; simp)
        have HX9 : Kept w19.heap.size (w19.heap.size + 1) (BoxK w19.heap.size 101 #[.int .i64 1, .int .i64 (1 + vx), .int .i64 vw, .int .i64 vc]) U20 := by rw [hU20]; exact Kept.box (Box.made_at _ _ _ rfl)
        replace HS := HS.below hb
        replace HX1 := HX1.below hb
        replace HX5 := HX5.below hb
        replace HO := HO.below hb
        clear hb
        have Z20 := zz; clear zz
        have Y22 := Lib.hid (And.intro Y21.out Z20.out); clear Y21 Z20
        clear hU20
        refine (dChance 3 HS.here (by omega) (by omega)).mono ?_
        rintro e w21 ⟨vb, rfl, hs⟩
        have ho := hs.fr
        have Z21 := Lib.hid ho.size
        have Y23 := Lib.hid (And.intro Y22.out Z21.out); clear Y22 Z21
        replace HX1 := HX1.only ho (by have := Y23.out; omega)
        replace HX5 := HX5.only ho (by have := Y23.out; omega)
        replace HO := HO.only ho (by have := Y23.out; omega)
        replace HX9 := HX9.only ho (by have := Y23.out; omega)
        replace HS := HS.next hs; clear ho hs
        cases vb
        · have c13_0 := HX5.look 6
          have c13_1 := HX9.look 0
          have c13_2 := HX9.look 1
          have c13_3 := HX9.look 2
          have c13_4 := HX9.look 3
          have l13_0 := HX1.bx.lt
          have l13_1 := HX5.bx.lt
          have l13_2 := HX9.bx.lt
          go_wp2_with (first | (at_builtin; refine wpList_name ?_; intro U22 hU22; have hb : Below w21.heap.size w21 U22 := (by rw [hU22]; exact ((Below.refl _ _).alloc (Nat.le_refl _) _)); have zz : Hid (w21.heap.size + 1 = U22.heap.size) := Lib.hid (by rw [hU22]; simp); have HX10 : Kept w21.heap.size (w21.heap.size + 1) (BoxK w21.heap.size 101 #[.int .i64 1, .int .i64 (1 + vx), .int .i64 vw, .int .i64 vc]) U22 := (by rw [hU22]; exact Kept.box (Box.made_at _ _ _ rfl)); replace HS := HS.below hb; replace HX1 := HX1.below hb; replace HX5 := HX5.below hb; replace HO := HO.below hb; replace HX9 := HX9.below hb; clear hb; have Z22 := zz; clear zz; have Y24 := Lib.hid (And.intro Y23.out Z22.out); clear Y23 Z22; clear hU22; refine wpList_appF0 lcell_len lcell_one Try.underlying26 linkInfo rfl (by decide) (by decide) rfl (.tmp 73) (.tmp 75) rfl (B := w15.heap.size) rfl HO.ownF rfl (InF.of_box HX10.bx [⟨1, 1 + vx, vw, vc⟩] rfl rfl) (by omega) (by have := Y24.out; omega) ?_; intro A' c' w23 ho hg; have hq : Only w15.heap.size hi U22 w23 := Only.of_grown hg (fun r hr => by have := HO.ownF.block r hr; have := HO.lim r hr; omega); have Z23 := Lib.hid hq.size; have Y25 := Lib.hid (And.intro Y24.out Z23.out); clear Y24 Z23; clear HO; replace HS := HS.only hq (by have := Y25.out; omega); replace HX1 := HX1.only hq (by have := Y25.out; omega); replace HX5 := HX5.only hq (by have := Y25.out; omega); replace HX9 := HX9.only hq (by have := Y25.out; omega); replace HX10 := HX10.only hq (by have := Y25.out; omega); clear hq hg; skip; have HO2 := ho.kept rfl; clear ho; have c14_0 := HX5.look 6; have f14_0 := HX5.free 6; have l14_0 := HX1.bx.lt; have l14_1 := HX5.bx.lt; have l14_2 := HX9.bx.lt; have l14_3 := HX10.bx.lt))
          clear c13_0 c13_1 c13_2 c13_3 c13_4 l13_0 l13_1 l13_2 c14_0 f14_0 l14_0 l14_1 l14_2 l14_3
          obtain ⟨U24, hU24⟩ : ∃ W : World, W = (w23.setCell ⟨w6.heap.size, 6, none⟩ (.slice A' (n + 1) c')) := ⟨_, rfl⟩
          have ho : Only w6.heap.size (w6.heap.size + 1) w23 U24 := by rw [hU24]; exact ((Only.refl _ _ _).set (p := ⟨w6.heap.size, 6, none⟩) (Nat.le_refl _) (Nat.lt_succ_self _) _)
          replace HX5 : Kept w6.heap.size (w6.heap.size + 1) (BoxK w6.heap.size 29 #[.int .i64 va, .int .i64 vo, .int .i64 1, .int .i64 (1 + vd), .int .i64 (1 + vd), .int .i64 vs, .slice A' (n + 1) c', .slice none 0 0, .int .i64 0, .int .i64 0]) U24 := by rw [hU24]; exact Kept.box (HX5.bx.puts 6 (.slice A' (n + 1) c') (cs' := #[.int .i64 va, .int .i64 vo, .int .i64 1, .int .i64 (1 + vd), .int .i64 (1 + vd), .int .i64 vs, .slice A' (n + 1) c', .slice none 0 0, .int .i64 0, .int .i64 0]) rfl)
          replace HS := HS.only ho (by have := Y25.out; omega)
          replace HX1 := HX1.only ho (by have := Y25.out; omega)
          replace HX9 := HX9.only ho (by have := Y25.out; omega)
          replace HX10 := HX10.only ho (by have := Y25.out; omega)
          replace HO2 := HO2.only ho (by have := Y25.out; omega)
          have Z24 : Hid (U24.heap.size = w23.heap.size) := Lib.hid (by rw [hU24]; simp [World.setCell]); clear ho
          have Y26 := Lib.hid (And.intro Y25.out Z24.out); clear Y25 Z24
          subst hU24
          go_roundw
          case rel => exact ⟨p - 1, A', n + 1, c', _, _, _, by go_num, Lib.hid (all_snoc HI.out (linkOk_mk (by omega) (by omega) (by omega) HVvc.out)), by omega, by omega, by omega, Lib.hid (by have := Y26.out; omega), HS, HX1, HX5, HO2⟩
          case measure => simp [intOf]; omega
        · have c13_0 := HX9.look 0
          have f13_0 := HX9.free 0
          have l13_0 := HX1.bx.lt
          have l13_1 := HX5.bx.lt
          have l13_2 := HX9.bx.lt
          go_wp2_with fail
          clear c13_0 f13_0 l13_0 l13_1 l13_2
          obtain ⟨U22, hU22⟩ : ∃ W : World, W = (w21.setCell ⟨w19.heap.size, 0, none⟩ (.int .i64 2)) := ⟨_, rfl⟩
          have ho : Only w19.heap.size (w19.heap.size + 1) w21 U22 := by rw [hU22]; exact ((Only.refl _ _ _).set (p := ⟨w19.heap.size, 0, none⟩) (Nat.le_refl _) (Nat.lt_succ_self _) _)
          replace HX9 : Kept w19.heap.size (w19.heap.size + 1) (BoxK w19.heap.size 101 #[.int .i64 2, .int .i64 (1 + vx), .int .i64 vw, .int .i64 vc]) U22 := by rw [hU22]; exact Kept.box (HX9.bx.puts 0 (.int .i64 2) (cs' := #[.int .i64 2, .int .i64 (1 + vx), .int .i64 vw, .int .i64 vc]) rfl)
          replace HS := HS.only ho (by have := Y23.out; omega)
          replace HX1 := HX1.only ho (by have := Y23.out; omega)
          replace HX5 := HX5.only ho (by have := Y23.out; omega)
          replace HO := HO.only ho (by have := Y23.out; omega)
          have Z22 : Hid (U22.heap.size = w21.heap.size) := Lib.hid (by rw [hU22]; simp [World.setCell]); clear ho
          have Y24 := Lib.hid (And.intro Y23.out Z22.out); clear Y23 Z22
          refine Calls.name ?_
          intro U23 hU23
          have kU23 : U23 = (U22.alloc (.cells #[.int .i64 11, .int .i64 12] 2)) := by rw [hU22]; exact hU23
          have hb : Below U22.heap.size U22 U23 := by rw [kU23]; exact ((Below.refl _ _).alloc (Nat.le_refl _) _)
          have zz : Hid (U22.heap.size + 1 = U23.heap.size) := Lib.hid (by rw [kU23]; simp)
          have HX10 : Kept w21.heap.size (w21.heap.size + 1) (BoxK w21.heap.size 2 #[.int .i64 11, .int .i64 12]) U23 := by rw [kU23]; exact Kept.box (Box.made_at _ _ _ (by rw [hU22]; simp [World.setCell]))
          replace HS := HS.below hb
          replace HX1 := HX1.below hb
          replace HX5 := HX5.below hb
          replace HO := HO.below hb
          replace HX9 := HX9.below hb
          clear hb
          have Z23 := zz; clear zz
          have Y25 := Lib.hid (And.intro Y24.out Z23.out); clear Y24 Z23
          clear kU23 hU23 hU22
          refine (dPick w21.heap.size 2 [11, 12] HS.here (by omega) HX10.bx rfl rfl (by omega) (by omega) (by have := Y25.out; omega)).mono ?_
          rintro e w24 ⟨vy, rfl, hv, hs⟩
          have ho := hs.fr
          have Z24 := Lib.hid ho.size
          have Y26 := Lib.hid (And.intro Y25.out Z24.out); clear Y25 Z24
          clear HX10
          replace HX1 := HX1.only ho (by have := Y26.out; omega)
          replace HX5 := HX5.only ho (by have := Y26.out; omega)
          replace HO := HO.only ho (by have := Y26.out; omega)
          replace HX9 := HX9.only ho (by have := Y26.out; omega)
          replace HS := HS.next hs; clear ho hs
          have HVvy : Hid (11 ≤ vy ∧ vy ≤ 12) := Lib.hid (by simp only [List.mem_cons, List.not_mem_nil, or_false] at hv; omega)
          clear hv
          have c14_0 := HX5.look 6
          have c14_1 := HX9.look 0
          have c14_2 := HX9.look 1
          have c14_3 := HX9.look 2
          have c14_4 := HX9.look 3
          have f14_0 := HX9.free 1
          have l14_0 := HX1.bx.lt
          have l14_1 := HX5.bx.lt
          have l14_2 := HX9.bx.lt
          have n14_0_0 : ¬ w19.heap.size = w6.heap.size := (by have := Y26.out; omega)
          have m14_0_0 : ¬ w6.heap.size = w19.heap.size := (by have := Y26.out; omega)
          go_wp2_with (first | (at_builtin; obtain ⟨U25, hU25⟩ : ∃ W : World, W = (w24.setCell ⟨w19.heap.size, 1, none⟩ (.int .i64 vy)) := ⟨_, rfl⟩; have ho : Only w19.heap.size (w19.heap.size + 1) w24 U25 := (by rw [hU25]; exact ((Only.refl _ _ _).set (p := ⟨w19.heap.size, 1, none⟩) (Nat.le_refl _) (Nat.lt_succ_self _) _)); replace HX9 : Kept w19.heap.size (w19.heap.size + 1) (BoxK w19.heap.size 101 #[.int .i64 2, .int .i64 vy, .int .i64 vw, .int .i64 vc]) U25 := (by rw [hU25]; exact Kept.box (HX9.bx.puts 1 (.int .i64 vy) (cs' := #[.int .i64 2, .int .i64 vy, .int .i64 vw, .int .i64 vc]) rfl)); replace HS := HS.only ho (by have := Y26.out; omega); replace HX1 := HX1.only ho (by have := Y26.out; omega); replace HX5 := HX5.only ho (by have := Y26.out; omega); replace HO := HO.only ho (by have := Y26.out; omega); have Z25 : Hid (U25.heap.size = w24.heap.size) := Lib.hid (by rw [hU25]; simp [World.setCell]); clear ho; have Y27 := Lib.hid (And.intro Y26.out Z25.out); clear Y26 Z25; refine wpList_name ?_; intro U26 hU26; have kU26 : U26 = (U25.alloc (.cells #[.int .i64 2, .int .i64 vy, .int .i64 vw, .int .i64 vc] 101)) := (by rw [hU25]; exact hU26); have hb : Below U25.heap.size U25 U26 := (by rw [kU26]; exact ((Below.refl _ _).alloc (Nat.le_refl _) _)); have zz : Hid (U25.heap.size + 1 = U26.heap.size) := Lib.hid (by rw [kU26]; simp); have HX11 : Kept w24.heap.size (w24.heap.size + 1) (BoxK w24.heap.size 101 #[.int .i64 2, .int .i64 vy, .int .i64 vw, .int .i64 vc]) U26 := (by rw [kU26]; exact Kept.box (Box.made_at _ _ _ (by rw [hU25]; simp [World.setCell]))); replace HS := HS.below hb; replace HX1 := HX1.below hb; replace HX5 := HX5.below hb; replace HO := HO.below hb; replace HX9 := HX9.below hb; clear hb; have Z26 := zz; clear zz; have Y28 := Lib.hid (And.intro Y27.out Z26.out); clear Y27 Z26; clear kU26 hU26 hU25; refine wpList_appF0 lcell_len lcell_one Try.underlying26 linkInfo rfl (by decide) (by decide) rfl (.tmp 73) (.tmp 75) rfl (B := w15.heap.size) rfl HO.ownF rfl (InF.of_box HX11.bx [⟨2, vy, vw, vc⟩] rfl rfl) (by omega) (by have := Y28.out; omega) ?_; intro A' c' w27 ho hg; have hq : Only w15.heap.size hi U26 w27 := Only.of_grown hg (fun r hr => by have := HO.ownF.block r hr; have := HO.lim r hr; omega); have Z27 := Lib.hid hq.size; have Y29 := Lib.hid (And.intro Y28.out Z27.out); clear Y28 Z27; clear HO; replace HS := HS.only hq (by have := Y29.out; omega); replace HX1 := HX1.only hq (by have := Y29.out; omega); replace HX5 := HX5.only hq (by have := Y29.out; omega); replace HX9 := HX9.only hq (by have := Y29.out; omega); replace HX11 := HX11.only hq (by have := Y29.out; omega); clear hq hg; skip; have HO2 := ho.kept rfl; clear ho; have c15_0 := HX5.look 6; have f15_0 := HX5.free 6; have l15_0 := HX1.bx.lt; have l15_1 := HX5.bx.lt; have l15_2 := HX9.bx.lt; have l15_3 := HX11.bx.lt))
          clear c14_0 c14_1 c14_2 c14_3 c14_4 f14_0 l14_0 l14_1 l14_2 n14_0_0 m14_0_0 c15_0 f15_0 l15_0 l15_1 l15_2 l15_3
          obtain ⟨U28, hU28⟩ : ∃ W : World, W = (w27.setCell ⟨w6.heap.size, 6, none⟩ (.slice A' (n + 1) c')) := ⟨_, rfl⟩
          have ho : Only w6.heap.size (w6.heap.size + 1) w27 U28 := by rw [hU28]; exact ((Only.refl _ _ _).set (p := ⟨w6.heap.size, 6, none⟩) (Nat.le_refl _) (Nat.lt_succ_self _) _)
          replace HX5 : Kept w6.heap.size (w6.heap.size + 1) (BoxK w6.heap.size 29 #[.int .i64 va, .int .i64 vo, .int .i64 1, .int .i64 (1 + vd), .int .i64 (1 + vd), .int .i64 vs, .slice A' (n + 1) c', .slice none 0 0, .int .i64 0, .int .i64 0]) U28 := by rw [hU28]; exact Kept.box (HX5.bx.puts 6 (.slice A' (n + 1) c') (cs' := #[.int .i64 va, .int .i64 vo, .int .i64 1, .int .i64 (1 + vd), .int .i64 (1 + vd), .int .i64 vs, .slice A' (n + 1) c', .slice none 0 0, .int .i64 0, .int .i64 0]) rfl)
          replace HS := HS.only ho (by have := Y29.out; omega)
          replace HX1 := HX1.only ho (by have := Y29.out; omega)
          replace HX9 := HX9.only ho (by have := Y29.out; omega)
          replace HX11 := HX11.only ho (by have := Y29.out; omega)
          replace HO2 := HO2.only ho (by have := Y29.out; omega)
          have Z28 : Hid (U28.heap.size = w27.heap.size) := Lib.hid (by rw [hU28]; simp [World.setCell]); clear ho
          have Y30 := Lib.hid (And.intro Y29.out Z28.out); clear Y29 Z28
          subst hU28
          go_roundw
          case rel => exact ⟨p - 1, A', n + 1, c', _, _, _, by go_num, Lib.hid (all_snoc HI.out (linkOk_mk (by omega) (by have := HVvy.out; omega) (by omega) HVvc.out)), by omega, by omega, by omega, Lib.hid (by have := Y30.out; omega), HS, HX1, HX5, HO2⟩
          case measure => simp [intOf]; omega
      · have c9_0 := HX1.look 0
        have c9_1 := HX1.look 1
        have c9_2 := HX1.look 2
        have c9_3 := HX1.look 3
        have c9_4 := HX1.look 4
        have c9_5 := HX1.look 5
        have c9_6 := HX1.look 6
        have c9_7 := HX1.look 7
        have c9_8 := HX1.look 8
        have c9_9 := HX1.look 9
        have c9_10 := HX5.look 0
        have c9_11 := HX5.look 1
        have c9_12 := HX5.look 2
        have c9_13 := HX5.look 3
        have c9_14 := HX5.look 4
        have c9_15 := HX5.look 5
        have c9_16 := HX5.look 6
        have c9_17 := HX5.look 7
        have c9_18 := HX5.look 8
        have c9_19 := HX5.look 9
        have f9_0 := HX1.free 0
        have f9_1 := HX1.free 1
        have f9_2 := HX1.free 2
        have f9_3 := HX1.free 3
        have f9_4 := HX1.free 4
        have f9_5 := HX1.free 5
        have f9_6 := HX1.free 6
        have f9_7 := HX1.free 7
        have f9_8 := HX1.free 8
        have f9_9 := HX1.free 9
        have l9_0 := HX1.bx.lt
        have l9_1 := HX5.bx.lt
        have n9_0_1 : ¬ w.heap.size = w6.heap.size := (by have := Y17.out; omega)
        have m9_0_1 : ¬ w6.heap.size = w.heap.size := (by have := Y17.out; omega)
        go_wp2
        clear c9_0 c9_1 c9_2 c9_3 c9_4 c9_5 c9_6 c9_7 c9_8 c9_9 c9_10 c9_11 c9_12 c9_13 c9_14 c9_15 c9_16 c9_17 c9_18 c9_19 f9_0 f9_1 f9_2 f9_3 f9_4 f9_5 f9_6 f9_7 f9_8 f9_9 l9_0 l9_1 n9_0_1 m9_0_1
        obtain ⟨U16, hU16⟩ : ∃ W : World, W = ((((((((((wr.setCell ⟨w.heap.size, 0, none⟩ (.int .i64 va)).setCell ⟨w.heap.size, 1, none⟩ (.int .i64 vo)).setCell ⟨w.heap.size, 2, none⟩ (.int .i64 1)).setCell ⟨w.heap.size, 3, none⟩ (.int .i64 (1 + vd))).setCell ⟨w.heap.size, 4, none⟩ (.int .i64 (1 + vd))).setCell ⟨w.heap.size, 5, none⟩ (.int .i64 vs)).setCell ⟨w.heap.size, 6, none⟩ (.slice A n c)).setCell ⟨w.heap.size, 7, none⟩ (.slice none 0 0)).setCell ⟨w.heap.size, 8, none⟩ (.int .i64 0)).setCell ⟨w.heap.size, 9, none⟩ (.int .i64 0)) := ⟨_, rfl⟩
        have ho : Only w.heap.size (w.heap.size + 1) wr U16 := by rw [hU16]; exact (((((((((((Only.refl _ _ _).set (p := ⟨w.heap.size, 0, none⟩) (Nat.le_refl _) (Nat.lt_succ_self _) _).set (p := ⟨w.heap.size, 1, none⟩) (Nat.le_refl _) (Nat.lt_succ_self _) _).set (p := ⟨w.heap.size, 2, none⟩) (Nat.le_refl _) (Nat.lt_succ_self _) _).set (p := ⟨w.heap.size, 3, none⟩) (Nat.le_refl _) (Nat.lt_succ_self _) _).set (p := ⟨w.heap.size, 4, none⟩) (Nat.le_refl _) (Nat.lt_succ_self _) _).set (p := ⟨w.heap.size, 5, none⟩) (Nat.le_refl _) (Nat.lt_succ_self _) _).set (p := ⟨w.heap.size, 6, none⟩) (Nat.le_refl _) (Nat.lt_succ_self _) _).set (p := ⟨w.heap.size, 7, none⟩) (Nat.le_refl _) (Nat.lt_succ_self _) _).set (p := ⟨w.heap.size, 8, none⟩) (Nat.le_refl _) (Nat.lt_succ_self _) _).set (p := ⟨w.heap.size, 9, none⟩) (Nat.le_refl _) (Nat.lt_succ_self _) _)
        replace HX1 : Kept w.heap.size (w.heap.size + 1) (BoxK w.heap.size 29 #[.int .i64 va, .int .i64 vo, .int .i64 1, .int .i64 (1 + vd), .int .i64 (1 + vd), .int .i64 vs, .slice A n c, .slice none 0 0, .int .i64 0, .int .i64 0]) U16 := by rw [hU16]; exact Kept.box ((((((((((HX1.bx.puts 0 (.int .i64 va) (cs' := #[.int .i64 va, .int .i64 0, .int .i64 0, .int .i64 0, .int .i64 0, .int .i64 0, .slice none 0 0, .slice none 0 0, .int .i64 0, .int .i64 0]) rfl).puts 1 (.int .i64 vo) (cs' := #[.int .i64 va, .int .i64 vo, .int .i64 0, .int .i64 0, .int .i64 0, .int .i64 0, .slice none 0 0, .slice none 0 0, .int .i64 0, .int .i64 0]) rfl).puts 2 (.int .i64 1) (cs' := #[.int .i64 va, .int .i64 vo, .int .i64 1, .int .i64 0, .int .i64 0, .int .i64 0, .slice none 0 0, .slice none 0 0, .int .i64 0, .int .i64 0]) rfl).puts 3 (.int .i64 (1 + vd)) (cs' := #[.int .i64 va, .int .i64 vo, .int .i64 1, .int .i64 (1 + vd), .int .i64 0, .int .i64 0, .slice none 0 0, .slice none 0 0, .int .i64 0, .int .i64 0]) rfl).puts 4 (.int .i64 (1 + vd)) (cs' := #[.int .i64 va, .int .i64 vo, .int .i64 1, .int .i64 (1 + vd), .int .i64 (1 + vd), .int .i64 0, .slice none 0 0, .slice none 0 0, .int .i64 0, .int .i64 0]) rfl).puts 5 (.int .i64 vs) (cs' := #[.int .i64 va, .int .i64 vo, .int .i64 1, .int .i64 (1 + vd), .int .i64 (1 + vd), .int .i64 vs, .slice none 0 0, .slice none 0 0, .int .i64 0, .int .i64 0]) rfl).puts 6 (.slice A n c) (cs' := #[.int .i64 va, .int .i64 vo, .int .i64 1, .int .i64 (1 + vd), .int .i64 (1 + vd), .int .i64 vs, .slice A n c, .slice none 0 0, .int .i64 0, .int .i64 0]) rfl).puts 7 (.slice none 0 0) (cs' := #[.int .i64 va, .int .i64 vo, .int .i64 1, .int .i64 (1 + vd), .int .i64 (1 + vd), .int .i64 vs, .slice A n c, .slice none 0 0, .int .i64 0, .int .i64 0]) rfl).puts 8 (.int .i64 0) (cs' := #[.int .i64 va, .int .i64 vo, .int .i64 1, .int .i64 (1 + vd), .int .i64 (1 + vd), .int .i64 vs, .slice A n c, .slice none 0 0, .int .i64 0, .int .i64 0]) rfl).puts 9 (.int .i64 0) (cs' := #[.int .i64 va, .int .i64 vo, .int .i64 1, .int .i64 (1 + vd), .int .i64 (1 + vd), .int .i64 vs, .slice A n c, .slice none 0 0, .int .i64 0, .int .i64 0]) rfl)
        replace HS := HS.only ho (by have := Y17.out; omega)
        replace HX5 := HX5.only ho (by have := Y17.out; omega)
        replace HO := HO.only ho (by have := Y17.out; omega)
        have Z16 : Hid (U16.heap.size = wr.heap.size) := Lib.hid (by rw [hU16]; simp [World.setCell]); clear ho
        have Y18 := Lib.hid (And.intro Y17.out Z16.out); clear Y17 Z16
        have q_0 := HX1.look 0
        have q_1 := HX1.look 1
        have q_2 := HX1.look 2
        have q_3 := HX1.look 3
        have q_4 := HX1.look 4
        have q_5 := HX1.look 5
        have q_6 := HX1.look 6
        have q_7 := HX1.look 7
        have q_8 := HX1.look 8
        have q_9 := HX1.look 9
        have fin : ∀ e, e = Ending.returned (.agg (lsaCells ⟨va, vo, 1, 1 + vd, 1 + vd, vs, ys, [], 0, 0⟩ A none n c 0 0)) → (DrawSOut w g A0 n0 c0 cs (K + 40) e U16) := by rintro _ rfl; exact ⟨_, _, _, _, _, _, _, rfl, sound_1 va vo (1 + vd) vs ys HVva.out HVvo.out (by omega) HVvs.out (by have := HO.ownF.1; omega) HI.out, ⟨(OwnFK.widen HO (by have := Y18.out; omega) (by have := Y18.out; omega) (Nat.le_refl _)), (OwnFK.nil_ 2 1 icell _ (Nat.le_refl _)), .inl ⟨rfl, rfl, rfl, rfl⟩⟩, by omega, by omega, HS.more (by omega)⟩
        subst hU16
        exact bodyPost_ret (v := .agg (lsaCells ⟨va, vo, 1, 1 + vd, 1 + vd, vs, ys, [], 0, 0⟩ A none n c 0 0)) (by simp [results, Try.results58, go_sem, lsaCells, q_0, q_1, q_2, q_3, q_4, q_5, q_6, q_7, q_8, q_9]) rfl (fin _ rfl)
  · have c5_0 := HX5.look 2
    have f5_0 := HX5.free 2
    have l5_0 := HX1.bx.lt
    have l5_1 := HX5.bx.lt
    go_wp2_with fail
    clear c5_0 f5_0 l5_0 l5_1
    refine Calls.name ?_
    intro U9 hU9
    have ho : Only w6.heap.size (w6.heap.size + 1) w8 U9 := by rw [hU9]; exact ((Only.refl _ _ _).set (p := ⟨w6.heap.size, 2, none⟩) (Nat.le_refl _) (Nat.lt_succ_self _) _)
    replace HX5 : Kept w6.heap.size (w6.heap.size + 1) (BoxK w6.heap.size 29 #[.int .i64 va, .int .i64 vo, .int .i64 2, .int .i64 0, .int .i64 0, .int .i64 vs, .slice none 0 0, .slice none 0 0, .int .i64 0, .int .i64 0]) U9 := by rw [hU9]; exact Kept.box (HX5.bx.puts 2 (.int .i64 2) (cs' := #[.int .i64 va, .int .i64 vo, .int .i64 2, .int .i64 0, .int .i64 0, .int .i64 vs, .slice none 0 0, .slice none 0 0, .int .i64 0, .int .i64 0]) rfl)
    replace HS := HS.only ho (by have := Y8.out; omega)
    replace HX1 := HX1.only ho (by have := Y8.out; omega)
    have Z9 : Hid (U9.heap.size = w8.heap.size) := Lib.hid (by rw [hU9]; simp [World.setCell]); clear ho
    have Y9 := Lib.hid (And.intro Y8.out Z9.out); clear Y8 Z9
    clear hU9
    refine (dNext 4 HS.here (by omega) (by omega) (by omega)).mono ?_
    rintro e w10 ⟨vd, rfl, hvd0, hvd1, hs⟩
    have ho := hs.fr
    have Z10 := Lib.hid ho.size
    have Y10 := Lib.hid (And.intro Y9.out Z10.out); clear Y9 Z10
    replace HX1 := HX1.only ho (by have := Y10.out; omega)
    replace HX5 := HX5.only ho (by have := Y10.out; omega)
    replace HS := HS.next hs; clear ho hs
    have c6_0 := HX5.look 4
    have f6_0 := HX5.free 4
    have l6_0 := HX1.bx.lt
    have l6_1 := HX5.bx.lt
    go_wp2_with fail
    clear c6_0 f6_0 l6_0 l6_1
    obtain ⟨U11, hU11⟩ : ∃ W : World, W = (w10.setCell ⟨w6.heap.size, 4, none⟩ (.int .i64 (1 + vd))) := ⟨_, rfl⟩
    have ho : Only w6.heap.size (w6.heap.size + 1) w10 U11 := by rw [hU11]; exact ((Only.refl _ _ _).set (p := ⟨w6.heap.size, 4, none⟩) (Nat.le_refl _) (Nat.lt_succ_self _) _)
    replace HX5 : Kept w6.heap.size (w6.heap.size + 1) (BoxK w6.heap.size 29 #[.int .i64 va, .int .i64 vo, .int .i64 2, .int .i64 0, .int .i64 (1 + vd), .int .i64 vs, .slice none 0 0, .slice none 0 0, .int .i64 0, .int .i64 0]) U11 := by rw [hU11]; exact Kept.box (HX5.bx.puts 4 (.int .i64 (1 + vd)) (cs' := #[.int .i64 va, .int .i64 vo, .int .i64 2, .int .i64 0, .int .i64 (1 + vd), .int .i64 vs, .slice none 0 0, .slice none 0 0, .int .i64 0, .int .i64 0]) rfl)
    replace HS := HS.only ho (by have := Y10.out; omega)
    replace HX1 := HX1.only ho (by have := Y10.out; omega)
    have Z11 : Hid (U11.heap.size = w10.heap.size) := Lib.hid (by rw [hU11]; simp [World.setCell]); clear ho
    have Y11 := Lib.hid (And.intro Y10.out Z11.out); clear Y10 Z11
    refine Calls.name ?_
    intro U12 hU12
    have kU12 : U12 = (U11.alloc (.cells #[.int .i64 11, .int .i64 12, .int .i64 4294967295] 2)) := by rw [hU11]; exact hU12
    have hb : Below U11.heap.size U11 U12 := by rw [kU12]; exact ((Below.refl _ _).alloc (Nat.le_refl _) _)
    have zz : Hid (U11.heap.size + 1 = U12.heap.size) := Lib.hid (by rw [kU12]; simp)
    have HX7 : Kept w10.heap.size (w10.heap.size + 1) (BoxK w10.heap.size 2 #[.int .i64 11, .int .i64 12, .int .i64 4294967295]) U12 := by rw [kU12]; exact Kept.box (Box.made_at _ _ _ (by rw [hU11]; simp [World.setCell]))
    replace HS := HS.below hb
    replace HX1 := HX1.below hb
    replace HX5 := HX5.below hb
    clear hb
    have Z12 := zz; clear zz
    have Y12 := Lib.hid (And.intro Y11.out Z12.out); clear Y11 Z12
    clear kU12 hU12 hU11
    refine (dPick w10.heap.size 3 [11, 12, 4294967295] HS.here (by omega) HX7.bx rfl rfl (by omega) (by omega) (by have := Y12.out; omega)).mono ?_
    rintro e w13 ⟨vi, rfl, hv, hs⟩
    have ho := hs.fr
    have Z13 := Lib.hid ho.size
    have Y13 := Lib.hid (And.intro Y12.out Z13.out); clear Y12 Z13
    clear HX7
    replace HX1 := HX1.only ho (by have := Y13.out; omega)
    replace HX5 := HX5.only ho (by have := Y13.out; omega)
    replace HS := HS.next hs; clear ho hs
    have HVvi : Hid (11 ≤ vi ∧ vi ≤ 4294967295) := Lib.hid (by simp only [List.mem_cons, List.not_mem_nil, or_false] at hv; omega)
    clear hv
    have c7_0 := HX5.look 2
    have c7_1 := HX5.look 3
    have f7_0 := HX5.free 3
    have l7_0 := HX1.bx.lt
    have l7_1 := HX5.bx.lt
    go_wp2_with fail
    clear c7_0 c7_1 f7_0 l7_0 l7_1
    obtain ⟨U14, hU14⟩ : ∃ W : World, W = (w13.setCell ⟨w6.heap.size, 3, none⟩ (.int .i64 vi)) := ⟨_, rfl⟩
    have ho : Only w6.heap.size (w6.heap.size + 1) w13 U14 := by rw [hU14]; exact ((Only.refl _ _ _).set (p := ⟨w6.heap.size, 3, none⟩) (Nat.le_refl _) (Nat.lt_succ_self _) _)
    replace HX5 : Kept w6.heap.size (w6.heap.size + 1) (BoxK w6.heap.size 29 #[.int .i64 va, .int .i64 vo, .int .i64 2, .int .i64 vi, .int .i64 (1 + vd), .int .i64 vs, .slice none 0 0, .slice none 0 0, .int .i64 0, .int .i64 0]) U14 := by rw [hU14]; exact Kept.box (HX5.bx.puts 3 (.int .i64 vi) (cs' := #[.int .i64 va, .int .i64 vo, .int .i64 2, .int .i64 vi, .int .i64 (1 + vd), .int .i64 vs, .slice none 0 0, .slice none 0 0, .int .i64 0, .int .i64 0]) rfl)
    replace HS := HS.only ho (by have := Y13.out; omega)
    replace HX1 := HX1.only ho (by have := Y13.out; omega)
    have Z14 : Hid (U14.heap.size = w13.heap.size) := Lib.hid (by rw [hU14]; simp [World.setCell]); clear ho
    have Y14 := Lib.hid (And.intro Y13.out Z14.out); clear Y13 Z14
    refine Calls.name ?_
    intro U15 hU15
    have kU15 : U15 = (U14.alloc (.cells #[.int .i64 0, .int .i64 255, .int .i64 4294967295] 2)) := by rw [hU14]; exact hU15
    have hb : Below U14.heap.size U14 U15 := by rw [kU15]; exact ((Below.refl _ _).alloc (Nat.le_refl _) _)
    have zz : Hid (U14.heap.size + 1 = U15.heap.size) := Lib.hid (by rw [kU15]; simp)
    have HX8 : Kept w13.heap.size (w13.heap.size + 1) (BoxK w13.heap.size 2 #[.int .i64 0, .int .i64 255, .int .i64 4294967295]) U15 := by rw [kU15]; exact Kept.box (Box.made_at _ _ _ (by rw [hU14]; simp [World.setCell]))
    replace HS := HS.below hb
    replace HX1 := HX1.below hb
    replace HX5 := HX5.below hb
    clear hb
    have Z15 := zz; clear zz
    have Y15 := Lib.hid (And.intro Y14.out Z15.out); clear Y14 Z15
    clear kU15 hU15 hU14
    refine (dPick w13.heap.size 3 [0, 255, 4294967295] HS.here (by omega) HX8.bx rfl rfl (by omega) (by omega) (by have := Y15.out; omega)).mono ?_
    rintro e w16 ⟨vm, rfl, hv, hs⟩
    have ho := hs.fr
    have Z16 := Lib.hid ho.size
    have Y16 := Lib.hid (And.intro Y15.out Z16.out); clear Y15 Z16
    clear HX8
    replace HX1 := HX1.only ho (by have := Y16.out; omega)
    replace HX5 := HX5.only ho (by have := Y16.out; omega)
    replace HS := HS.next hs; clear ho hs
    have HVvm : Hid (0 ≤ vm ∧ vm ≤ 4294967295) := Lib.hid (by simp only [List.mem_cons, List.not_mem_nil, or_false] at hv; omega)
    clear hv
    have c8_0 := HX5.look 8
    have f8_0 := HX5.free 8
    have l8_0 := HX1.bx.lt
    have l8_1 := HX5.bx.lt
    go_wp2_with fail
    clear c8_0 f8_0 l8_0 l8_1
    refine Code.wp_name ?_
    intro U17 hU17
    have ho : Only w6.heap.size (w6.heap.size + 1) w16 U17 := by rw [hU17]; exact ((Only.refl _ _ _).set (p := ⟨w6.heap.size, 8, none⟩) (Nat.le_refl _) (Nat.lt_succ_self _) _)
    replace HX5 : Kept w6.heap.size (w6.heap.size + 1) (BoxK w6.heap.size 29 #[.int .i64 va, .int .i64 vo, .int .i64 2, .int .i64 vi, .int .i64 (1 + vd), .int .i64 vs, .slice none 0 0, .slice none 0 0, .int .i64 vm, .int .i64 0]) U17 := by rw [hU17]; exact Kept.box (HX5.bx.puts 8 (.int .i64 vm) (cs' := #[.int .i64 va, .int .i64 vo, .int .i64 2, .int .i64 vi, .int .i64 (1 + vd), .int .i64 vs, .slice none 0 0, .slice none 0 0, .int .i64 vm, .int .i64 0]) rfl)
    replace HS := HS.only ho (by have := Y16.out; omega)
    replace HX1 := HX1.only ho (by have := Y16.out; omega)
    have Z17 : Hid (U17.heap.size = w16.heap.size) := Lib.hid (by rw [hU17]; simp [World.setCell]); clear ho
    have Y17 := Lib.hid (And.intro Y16.out Z17.out); clear Y16 Z17
    clear hU17
    go_loopw [6] (fun t wr => ∃ (p : Int) (A : Option Addr) (n c : Nat) (ys : List Int) (K2 hi : Nat), t = .int .i64 p ∧ Hid (ups ys ∧ (∀ r ∈ ys, 1 ≤ r ∧ r < p) ∧ (1 + vd < p → 0 < n)) ∧ 1 ≤ p ∧ p ≤ 5 ∧ (n : Int) + 1 ≤ p ∧ (K2 : Int) + 5 * (5 - p) ≤ K + 30 ∧ Hid (U17.heap.size ≤ wr.heap.size) ∧ Dr w g A0 n0 c0 cs K2 wr ∧ Kept w.heap.size (w.heap.size + 1) (BoxK w.heap.size 29 #[.int .i64 0, .int .i64 0, .int .i64 0, .int .i64 0, .int .i64 0, .int .i64 0, .slice none 0 0, .slice none 0 0, .int .i64 0, .int .i64 0]) wr ∧ Kept w6.heap.size (w6.heap.size + 1) (BoxK w6.heap.size 29 #[.int .i64 va, .int .i64 vo, .int .i64 2, .int .i64 vi, .int .i64 (1 + vd), .int .i64 vs, .slice none 0 0, .slice A n c, .int .i64 vm, .int .i64 0]) wr ∧ Kept (U17.heap.size) hi (OwnFK 2 1 icell (U17.heap.size) hi A n c ys) wr) (fun t _ => (5 - intOf t).toNat)
    case atStart => exact ⟨1, none, 0, 0, [], _, U17.heap.size, rfl, Lib.hid ⟨fun i hi => absurd hi (by simp), fun r hr => absurd hr (by simp), fun h => absurd h (by omega)⟩, by omega, by omega, by omega, by omega, Lib.hid (Nat.le_refl _), HS, HX1, HX5, OwnFK.nil_ _ _ _ _ (Nat.le_refl _)⟩
    case round =>
      clear HS HX1 HX5
      obtain ⟨p, A, n, c, ys, K2, hi, rfl, HI, hp0, hp1, hp2, hp3, Zw, HS, HX1, HX5, HO⟩ := hrel
      have Y18 := Lib.hid (And.intro Y17.out Zw.out); clear Y17 Zw
      have Zo := Lib.hid HO.le
      have Y19 := Lib.hid (And.intro Y18.out Zo.out); clear Y18 Zo
      by_cases hp : p < 5
      · by_cases hq : p = 1 + vd
        · have hq' : (p == 1 + vd) = true := by rw [beq_iff_eq]; exact hq
          clear hq
          have c9_0 := HX5.look 4
          have c9_1 := HX5.look 7
          have l9_0 := HX1.bx.lt
          have l9_1 := HX5.bx.lt
          go_wp2_with (first | (at_builtin; refine wpList_name ?_; intro U18 hU18; have hb : Below wr.heap.size wr U18 := (by rw [hU18]; exact ((Below.refl _ _).alloc (Nat.le_refl _) _)); have zz : Hid (wr.heap.size + 1 = U18.heap.size) := Lib.hid (by rw [hU18]; simp); have HX9 : Kept wr.heap.size (wr.heap.size + 1) (BoxK wr.heap.size 2 #[.int .i64 p]) U18 := (by rw [hU18]; exact Kept.box (Box.made_at _ _ _ rfl)); replace HS := HS.below hb; replace HX1 := HX1.below hb; replace HX5 := HX5.below hb; replace HO := HO.below hb; clear hb; have Z18 := zz; clear zz; have Y20 := Lib.hid (And.intro Y19.out Z18.out); clear Y19 Z18; clear hU18; refine wpList_appF0 icell_len icell_one Try.underlying27 intInfo rfl (by decide) (by decide) rfl (.tmp 98) (.tmp 100) rfl (B := U17.heap.size) rfl HO.ownF rfl (InF.of_box HX9.bx [p] rfl rfl) (by omega) (by have := Y20.out; omega) ?_; intro A' c' w19 ho hg; have hq : Only U17.heap.size hi U18 w19 := Only.of_grown hg (fun r hr => by have := HO.ownF.block r hr; have := HO.lim r hr; omega); have Z19 := Lib.hid hq.size; have Y21 := Lib.hid (And.intro Y20.out Z19.out); clear Y20 Z19; clear HO; replace HS := HS.only hq (by have := Y21.out; omega); replace HX1 := HX1.only hq (by have := Y21.out; omega); replace HX5 := HX5.only hq (by have := Y21.out; omega); replace HX9 := HX9.only hq (by have := Y21.out; omega); clear hq hg; skip; have HO2 := ho.kept rfl; clear ho; have c10_0 := HX5.look 7; have f10_0 := HX5.free 7; have l10_0 := HX1.bx.lt; have l10_1 := HX5.bx.lt; have l10_2 := HX9.bx.lt))
          clear c9_0 c9_1 l9_0 l9_1 c10_0 f10_0 l10_0 l10_1 l10_2
          obtain ⟨U20, hU20⟩ : ∃ W : World, W = (w19.setCell ⟨w6.heap.size, 7, none⟩ (.slice A' (n + 1) c')) := ⟨_, rfl⟩
          have ho : Only w6.heap.size (w6.heap.size + 1) w19 U20 := by rw [hU20]; exact ((Only.refl _ _ _).set (p := ⟨w6.heap.size, 7, none⟩) (Nat.le_refl _) (Nat.lt_succ_self _) _)
          replace HX5 : Kept w6.heap.size (w6.heap.size + 1) (BoxK w6.heap.size 29 #[.int .i64 va, .int .i64 vo, .int .i64 2, .int .i64 vi, .int .i64 (1 + vd), .int .i64 vs, .slice none 0 0, .slice A' (n + 1) c', .int .i64 vm, .int .i64 0]) U20 := by rw [hU20]; exact Kept.box (HX5.bx.puts 7 (.slice A' (n + 1) c') (cs' := #[.int .i64 va, .int .i64 vo, .int .i64 2, .int .i64 vi, .int .i64 (1 + vd), .int .i64 vs, .slice none 0 0, .slice A' (n + 1) c', .int .i64 vm, .int .i64 0]) rfl)
          replace HS := HS.only ho (by have := Y21.out; omega)
          replace HX1 := HX1.only ho (by have := Y21.out; omega)
          replace HX9 := HX9.only ho (by have := Y21.out; omega)
          replace HO2 := HO2.only ho (by have := Y21.out; omega)
          have Z20 : Hid (U20.heap.size = w19.heap.size) := Lib.hid (by rw [hU20]; simp [World.setCell]); clear ho
          have Y22 := Lib.hid (And.intro Y21.out Z20.out); clear Y21 Z20
          subst hU20
          go_roundw
          case rel => exact ⟨p + 1, A', n + 1, c', _, _, _, by go_num, Lib.hid (ups_snoc HI.out.1 HI.out.2.1 (by omega) rfl), by omega, by omega, by omega, by omega, Lib.hid (by have := Y22.out; omega), HS, HX1, HX5, HO2⟩
          case measure => simp [intOf]; omega
        · have hq' : (p == 1 + vd) = false := by rw [beq_eq_false_iff_ne]; exact hq
          clear hq
          have c9_0 := HX5.look 4
          have l9_0 := HX1.bx.lt
          have l9_1 := HX5.bx.lt
          go_wp2_with fail
          clear c9_0 l9_0 l9_1
          refine (dChance 2 HS.here (by omega) (by omega)).mono ?_
          rintro e w18 ⟨vb, rfl, hs⟩
          have ho := hs.fr
          have Z18 := Lib.hid ho.size
          have Y20 := Lib.hid (And.intro Y19.out Z18.out); clear Y19 Z18
          replace HX1 := HX1.only ho (by have := Y20.out; omega)
          replace HX5 := HX5.only ho (by have := Y20.out; omega)
          replace HO := HO.only ho (by have := Y20.out; omega)
          replace HS := HS.next hs; clear ho hs
          cases vb
          · have l10_0 := HX1.bx.lt
            have l10_1 := HX5.bx.lt
            go_wp2
            clear l10_0 l10_1
            go_roundw
            case rel => exact ⟨p + 1, A, n, c, ys, _, hi, by go_num, Lib.hid ⟨HI.out.1, fun r hr => by have := HI.out.2.1 r hr; omega, fun h => HI.out.2.2 (by have := beq_eq_false_iff_ne.1 hq'; omega)⟩, by omega, by omega, by omega, by omega, Lib.hid (by have := Y20.out; omega), HS, HX1, HX5, HO⟩
            case measure => simp [intOf]; omega
          · have c10_0 := HX5.look 7
            have l10_0 := HX1.bx.lt
            have l10_1 := HX5.bx.lt
            go_wp2_with (first | (at_builtin; refine wpList_name ?_; intro U19 hU19; have hb : Below w18.heap.size w18 U19 := (by rw [hU19]; exact ((Below.refl _ _).alloc (Nat.le_refl _) _)); have zz : Hid (w18.heap.size + 1 = U19.heap.size) := Lib.hid (by rw [hU19]; simp); have HX9 : Kept w18.heap.size (w18.heap.size + 1) (BoxK w18.heap.size 2 #[.int .i64 p]) U19 := (by rw [hU19]; exact Kept.box (Box.made_at _ _ _ rfl)); replace HS := HS.below hb; replace HX1 := HX1.below hb; replace HX5 := HX5.below hb; replace HO := HO.below hb; clear hb; have Z19 := zz; clear zz; have Y21 := Lib.hid (And.intro Y20.out Z19.out); clear Y20 Z19; clear hU19; refine wpList_appF0 icell_len icell_one Try.underlying27 intInfo rfl (by decide) (by decide) rfl (.tmp 98) (.tmp 100) rfl (B := U17.heap.size) rfl HO.ownF rfl (InF.of_box HX9.bx [p] rfl rfl) (by omega) (by have := Y21.out; omega) ?_; intro A' c' w20 ho hg; have hq : Only U17.heap.size hi U19 w20 := Only.of_grown hg (fun r hr => by have := HO.ownF.block r hr; have := HO.lim r hr; omega); have Z20 := Lib.hid hq.size; have Y22 := Lib.hid (And.intro Y21.out Z20.out); clear Y21 Z20; clear HO; replace HS := HS.only hq (by have := Y22.out; omega); replace HX1 := HX1.only hq (by have := Y22.out; omega); replace HX5 := HX5.only hq (by have := Y22.out; omega); replace HX9 := HX9.only hq (by have := Y22.out; omega); clear hq hg; skip; have HO2 := ho.kept rfl; clear ho; have c11_0 := HX5.look 7; have f11_0 := HX5.free 7; have l11_0 := HX1.bx.lt; have l11_1 := HX5.bx.lt; have l11_2 := HX9.bx.lt))
            clear c10_0 l10_0 l10_1 c11_0 f11_0 l11_0 l11_1 l11_2
            obtain ⟨U21, hU21⟩ : ∃ W : World, W = (w20.setCell ⟨w6.heap.size, 7, none⟩ (.slice A' (n + 1) c')) := ⟨_, rfl⟩
            have ho : Only w6.heap.size (w6.heap.size + 1) w20 U21 := by rw [hU21]; exact ((Only.refl _ _ _).set (p := ⟨w6.heap.size, 7, none⟩) (Nat.le_refl _) (Nat.lt_succ_self _) _)
            replace HX5 : Kept w6.heap.size (w6.heap.size + 1) (BoxK w6.heap.size 29 #[.int .i64 va, .int .i64 vo, .int .i64 2, .int .i64 vi, .int .i64 (1 + vd), .int .i64 vs, .slice none 0 0, .slice A' (n + 1) c', .int .i64 vm, .int .i64 0]) U21 := by rw [hU21]; exact Kept.box (HX5.bx.puts 7 (.slice A' (n + 1) c') (cs' := #[.int .i64 va, .int .i64 vo, .int .i64 2, .int .i64 vi, .int .i64 (1 + vd), .int .i64 vs, .slice none 0 0, .slice A' (n + 1) c', .int .i64 vm, .int .i64 0]) rfl)
            replace HS := HS.only ho (by have := Y22.out; omega)
            replace HX1 := HX1.only ho (by have := Y22.out; omega)
            replace HX9 := HX9.only ho (by have := Y22.out; omega)
            replace HO2 := HO2.only ho (by have := Y22.out; omega)
            have Z21 : Hid (U21.heap.size = w20.heap.size) := Lib.hid (by rw [hU21]; simp [World.setCell]); clear ho
            have Y23 := Lib.hid (And.intro Y22.out Z21.out); clear Y22 Z21
            subst hU21
            go_roundw
            case rel => exact ⟨p + 1, A', n + 1, c', _, _, _, by go_num, Lib.hid (ups_snoc HI.out.1 HI.out.2.1 (by omega) rfl), by omega, by omega, by omega, by omega, Lib.hid (by have := Y23.out; omega), HS, HX1, HX5, HO2⟩
            case measure => simp [intOf]; omega
      · have c9_0 := HX1.look 0
        have c9_1 := HX1.look 1
        have c9_2 := HX1.look 2
        have c9_3 := HX1.look 3
        have c9_4 := HX1.look 4
        have c9_5 := HX1.look 5
        have c9_6 := HX1.look 6
        have c9_7 := HX1.look 7
        have c9_8 := HX1.look 8
        have c9_9 := HX1.look 9
        have c9_10 := HX5.look 0
        have c9_11 := HX5.look 1
        have c9_12 := HX5.look 2
        have c9_13 := HX5.look 3
        have c9_14 := HX5.look 4
        have c9_15 := HX5.look 5
        have c9_16 := HX5.look 6
        have c9_17 := HX5.look 7
        have c9_18 := HX5.look 8
        have c9_19 := HX5.look 9
        have f9_0 := HX1.free 0
        have f9_1 := HX1.free 1
        have f9_2 := HX1.free 2
        have f9_3 := HX1.free 3
        have f9_4 := HX1.free 4
        have f9_5 := HX1.free 5
        have f9_6 := HX1.free 6
        have f9_7 := HX1.free 7
        have f9_8 := HX1.free 8
        have f9_9 := HX1.free 9
        have l9_0 := HX1.bx.lt
        have l9_1 := HX5.bx.lt
        have n9_0_1 : ¬ w.heap.size = w6.heap.size := (by have := Y19.out; omega)
        have m9_0_1 : ¬ w6.heap.size = w.heap.size := (by have := Y19.out; omega)
        go_wp2
        clear c9_0 c9_1 c9_2 c9_3 c9_4 c9_5 c9_6 c9_7 c9_8 c9_9 c9_10 c9_11 c9_12 c9_13 c9_14 c9_15 c9_16 c9_17 c9_18 c9_19 f9_0 f9_1 f9_2 f9_3 f9_4 f9_5 f9_6 f9_7 f9_8 f9_9 l9_0 l9_1 n9_0_1 m9_0_1
        obtain ⟨U18, hU18⟩ : ∃ W : World, W = ((((((((((wr.setCell ⟨w.heap.size, 0, none⟩ (.int .i64 va)).setCell ⟨w.heap.size, 1, none⟩ (.int .i64 vo)).setCell ⟨w.heap.size, 2, none⟩ (.int .i64 2)).setCell ⟨w.heap.size, 3, none⟩ (.int .i64 vi)).setCell ⟨w.heap.size, 4, none⟩ (.int .i64 (1 + vd))).setCell ⟨w.heap.size, 5, none⟩ (.int .i64 vs)).setCell ⟨w.heap.size, 6, none⟩ (.slice none 0 0)).setCell ⟨w.heap.size, 7, none⟩ (.slice A n c)).setCell ⟨w.heap.size, 8, none⟩ (.int .i64 vm)).setCell ⟨w.heap.size, 9, none⟩ (.int .i64 0)) := ⟨_, rfl⟩
        have ho : Only w.heap.size (w.heap.size + 1) wr U18 := by rw [hU18]; exact (((((((((((Only.refl _ _ _).set (p := ⟨w.heap.size, 0, none⟩) (Nat.le_refl _) (Nat.lt_succ_self _) _).set (p := ⟨w.heap.size, 1, none⟩) (Nat.le_refl _) (Nat.lt_succ_self _) _).set (p := ⟨w.heap.size, 2, none⟩) (Nat.le_refl _) (Nat.lt_succ_self _) _).set (p := ⟨w.heap.size, 3, none⟩) (Nat.le_refl _) (Nat.lt_succ_self _) _).set (p := ⟨w.heap.size, 4, none⟩) (Nat.le_refl _) (Nat.lt_succ_self _) _).set (p := ⟨w.heap.size, 5, none⟩) (Nat.le_refl _) (Nat.lt_succ_self _) _).set (p := ⟨w.heap.size, 6, none⟩) (Nat.le_refl _) (Nat.lt_succ_self _) _).set (p := ⟨w.heap.size, 7, none⟩) (Nat.le_refl _) (Nat.lt_succ_self _) _).set (p := ⟨w.heap.size, 8, none⟩) (Nat.le_refl _) (Nat.lt_succ_self _) _).set (p := ⟨w.heap.size, 9, none⟩) (Nat.le_refl _) (Nat.lt_succ_self _) _)
        replace HX1 : Kept w.heap.size (w.heap.size + 1) (BoxK w.heap.size 29 #[.int .i64 va, .int .i64 vo, .int .i64 2, .int .i64 vi, .int .i64 (1 + vd), .int .i64 vs, .slice none 0 0, .slice A n c, .int .i64 vm, .int .i64 0]) U18 := by rw [hU18]; exact Kept.box ((((((((((HX1.bx.puts 0 (.int .i64 va) (cs' := #[.int .i64 va, .int .i64 0, .int .i64 0, .int .i64 0, .int .i64 0, .int .i64 0, .slice none 0 0, .slice none 0 0, .int .i64 0, .int .i64 0]) rfl).puts 1 (.int .i64 vo) (cs' := #[.int .i64 va, .int .i64 vo, .int .i64 0, .int .i64 0, .int .i64 0, .int .i64 0, .slice none 0 0, .slice none 0 0, .int .i64 0, .int .i64 0]) rfl).puts 2 (.int .i64 2) (cs' := #[.int .i64 va, .int .i64 vo, .int .i64 2, .int .i64 0, .int .i64 0, .int .i64 0, .slice none 0 0, .slice none 0 0, .int .i64 0, .int .i64 0]) rfl).puts 3 (.int .i64 vi) (cs' := #[.int .i64 va, .int .i64 vo, .int .i64 2, .int .i64 vi, .int .i64 0, .int .i64 0, .slice none 0 0, .slice none 0 0, .int .i64 0, .int .i64 0]) rfl).puts 4 (.int .i64 (1 + vd)) (cs' := #[.int .i64 va, .int .i64 vo, .int .i64 2, .int .i64 vi, .int .i64 (1 + vd), .int .i64 0, .slice none 0 0, .slice none 0 0, .int .i64 0, .int .i64 0]) rfl).puts 5 (.int .i64 vs) (cs' := #[.int .i64 va, .int .i64 vo, .int .i64 2, .int .i64 vi, .int .i64 (1 + vd), .int .i64 vs, .slice none 0 0, .slice none 0 0, .int .i64 0, .int .i64 0]) rfl).puts 6 (.slice none 0 0) (cs' := #[.int .i64 va, .int .i64 vo, .int .i64 2, .int .i64 vi, .int .i64 (1 + vd), .int .i64 vs, .slice none 0 0, .slice none 0 0, .int .i64 0, .int .i64 0]) rfl).puts 7 (.slice A n c) (cs' := #[.int .i64 va, .int .i64 vo, .int .i64 2, .int .i64 vi, .int .i64 (1 + vd), .int .i64 vs, .slice none 0 0, .slice A n c, .int .i64 0, .int .i64 0]) rfl).puts 8 (.int .i64 vm) (cs' := #[.int .i64 va, .int .i64 vo, .int .i64 2, .int .i64 vi, .int .i64 (1 + vd), .int .i64 vs, .slice none 0 0, .slice A n c, .int .i64 vm, .int .i64 0]) rfl).puts 9 (.int .i64 0) (cs' := #[.int .i64 va, .int .i64 vo, .int .i64 2, .int .i64 vi, .int .i64 (1 + vd), .int .i64 vs, .slice none 0 0, .slice A n c, .int .i64 vm, .int .i64 0]) rfl)
        replace HS := HS.only ho (by have := Y19.out; omega)
        replace HX5 := HX5.only ho (by have := Y19.out; omega)
        replace HO := HO.only ho (by have := Y19.out; omega)
        have Z18 : Hid (U18.heap.size = wr.heap.size) := Lib.hid (by rw [hU18]; simp [World.setCell]); clear ho
        have Y20 := Lib.hid (And.intro Y19.out Z18.out); clear Y19 Z18
        have q_0 := HX1.look 0
        have q_1 := HX1.look 1
        have q_2 := HX1.look 2
        have q_3 := HX1.look 3
        have q_4 := HX1.look 4
        have q_5 := HX1.look 5
        have q_6 := HX1.look 6
        have q_7 := HX1.look 7
        have q_8 := HX1.look 8
        have q_9 := HX1.look 9
        have fin : ∀ e, e = Ending.returned (.agg (lsaCells ⟨va, vo, 2, vi, 1 + vd, vs, [], ys, vm, 0⟩ none A 0 0 n c)) → (DrawSOut w g A0 n0 c0 cs (K + 40) e U18) := by rintro _ rfl; exact ⟨_, _, _, _, _, _, _, rfl, sound_2 va vo vi (1 + vd) vs vm ys HVva.out HVvo.out HVvi.out (by omega) HVvs.out HVvm.out (by have := HO.ownF.1; omega) HI.out.1 (fun r hr => by have := HI.out.2.1 r hr; omega) (by have := HI.out.2.2; have := HO.ownF.1; omega), ⟨(OwnFK.nil_ 101 4 lcell _ (Nat.le_refl _)), (OwnFK.widen HO (by have := Y20.out; omega) (by have := Y20.out; omega) (Nat.le_refl _)), .inr ⟨rfl, rfl, rfl, rfl⟩⟩, by omega, by omega, HS.more (by omega)⟩
        subst hU18
        exact bodyPost_ret (v := .agg (lsaCells ⟨va, vo, 2, vi, 1 + vd, vs, [], ys, vm, 0⟩ none A 0 0 n c)) (by simp [results, Try.results58, go_sem, lsaCells, q_0, q_1, q_2, q_3, q_4, q_5, q_6, q_7, q_8, q_9]) rfl (fin _ rfl)
  · have c5_0 := HX5.look 2
    have f5_0 := HX5.free 2
    have l5_0 := HX1.bx.lt
    have l5_1 := HX5.bx.lt
    go_wp2_with fail
    clear c5_0 f5_0 l5_0 l5_1
    refine Calls.name ?_
    intro U9 hU9
    have ho : Only w6.heap.size (w6.heap.size + 1) w8 U9 := by rw [hU9]; exact ((Only.refl _ _ _).set (p := ⟨w6.heap.size, 2, none⟩) (Nat.le_refl _) (Nat.lt_succ_self _) _)
    replace HX5 : Kept w6.heap.size (w6.heap.size + 1) (BoxK w6.heap.size 29 #[.int .i64 va, .int .i64 vo, .int .i64 3, .int .i64 0, .int .i64 0, .int .i64 vs, .slice none 0 0, .slice none 0 0, .int .i64 0, .int .i64 0]) U9 := by rw [hU9]; exact Kept.box (HX5.bx.puts 2 (.int .i64 3) (cs' := #[.int .i64 va, .int .i64 vo, .int .i64 3, .int .i64 0, .int .i64 0, .int .i64 vs, .slice none 0 0, .slice none 0 0, .int .i64 0, .int .i64 0]) rfl)
    replace HS := HS.only ho (by have := Y8.out; omega)
    replace HX1 := HX1.only ho (by have := Y8.out; omega)
    have Z9 : Hid (U9.heap.size = w8.heap.size) := Lib.hid (by rw [hU9]; simp [World.setCell]); clear ho
    have Y9 := Lib.hid (And.intro Y8.out Z9.out); clear Y8 Z9
    clear hU9
    refine (dNext 4 HS.here (by omega) (by omega) (by omega)).mono ?_
    rintro e w10 ⟨vd, rfl, hvd0, hvd1, hs⟩
    have ho := hs.fr
    have Z10 := Lib.hid ho.size
    have Y10 := Lib.hid (And.intro Y9.out Z10.out); clear Y9 Z10
    replace HX1 := HX1.only ho (by have := Y10.out; omega)
    replace HX5 := HX5.only ho (by have := Y10.out; omega)
    replace HS := HS.next hs; clear ho hs
    have c6_0 := HX5.look 4
    have f6_0 := HX5.free 4
    have l6_0 := HX1.bx.lt
    have l6_1 := HX5.bx.lt
    go_wp2_with fail
    clear c6_0 f6_0 l6_0 l6_1
    obtain ⟨U11, hU11⟩ : ∃ W : World, W = (w10.setCell ⟨w6.heap.size, 4, none⟩ (.int .i64 (1 + vd))) := ⟨_, rfl⟩
    have ho : Only w6.heap.size (w6.heap.size + 1) w10 U11 := by rw [hU11]; exact ((Only.refl _ _ _).set (p := ⟨w6.heap.size, 4, none⟩) (Nat.le_refl _) (Nat.lt_succ_self _) _)
    replace HX5 : Kept w6.heap.size (w6.heap.size + 1) (BoxK w6.heap.size 29 #[.int .i64 va, .int .i64 vo, .int .i64 3, .int .i64 0, .int .i64 (1 + vd), .int .i64 vs, .slice none 0 0, .slice none 0 0, .int .i64 0, .int .i64 0]) U11 := by rw [hU11]; exact Kept.box (HX5.bx.puts 4 (.int .i64 (1 + vd)) (cs' := #[.int .i64 va, .int .i64 vo, .int .i64 3, .int .i64 0, .int .i64 (1 + vd), .int .i64 vs, .slice none 0 0, .slice none 0 0, .int .i64 0, .int .i64 0]) rfl)
    replace HS := HS.only ho (by have := Y10.out; omega)
    replace HX1 := HX1.only ho (by have := Y10.out; omega)
    have Z11 : Hid (U11.heap.size = w10.heap.size) := Lib.hid (by rw [hU11]; simp [World.setCell]); clear ho
    have Y11 := Lib.hid (And.intro Y10.out Z11.out); clear Y10 Z11
    refine Calls.name ?_
    intro U12 hU12
    have kU12 : U12 = (U11.alloc (.cells #[.int .i64 11, .int .i64 12, .int .i64 4294967295] 2)) := by rw [hU11]; exact hU12
    have hb : Below U11.heap.size U11 U12 := by rw [kU12]; exact ((Below.refl _ _).alloc (Nat.le_refl _) _)
    have zz : Hid (U11.heap.size + 1 = U12.heap.size) := Lib.hid (by rw [kU12]; simp)
    have HX7 : Kept w10.heap.size (w10.heap.size + 1) (BoxK w10.heap.size 2 #[.int .i64 11, .int .i64 12, .int .i64 4294967295]) U12 := by rw [kU12]; exact Kept.box (Box.made_at _ _ _ (by rw [hU11]; simp [World.setCell]))
    replace HS := HS.below hb
    replace HX1 := HX1.below hb
    replace HX5 := HX5.below hb
    clear hb
    have Z12 := zz; clear zz
    have Y12 := Lib.hid (And.intro Y11.out Z12.out); clear Y11 Z12
    clear kU12 hU12 hU11
    refine (dPick w10.heap.size 3 [11, 12, 4294967295] HS.here (by omega) HX7.bx rfl rfl (by omega) (by omega) (by have := Y12.out; omega)).mono ?_
    rintro e w13 ⟨vi, rfl, hv, hs⟩
    have ho := hs.fr
    have Z13 := Lib.hid ho.size
    have Y13 := Lib.hid (And.intro Y12.out Z13.out); clear Y12 Z13
    clear HX7
    replace HX1 := HX1.only ho (by have := Y13.out; omega)
    replace HX5 := HX5.only ho (by have := Y13.out; omega)
    replace HS := HS.next hs; clear ho hs
    have HVvi : Hid (11 ≤ vi ∧ vi ≤ 4294967295) := Lib.hid (by simp only [List.mem_cons, List.not_mem_nil, or_false] at hv; omega)
    clear hv
    have c7_0 := HX5.look 2
    have c7_1 := HX5.look 3
    have f7_0 := HX5.free 3
    have l7_0 := HX1.bx.lt
    have l7_1 := HX5.bx.lt
    go_wp2_with fail
    clear c7_0 c7_1 f7_0 l7_0 l7_1
    obtain ⟨U14, hU14⟩ : ∃ W : World, W = (w13.setCell ⟨w6.heap.size, 3, none⟩ (.int .i64 vi)) := ⟨_, rfl⟩
    have ho : Only w6.heap.size (w6.heap.size + 1) w13 U14 := by rw [hU14]; exact ((Only.refl _ _ _).set (p := ⟨w6.heap.size, 3, none⟩) (Nat.le_refl _) (Nat.lt_succ_self _) _)
    replace HX5 : Kept w6.heap.size (w6.heap.size + 1) (BoxK w6.heap.size 29 #[.int .i64 va, .int .i64 vo, .int .i64 3, .int .i64 vi, .int .i64 (1 + vd), .int .i64 vs, .slice none 0 0, .slice none 0 0, .int .i64 0, .int .i64 0]) U14 := by rw [hU14]; exact Kept.box (HX5.bx.puts 3 (.int .i64 vi) (cs' := #[.int .i64 va, .int .i64 vo, .int .i64 3, .int .i64 vi, .int .i64 (1 + vd), .int .i64 vs, .slice none 0 0, .slice none 0 0, .int .i64 0, .int .i64 0]) rfl)
    replace HS := HS.only ho (by have := Y13.out; omega)
    replace HX1 := HX1.only ho (by have := Y13.out; omega)
    have Z14 : Hid (U14.heap.size = w13.heap.size) := Lib.hid (by rw [hU14]; simp [World.setCell]); clear ho
    have Y14 := Lib.hid (And.intro Y13.out Z14.out); clear Y13 Z14
    refine Calls.name ?_
    intro U15 hU15
    have kU15 : U15 = (U14.alloc (.cells #[.int .i64 0, .int .i64 255, .int .i64 4294967295] 2)) := by rw [hU14]; exact hU15
    have hb : Below U14.heap.size U14 U15 := by rw [kU15]; exact ((Below.refl _ _).alloc (Nat.le_refl _) _)
    have zz : Hid (U14.heap.size + 1 = U15.heap.size) := Lib.hid (by rw [kU15]; simp)
    have HX8 : Kept w13.heap.size (w13.heap.size + 1) (BoxK w13.heap.size 2 #[.int .i64 0, .int .i64 255, .int .i64 4294967295]) U15 := by rw [kU15]; exact Kept.box (Box.made_at _ _ _ (by rw [hU14]; simp [World.setCell]))
    replace HS := HS.below hb
    replace HX1 := HX1.below hb
    replace HX5 := HX5.below hb
    clear hb
    have Z15 := zz; clear zz
    have Y15 := Lib.hid (And.intro Y14.out Z15.out); clear Y14 Z15
    clear kU15 hU15 hU14
    refine (dPick w13.heap.size 3 [0, 255, 4294967295] HS.here (by omega) HX8.bx rfl rfl (by omega) (by omega) (by have := Y15.out; omega)).mono ?_
    rintro e w16 ⟨vm, rfl, hv, hs⟩
    have ho := hs.fr
    have Z16 := Lib.hid ho.size
    have Y16 := Lib.hid (And.intro Y15.out Z16.out); clear Y15 Z16
    clear HX8
    replace HX1 := HX1.only ho (by have := Y16.out; omega)
    replace HX5 := HX5.only ho (by have := Y16.out; omega)
    replace HS := HS.next hs; clear ho hs
    have HVvm : Hid (0 ≤ vm ∧ vm ≤ 4294967295) := Lib.hid (by simp only [List.mem_cons, List.not_mem_nil, or_false] at hv; omega)
    clear hv
    have c8_0 := HX5.look 8
    have f8_0 := HX5.free 8
    have l8_0 := HX1.bx.lt
    have l8_1 := HX5.bx.lt
    go_wp2_with fail
    clear c8_0 f8_0 l8_0 l8_1
    obtain ⟨U17, hU17⟩ : ∃ W : World, W = (w16.setCell ⟨w6.heap.size, 8, none⟩ (.int .i64 vm)) := ⟨_, rfl⟩
    have ho : Only w6.heap.size (w6.heap.size + 1) w16 U17 := by rw [hU17]; exact ((Only.refl _ _ _).set (p := ⟨w6.heap.size, 8, none⟩) (Nat.le_refl _) (Nat.lt_succ_self _) _)
    replace HX5 : Kept w6.heap.size (w6.heap.size + 1) (BoxK w6.heap.size 29 #[.int .i64 va, .int .i64 vo, .int .i64 3, .int .i64 vi, .int .i64 (1 + vd), .int .i64 vs, .slice none 0 0, .slice none 0 0, .int .i64 vm, .int .i64 0]) U17 := by rw [hU17]; exact Kept.box (HX5.bx.puts 8 (.int .i64 vm) (cs' := #[.int .i64 va, .int .i64 vo, .int .i64 3, .int .i64 vi, .int .i64 (1 + vd), .int .i64 vs, .slice none 0 0, .slice none 0 0, .int .i64 vm, .int .i64 0]) rfl)
    replace HS := HS.only ho (by have := Y16.out; omega)
    replace HX1 := HX1.only ho (by have := Y16.out; omega)
    have Z17 : Hid (U17.heap.size = w16.heap.size) := Lib.hid (by rw [hU17]; simp [World.setCell]); clear ho
    have Y17 := Lib.hid (And.intro Y16.out Z17.out); clear Y16 Z17
    refine Calls.name ?_
    intro U18 hU18
    have kU18 : U18 = (U17.alloc (.cells #[.int .i64 0, .int .i64 7, .int .i64 16777215] 2)) := by rw [hU17]; exact hU18
    have hb : Below U17.heap.size U17 U18 := by rw [kU18]; exact ((Below.refl _ _).alloc (Nat.le_refl _) _)
    have zz : Hid (U17.heap.size + 1 = U18.heap.size) := Lib.hid (by rw [kU18]; simp)
    have HX9 : Kept w16.heap.size (w16.heap.size + 1) (BoxK w16.heap.size 2 #[.int .i64 0, .int .i64 7, .int .i64 16777215]) U18 := by rw [kU18]; exact Kept.box (Box.made_at _ _ _ (by rw [hU17]; simp [World.setCell]))
    replace HS := HS.below hb
    replace HX1 := HX1.below hb
    replace HX5 := HX5.below hb
    clear hb
    have Z18 := zz; clear zz
    have Y18 := Lib.hid (And.intro Y17.out Z18.out); clear Y17 Z18
    clear kU18 hU18 hU17
    refine (dPick w16.heap.size 3 [0, 7, 16777215] HS.here (by omega) HX9.bx rfl rfl (by omega) (by omega) (by have := Y18.out; omega)).mono ?_
    rintro e w19 ⟨vc, rfl, hv, hs⟩
    have ho := hs.fr
    have Z19 := Lib.hid ho.size
    have Y19 := Lib.hid (And.intro Y18.out Z19.out); clear Y18 Z19
    clear HX9
    replace HX1 := HX1.only ho (by have := Y19.out; omega)
    replace HX5 := HX5.only ho (by have := Y19.out; omega)
    replace HS := HS.next hs; clear ho hs
    have HVvc : Hid (0 ≤ vc ∧ vc ≤ 16777215) := Lib.hid (by simp only [List.mem_cons, List.not_mem_nil, or_false] at hv; omega)
    clear hv
    have c9_0 := HX1.look 0
    have c9_1 := HX1.look 1
    have c9_2 := HX1.look 2
    have c9_3 := HX1.look 3
    have c9_4 := HX1.look 4
    have c9_5 := HX1.look 5
    have c9_6 := HX1.look 6
    have c9_7 := HX1.look 7
    have c9_8 := HX1.look 8
    have c9_9 := HX1.look 9
    have c9_10 := HX5.look 0
    have c9_11 := HX5.look 1
    have c9_12 := HX5.look 2
    have c9_13 := HX5.look 3
    have c9_14 := HX5.look 4
    have c9_15 := HX5.look 5
    have c9_16 := HX5.look 6
    have c9_17 := HX5.look 7
    have c9_18 := HX5.look 8
    have c9_19 := HX5.look 9
    have f9_0 := HX1.free 0
    have f9_1 := HX1.free 1
    have f9_2 := HX1.free 2
    have f9_3 := HX1.free 3
    have f9_4 := HX1.free 4
    have f9_5 := HX1.free 5
    have f9_6 := HX1.free 6
    have f9_7 := HX1.free 7
    have f9_8 := HX1.free 8
    have f9_9 := HX1.free 9
    have f9_10 := HX5.free 9
    have l9_0 := HX1.bx.lt
    have l9_1 := HX5.bx.lt
    have n9_0_1 : ¬ w.heap.size = w6.heap.size := (by have := Y19.out; omega)
    have m9_0_1 : ¬ w6.heap.size = w.heap.size := (by have := Y19.out; omega)
    go_wp2
    clear c9_0 c9_1 c9_2 c9_3 c9_4 c9_5 c9_6 c9_7 c9_8 c9_9 c9_10 c9_11 c9_12 c9_13 c9_14 c9_15 c9_16 c9_17 c9_18 c9_19 f9_0 f9_1 f9_2 f9_3 f9_4 f9_5 f9_6 f9_7 f9_8 f9_9 f9_10 l9_0 l9_1 n9_0_1 m9_0_1
    obtain ⟨U20, hU20⟩ : ∃ W : World, W = (w19.setCell ⟨w6.heap.size, 9, none⟩ (.int .i64 vc)) := ⟨_, rfl⟩
    have ho : Only w6.heap.size (w6.heap.size + 1) w19 U20 := by rw [hU20]; exact ((Only.refl _ _ _).set (p := ⟨w6.heap.size, 9, none⟩) (Nat.le_refl _) (Nat.lt_succ_self _) _)
    replace HX5 : Kept w6.heap.size (w6.heap.size + 1) (BoxK w6.heap.size 29 #[.int .i64 va, .int .i64 vo, .int .i64 3, .int .i64 vi, .int .i64 (1 + vd), .int .i64 vs, .slice none 0 0, .slice none 0 0, .int .i64 vm, .int .i64 vc]) U20 := by rw [hU20]; exact Kept.box (HX5.bx.puts 9 (.int .i64 vc) (cs' := #[.int .i64 va, .int .i64 vo, .int .i64 3, .int .i64 vi, .int .i64 (1 + vd), .int .i64 vs, .slice none 0 0, .slice none 0 0, .int .i64 vm, .int .i64 vc]) rfl)
    replace HS := HS.only ho (by have := Y19.out; omega)
    replace HX1 := HX1.only ho (by have := Y19.out; omega)
    have Z20 : Hid (U20.heap.size = w19.heap.size) := Lib.hid (by rw [hU20]; simp [World.setCell]); clear ho
    have Y20 := Lib.hid (And.intro Y19.out Z20.out); clear Y19 Z20
    obtain ⟨U21, hU21⟩ : ∃ W : World, W = ((((((((((U20.setCell ⟨w.heap.size, 0, none⟩ (.int .i64 va)).setCell ⟨w.heap.size, 1, none⟩ (.int .i64 vo)).setCell ⟨w.heap.size, 2, none⟩ (.int .i64 3)).setCell ⟨w.heap.size, 3, none⟩ (.int .i64 vi)).setCell ⟨w.heap.size, 4, none⟩ (.int .i64 (1 + vd))).setCell ⟨w.heap.size, 5, none⟩ (.int .i64 vs)).setCell ⟨w.heap.size, 6, none⟩ (.slice none 0 0)).setCell ⟨w.heap.size, 7, none⟩ (.slice none 0 0)).setCell ⟨w.heap.size, 8, none⟩ (.int .i64 vm)).setCell ⟨w.heap.size, 9, none⟩ (.int .i64 vc)) := ⟨_, rfl⟩
    have ho : Only w.heap.size (w.heap.size + 1) U20 U21 := by rw [hU21]; exact (((((((((((Only.refl _ _ _).set (p := ⟨w.heap.size, 0, none⟩) (Nat.le_refl _) (Nat.lt_succ_self _) _).set (p := ⟨w.heap.size, 1, none⟩) (Nat.le_refl _) (Nat.lt_succ_self _) _).set (p := ⟨w.heap.size, 2, none⟩) (Nat.le_refl _) (Nat.lt_succ_self _) _).set (p := ⟨w.heap.size, 3, none⟩) (Nat.le_refl _) (Nat.lt_succ_self _) _).set (p := ⟨w.heap.size, 4, none⟩) (Nat.le_refl _) (Nat.lt_succ_self _) _).set (p := ⟨w.heap.size, 5, none⟩) (Nat.le_refl _) (Nat.lt_succ_self _) _).set (p := ⟨w.heap.size, 6, none⟩) (Nat.le_refl _) (Nat.lt_succ_self _) _).set (p := ⟨w.heap.size, 7, none⟩) (Nat.le_refl _) (Nat.lt_succ_self _) _).set (p := ⟨w.heap.size, 8, none⟩) (Nat.le_refl _) (Nat.lt_succ_self _) _).set (p := ⟨w.heap.size, 9, none⟩) (Nat.le_refl _) (Nat.lt_succ_self _) _)
    replace HX1 : Kept w.heap.size (w.heap.size + 1) (BoxK w.heap.size 29 #[.int .i64 va, .int .i64 vo, .int .i64 3, .int .i64 vi, .int .i64 (1 + vd), .int .i64 vs, .slice none 0 0, .slice none 0 0, .int .i64 vm, .int .i64 vc]) U21 := by rw [hU21]; exact Kept.box ((((((((((HX1.bx.puts 0 (.int .i64 va) (cs' := #[.int .i64 va, .int .i64 0, .int .i64 0, .int .i64 0, .int .i64 0, .int .i64 0, .slice none 0 0, .slice none 0 0, .int .i64 0, .int .i64 0]) rfl).puts 1 (.int .i64 vo) (cs' := #[.int .i64 va, .int .i64 vo, .int .i64 0, .int .i64 0, .int .i64 0, .int .i64 0, .slice none 0 0, .slice none 0 0, .int .i64 0, .int .i64 0]) rfl).puts 2 (.int .i64 3) (cs' := #[.int .i64 va, .int .i64 vo, .int .i64 3, .int .i64 0, .int .i64 0, .int .i64 0, .slice none 0 0, .slice none 0 0, .int .i64 0, .int .i64 0]) rfl).puts 3 (.int .i64 vi) (cs' := #[.int .i64 va, .int .i64 vo, .int .i64 3, .int .i64 vi, .int .i64 0, .int .i64 0, .slice none 0 0, .slice none 0 0, .int .i64 0, .int .i64 0]) rfl).puts 4 (.int .i64 (1 + vd)) (cs' := #[.int .i64 va, .int .i64 vo, .int .i64 3, .int .i64 vi, .int .i64 (1 + vd), .int .i64 0, .slice none 0 0, .slice none 0 0, .int .i64 0, .int .i64 0]) rfl).puts 5 (.int .i64 vs) (cs' := #[.int .i64 va, .int .i64 vo, .int .i64 3, .int .i64 vi, .int .i64 (1 + vd), .int .i64 vs, .slice none 0 0, .slice none 0 0, .int .i64 0, .int .i64 0]) rfl).puts 6 (.slice none 0 0) (cs' := #[.int .i64 va, .int .i64 vo, .int .i64 3, .int .i64 vi, .int .i64 (1 + vd), .int .i64 vs, .slice none 0 0, .slice none 0 0, .int .i64 0, .int .i64 0]) rfl).puts 7 (.slice none 0 0) (cs' := #[.int .i64 va, .int .i64 vo, .int .i64 3, .int .i64 vi, .int .i64 (1 + vd), .int .i64 vs, .slice none 0 0, .slice none 0 0, .int .i64 0, .int .i64 0]) rfl).puts 8 (.int .i64 vm) (cs' := #[.int .i64 va, .int .i64 vo, .int .i64 3, .int .i64 vi, .int .i64 (1 + vd), .int .i64 vs, .slice none 0 0, .slice none 0 0, .int .i64 vm, .int .i64 0]) rfl).puts 9 (.int .i64 vc) (cs' := #[.int .i64 va, .int .i64 vo, .int .i64 3, .int .i64 vi, .int .i64 (1 + vd), .int .i64 vs, .slice none 0 0, .slice none 0 0, .int .i64 vm, .int .i64 vc]) rfl)
    replace HS := HS.only ho (by have := Y20.out; omega)
    replace HX5 := HX5.only ho (by have := Y20.out; omega)
    have Z21 : Hid (U21.heap.size = U20.heap.size) := Lib.hid (by rw [hU21]; simp [World.setCell]); clear ho
    have Y21 := Lib.hid (And.intro Y20.out Z21.out); clear Y20 Z21
    have q_0 := HX1.look 0
    have q_1 := HX1.look 1
    have q_2 := HX1.look 2
    have q_3 := HX1.look 3
    have q_4 := HX1.look 4
    have q_5 := HX1.look 5
    have q_6 := HX1.look 6
    have q_7 := HX1.look 7
    have q_8 := HX1.look 8
    have q_9 := HX1.look 9
    have fin : ∀ e, e = Ending.returned (.agg (lsaCells ⟨va, vo, 3, vi, 1 + vd, vs, [], [], vm, vc⟩ none none 0 0 0 0)) → (DrawSOut w g A0 n0 c0 cs (K + 40) e U21) := by rintro _ rfl; exact ⟨_, _, _, _, _, _, _, rfl, sound_3 va vo vi (1 + vd) vs vm vc HVva.out HVvo.out HVvi.out (by omega) HVvs.out HVvm.out HVvc.out, ⟨(OwnFK.nil_ 101 4 lcell _ (Nat.le_refl _)), (OwnFK.nil_ 2 1 icell _ (Nat.le_refl _)), .inl ⟨rfl, rfl, rfl, rfl⟩⟩, by omega, by omega, HS.more (by omega)⟩
    subst hU21 hU20
    exact bodyPost_ret (v := .agg (lsaCells ⟨va, vo, 3, vi, 1 + vd, vs, [], [], vm, vc⟩ none none 0 0 0 0)) (by simp [results, Try.results58, go_sem, lsaCells, q_0, q_1, q_2, q_3, q_4, q_5, q_6, q_7, q_8, q_9]) rfl (fin _ rfl)


end Go.Proofs.Ytamclkjofojhmaa

namespace Go.Proofs.Ytamclkjofojhmaa
open Go.RowKit
set_option linter.unusedVariables false

section
variable {w : World} {B b n c : Nat} {zs : List Int}
theorem Own.at_b (h : Own w B (some ⟨b, 0, none⟩) n c zs) : Own w b (some ⟨b, 0, none⟩) n c zs := by
  refine ⟨h.1, ?_⟩
  rcases h.2 with ⟨h', h0⟩ | ⟨g, cap, cur, h1, h2, h3⟩
  · cases h'
  · have e : b = g := by simp only [Value.slice.injEq, Option.some.injEq, Addr.mk.injEq] at h1; exact h1.1.1
    exact .inr ⟨g, cap, cur, h1, Nat.le_of_eq e, h3⟩
end
section
variable {w : World} {B b n c : Nat} {zs : List Int}
theorem Own.drop2 (h : Own w B (some ⟨b, 0, none⟩) n c zs) (hn : 2 ≤ n) : BIn w (some ⟨b, 2, none⟩) (n - 2) (zs.drop 2) := by
  have := BIn.part h.bin (a := 2) (s := n - 2) (by omega)
  rw [List.take_of_length_le (by rw [List.length_drop, h.len]; omega), Nat.zero_add] at this
  exact this
theorem Own.take2 (h : Own w B (some ⟨b, 0, none⟩) n c zs) (hn : 2 ≤ n) : BIn w (some ⟨b, 0, none⟩) 2 (zs.take 2) := BIn.part h.bin (a := 0) (s := 2) (by omega)
end

set_option maxRecDepth 100000 in
set_option maxHeartbeats 6400000 in
theorem drawDecode_any (A0 : Option Addr) (n0 c0 : Nat) (cs : List Int) (w : World) (ha : BIn w A0 n0 cs) (hb : Bytes cs) (hn : n0 ≤ 1048576) :
    Calls Try.prog 15 #[.slice A0 n0 c0] w (SomeBytes w.heap.size w 200) := by
  have HB0 := Lib.hid (Below.refl w.heap.size w)
  have HA0 := Lib.hid ha
  have HBY := Lib.hid hb
  clear ha hb
  go_enter Try.func15, Try.ntmps15
  go_wp2_with fail
  refine (dSource A0 n0 c0 cs _ HA0.out HBY.out hn).mono ?_
  rintro e w1 ⟨rfl, hs, hb⟩
  have HS1 := Lib.hid hs
  have HB1 := Lib.hid (below_step HB0.out hb)
  have hz1 : w.heap.size < w1.heap.size := hs.lt
  clear hs hb HB0
  go_wp2_with fail
  refine (l2DrawS_any w.heap.size A0 n0 c0 cs 0 _ HS1.out (by omega)).mono ?_
  rintro e w2 ⟨l, A, B, n, c, m, d, rfl, hso, hl, hn1, hm1, hs⟩
  have HSO := Lib.hid hso
  have HL2 := Lib.hid hl.lsa
  have HB2 := Lib.hid (HB1.out.trans (hs.fr.below (Nat.le_refl _) (by omega)))
  have HS2 := Lib.hid hs.here
  have hz2 := hs.fr.size
  have hll := bodyN_len hso
  clear hso hl hs HS1 HB1
  go_wp2_with fail
  obtain ⟨w3, hw3⟩ : ∃ W : World, W = w2.alloc (.cells (lsaCells l A B n c m d) 29) := ⟨_, rfl⟩
  have hb3 : Below w2.heap.size w2 w3 := by rw [hw3]; exact (Below.refl _ _).alloc (Nat.le_refl _) _
  have HX3 : Hid (Box w3 w2.heap.size 29 (lsaCells l A B n c m d)) := by rw [hw3]; exact Lib.hid (Box.made _ _ _)
  have HL3 := Lib.hid (HL2.out.below hb3)
  have HS3 := Lib.hid (HS2.out.below hb3).here
  have HB3 := Lib.hid (below_step HB2.out hb3)
  have hz3 := hb3.size
  rw [← hw3]
  clear hw3 hb3 HL2 HS2 HB2
  refine (l2Encode_any l true _ _ A B n c m d w2.heap.size _ HX3.out HL3.out HSO.out).mono ?_
  rintro e w4 ⟨E, k, rfl, ho, hb⟩
  obtain ⟨N, hN⟩ : ∃ N, 20 + (bodyN l).length = N := ⟨_, rfl⟩
  rw [hN] at ho ⊢
  obtain ⟨zs, hzs⟩ : ∃ zs, encN l = zs := ⟨_, rfl⟩
  have HZ : Hid (Bytes zs) := Lib.hid (by rw [← hzs]; exact encN_bytes l)
  rw [hzs] at ho
  have hN1 : 24 ≤ N := by omega
  have hN2 : N ≤ 120 := by omega
  have hz4 := hb.size
  have HB4 := Lib.hid (below_step HB3.out hb)
  have HS4 := Lib.hid (HS3.out.below hb).here
  obtain ⟨b, rfl, hb1, hb2⟩ := ho.form (by omega)
  have HO4 := Lib.hid ho
  have hgb : w.heap.size < b := by omega
  clear ho hb hzs hN hll HX3 HL3 HSO HB3 HS3
  go_wp2_with fail
  refine (dNext 8 HS4.out (by omega) (by omega) (by omega)).mono ?_
  rintro e w5 ⟨v, rfl, hv0, hv1, hs⟩
  have HO5 := Lib.hid (HO4.out.past hs hgb)
  have HB5 := Lib.hid (past_below HB4.out hs (Nat.le_refl _) (by omega))
  have HS5 := Lib.hid hs.here
  have hz5 := hs.fr.size
  clear hs HO4 HB4 HS4
  have hv : v = 0 ∨ v = 1 ∨ v = 2 ∨ (3 ≤ v ∧ v < 8) := by omega
  rcases hv with rfl | rfl | rfl | ⟨hv2, hv3⟩
  · go_wp2_with fail
    refine (l1Spoil_any w.heap.size w.heap.size A0 n0 c0 cs _ _ b N k zs _ HS5.out (by omega) HO5.out HZ.out (Nat.le_refl _) (by omega) (by omega) (by omega)).mono ?_
    rintro e w6 ⟨A', n', c', zs', rfl, hx, hy, hc, hn', hb⟩
    have HX := Lib.hid hx
    have HY := Lib.hid hy
    have HB6 := Lib.hid (HB5.out.trans hb)
    clear hx hy hb
    go_wp2
    go_ret
    exact ⟨A', n', c', zs', rfl, HX.out, HY.out, hc, by omega, HB6.out⟩
  · go_wp2_with fail
    have hbp : Below w5.heap.size w5 (w5.alloc (.cells #[.int .i64 0, .int .i64 1, .int .i64 2, .int .i64 3, .int .i64 7, .int .i64 20, .int .i64 23, .int .i64 24] 2)) := (Below.refl _ _).alloc (Nat.le_refl _) _
    have HSp := Lib.hid (HS5.out.below hbp).here
    have HOp := Lib.hid (HO5.out.below hbp)
    have HBp := Lib.hid (below_step HB5.out hbp)
    have hzp := hbp.size
    have hgp : ¬ w5.heap.size = w.heap.size := by omega
    clear hbp HS5 HO5 HB5
    refine (dPick w5.heap.size 8 [0, 1, 2, 3, 7, 20, 23, 24] HSp.out (by omega) (Box.made _ _ _) rfl rfl (by omega) (by omega) hgp).mono ?_
    rintro e w6 ⟨vi, rfl, hv, hs⟩
    have HO6 := Lib.hid (HOp.out.past hs hgb)
    have HB6 := Lib.hid (past_below HBp.out hs (Nat.le_refl _) (by omega))
    have HS6 := Lib.hid hs.here
    have hzw6 := hs.fr.size
    have hvvi : 0 ≤ vi ∧ vi ≤ 255 := by simp only [List.mem_cons, List.not_mem_nil, or_false] at hv; omega
    clear hs hv HSp HOp HBp hgp
    obtain ⟨hvi0, hvi1⟩ := hvvi
    obtain ⟨i, rfl⟩ := Int.eq_ofNat_of_zero_le hvi0
    by_cases hlt : i < N
    · have hlt' : (i : Int) < (N : Int) := by omega
      go_wp2_with fail
      have hbp : Below w6.heap.size w6 (w6.alloc (.cells #[.int .i64 0, .int .i64 1, .int .i64 4, .int .i64 14, .int .i64 255] 2)) := (Below.refl _ _).alloc (Nat.le_refl _) _
      have HSp := Lib.hid (HS6.out.below hbp).here
      have HOp := Lib.hid (HO6.out.below hbp)
      have HBp := Lib.hid (below_step HB6.out hbp)
      have hzp := hbp.size
      have hgp : ¬ w6.heap.size = w.heap.size := by omega
      clear hbp HS6 HO6 HB6
      refine (dPick w6.heap.size 5 [0, 1, 4, 14, 255] HSp.out (by omega) (Box.made _ _ _) rfl rfl (by omega) (by omega) hgp).mono ?_
      rintro e w7 ⟨vq, rfl, hv, hs⟩
      have HO7 := Lib.hid (HOp.out.past hs hgb)
      have HB7 := Lib.hid (past_below HBp.out hs (Nat.le_refl _) (by omega))
      have HS7 := Lib.hid hs.here
      have hzw7 := hs.fr.size
      have hvvq : 0 ≤ vq ∧ vq ≤ 255 := by simp only [List.mem_cons, List.not_mem_nil, or_false] at hv; omega
      clear hs hv HSp HOp HBp hgp
      obtain ⟨z, hz⟩ : ∃ z, zs.getD i 0 = z := ⟨_, rfl⟩
      have ce := HO7.out.cell hlt
      rw [hz] at ce
      have fe := HO7.out.frozen i
      have hu : IntKind.u8.wrap vq = vq := by simp [IntKind.wrap, IntKind.bits, IntKind.signed]; omega
      obtain ⟨w8, hw8⟩ : ∃ W : World, W = w7.setCell ⟨b, i, none⟩ (.int .u8 vq) := ⟨_, rfl⟩
      have hst := HO7.out.stored i vq
      have hsz : w8.heap.size = w7.heap.size := by rw [hw8]; simp [World.setCell]
      have HOt := Lib.hid hst.1
      have HBt := Lib.hid (HB7.out.grown hst.2 (by omega) (fun r hr => by injection hr with hr; omega))
      have HZt : Hid (Bytes (zs.set i vq)) := Lib.hid (HZ.out.set i vq (by omega) (by omega))
      rw [← hw8] at HOt HBt
      clear hst
      obtain ⟨ys, hys⟩ : ∃ ys, zs.set i vq = ys := ⟨_, rfl⟩
      rw [hys] at HOt HZt
      clear hys hz
      go_upto_region 11 with (fail)
      rw [← hw8]
      clear hw8 ce fe hu hlt' HO7 HB7
      have hk1 : (2 : Int) ≤ (N : Int) := by omega
      have hk2 : ((N : Nat) : Int) ≤ (k : Int) := by have := HOt.out.cap; omega
      have hk3 : (2 : Int) ≤ (k : Int) := by omega
      have hk4 : ¬ k = 2 := by omega
      have hbW := HOt.out.block b rfl
      have hlenT := HOt.out.len
      go_wp2_with fail
      refine (l1Copy_any (some ⟨b, 2, none⟩) (N - 2) (k - 2) (ys.drop 2) _ (HOt.out.drop2 (by omega)) (by omega) (by omega)).mono ?_
      rintro e wa ⟨Bc, dc, rfl, hoc, hba⟩
      have HOa := Lib.hid (HOt.out.below hba)
      have HBa := Lib.hid (HBt.out.trans (hba.mono (by omega)))
      have HCa := Lib.hid hoc
      have hza := hba.size
      clear hoc hba HBt HOt
      go_wp2_with fail
      refine (l1Seal_any Bc _ (N - 2) dc (ys.drop 2) 14 _ HCa.out (fun z hz => HZt.out z (List.mem_of_mem_drop hz)) (by omega) (by omega)).mono ?_
      rintro e wb ⟨rfl, hos, hgb⟩
      have HOb := Lib.hid (HOa.out.grown hgb (HCa.out.apart (fun r hr => by simp only [Option.map_some, Option.some.injEq] at hr; omega)))
      have HBb := Lib.hid (HBa.out.grown hgb (by omega) (fun r hr => by have := (HCa.out.block r hr).1; omega))
      have HCb := Lib.hid hos
      have hzb := hgb.size
      clear hos hgb HOa HBa HCa
      go_wp2_with fail
      refine (l1Copy_any (some ⟨b, 0, none⟩) 2 k (ys.take 2) _ (HOb.out.take2 (by omega)) (by omega) (by omega)).mono ?_
      rintro e wd ⟨Bd, dd, rfl, hod, hbd⟩
      have HBd := Lib.hid (HBb.out.trans (hbd.mono (by omega)))
      have HCd := Lib.hid (HCb.out.below hbd)
      have HDd := Lib.hid hod
      have hzd := hbd.size
      clear hod hbd HOb HBb HCb
      go_wp2_with (at_builtin; refine wpList_app rfl (.tmp 43) (.tmp 44) rfl (B := wb.heap.size) rfl HDd.out rfl (by omega) HCd.out.bin (by omega) (by omega) ?_; intro A' c' wx ho hg; have HOx := Lib.hid ho; have HBx := Lib.hid (HBd.out.grown hg (by omega) (fun r hr => (by have := (HDd.out.block r hr).1; omega))); clear ho hg)
      go_ret
      exact ⟨A', 2 + (N - 2), c', ys.take 2 ++ sealN (ys.drop 2) 14, rfl, HOx.out.bin, fun z hz => by
        rcases List.mem_append.1 hz with h | h
        · exact HZt.out z (List.mem_of_mem_take h)
        · exact sealN_bytes (fun z hz => HZt.out z (List.mem_of_mem_drop hz)) _ z h, HOx.out.cap, by omega, HBx.out⟩
    · have hlt' : ¬ (i : Int) < (N : Int) := by omega
      have HOt := HO6
      have HBt := HB6
      have HZt := HZ
      have hk1 : (2 : Int) ≤ (N : Int) := by omega
      have hk2 : ((N : Nat) : Int) ≤ (k : Int) := by have := HOt.out.cap; omega
      have hk3 : (2 : Int) ≤ (k : Int) := by omega
      have hk4 : ¬ k = 2 := by omega
      have hbW := HOt.out.block b rfl
      have hlenT := HOt.out.len
      go_wp2_with fail
      refine (l1Copy_any (some ⟨b, 2, none⟩) (N - 2) (k - 2) (zs.drop 2) _ (HOt.out.drop2 (by omega)) (by omega) (by omega)).mono ?_
      rintro e wa ⟨Bc, dc, rfl, hoc, hba⟩
      have HOa := Lib.hid (HOt.out.below hba)
      have HBa := Lib.hid (HBt.out.trans (hba.mono (by omega)))
      have HCa := Lib.hid hoc
      have hza := hba.size
      clear hoc hba HBt HOt
      go_wp2_with fail
      refine (l1Seal_any Bc _ (N - 2) dc (zs.drop 2) 14 _ HCa.out (fun z hz => HZt.out z (List.mem_of_mem_drop hz)) (by omega) (by omega)).mono ?_
      rintro e wb ⟨rfl, hos, hgb⟩
      have HOb := Lib.hid (HOa.out.grown hgb (HCa.out.apart (fun r hr => by simp only [Option.map_some, Option.some.injEq] at hr; omega)))
      have HBb := Lib.hid (HBa.out.grown hgb (by omega) (fun r hr => by have := (HCa.out.block r hr).1; omega))
      have HCb := Lib.hid hos
      have hzb := hgb.size
      clear hos hgb HOa HBa HCa
      go_wp2_with fail
      refine (l1Copy_any (some ⟨b, 0, none⟩) 2 k (zs.take 2) _ (HOb.out.take2 (by omega)) (by omega) (by omega)).mono ?_
      rintro e wd ⟨Bd, dd, rfl, hod, hbd⟩
      have HBd := Lib.hid (HBb.out.trans (hbd.mono (by omega)))
      have HCd := Lib.hid (HCb.out.below hbd)
      have HDd := Lib.hid hod
      have hzd := hbd.size
      clear hod hbd HOb HBb HCb
      go_wp2_with (at_builtin; refine wpList_app rfl (.tmp 43) (.tmp 44) rfl (B := wb.heap.size) rfl HDd.out rfl (by omega) HCd.out.bin (by omega) (by omega) ?_; intro A' c' wx ho hg; have HOx := Lib.hid ho; have HBx := Lib.hid (HBd.out.grown hg (by omega) (fun r hr => (by have := (HDd.out.block r hr).1; omega))); clear ho hg)
      go_ret
      exact ⟨A', 2 + (N - 2), c', zs.take 2 ++ sealN (zs.drop 2) 14, rfl, HOx.out.bin, fun z hz => by
        rcases List.mem_append.1 hz with h | h
        · exact HZt.out z (List.mem_of_mem_take h)
        · exact sealN_bytes (fun z hz => HZt.out z (List.mem_of_mem_drop hz)) _ z h, HOx.out.cap, by omega, HBx.out⟩
  · have hL : Hid (BIn (w5.alloc (.cells #[.int .u8 0, .int .u8 0, .int .u8 0, .int .u8 0] 5)) (some ⟨w5.heap.size, 0, none⟩) 4 [0, 0, 0, 0]) := Lib.hid (Own.lit w5 _ [0, 0, 0, 0] rfl (by simp [maxLen]) (Nat.le_refl _)).bin
    have HU : Hid (Below w5.heap.size w5 (w5.alloc (.cells #[.int .u8 0, .int .u8 0, .int .u8 0, .int .u8 0] 5))) := Lib.hid ((Below.refl _ _).alloc (Nat.le_refl _) _)
    have hbW := HO5.out.block b rfl
    go_wp2_with (at_builtin; refine wpList_app rfl (.tmp 48) (.tmp 49) rfl (B := b) rfl ((HO5.out.at_b).below HU.out) rfl (by omega) hL.out (by omega) (by have := HU.out.size; omega) ?_; intro A' c' w6 ho hg; have HO6 := Lib.hid ho; have HB6 := Lib.hid ((HB5.out.trans (HU.out.mono (by omega))).grown hg (by have := HU.out.size; omega) (fun r hr => (by simp only [Option.map_some, Option.some.injEq] at hr; omega))); have hz6 := Nat.le_trans HU.out.size hg.size; obtain ⟨b', rfl, hb'1, hb'2⟩ := ho.form (by omega); have hN19 : (19 : Int) < ((N + 4 : Nat) : Int) := (by omega); have ce := HO6.out.cell (j := 19) (by omega); have fe := HO6.out.frozen 19; obtain ⟨z, hz⟩ : ∃ z, (zs ++ [0, 0, 0, 0]).getD 19 0 = z := ⟨_, rfl⟩; rw [hz] at ce; have hcap6 := HO6.out.cap; have hgb' := hb'1; clear ho hg hz)
    obtain ⟨w8, hw8⟩ : ∃ W : World, W = w6.setCell ⟨b', 19, none⟩ (.int .u8 ((N : Int) + 4)) := ⟨_, rfl⟩
    have hst := HO6.out.stored 19 ((N : Int) + 4)
    have hsz : w8.heap.size = w6.heap.size := by rw [hw8]; simp [World.setCell]
    have HOt := Lib.hid hst.1
    have HBt := Lib.hid (HB6.out.grown hst.2 (by omega) (fun r hr => by injection hr with hr; omega))
    have HZt : Hid (Bytes ((zs ++ [0, 0, 0, 0]).set 19 ((N : Int) + 4))) := Lib.hid (Bytes.set (fun z hz => by
      rcases List.mem_append.1 hz with h | h
      · exact HZ.out z h
      · simp only [List.mem_cons, List.not_mem_nil, or_false, or_self] at h; omega) 19 _ (by omega) (by omega))
    rw [← hw8] at HOt HBt ⊢
    clear hst hw8 ce fe HO6 HB6
    obtain ⟨ys, hys⟩ : ∃ ys, (zs ++ [0, 0, 0, 0]).set 19 ((N : Int) + 4) = ys := ⟨_, rfl⟩
    rw [hys] at HOt HZt
    clear hys
    have hk1 : (2 : Int) ≤ ((N + 4) : Int) := by omega
    have hk2 : (((N + 4) : Nat) : Int) ≤ (c' : Int) := by have := HOt.out.cap; omega
    have hk3 : (2 : Int) ≤ (c' : Int) := by omega
    have hk4 : ¬ c' = 2 := by omega
    have hbW := HOt.out.block b' rfl
    have hlenT := HOt.out.len
    skip
    refine (l1Copy_any (some ⟨b', 2, none⟩) (N + 2) (c' - 2) (ys.drop 2) _ (HOt.out.drop2 (by omega)) (by omega) (by omega)).mono ?_
    rintro e wa ⟨Bc, dc, rfl, hoc, hba⟩
    have HOa := Lib.hid (HOt.out.below hba)
    have HBa := Lib.hid (HBt.out.trans (hba.mono (by omega)))
    have HCa := Lib.hid hoc
    have hza := hba.size
    clear hoc hba HBt HOt
    go_wp2_with fail
    refine (l1Seal_any Bc _ (N + 2) dc (ys.drop 2) 14 _ HCa.out (fun z hz => HZt.out z (List.mem_of_mem_drop hz)) (by omega) (by omega)).mono ?_
    rintro e wb ⟨rfl, hos, hgb⟩
    have HOb := Lib.hid (HOa.out.grown hgb (HCa.out.apart (fun r hr => by simp only [Option.map_some, Option.some.injEq] at hr; omega)))
    have HBb := Lib.hid (HBa.out.grown hgb (by omega) (fun r hr => by have := (HCa.out.block r hr).1; omega))
    have HCb := Lib.hid hos
    have hzb := hgb.size
    clear hos hgb HOa HBa HCa
    go_wp2_with fail
    refine (l1Copy_any (some ⟨b', 0, none⟩) 2 c' (ys.take 2) _ (HOb.out.take2 (by omega)) (by omega) (by omega)).mono ?_
    rintro e wd ⟨Bd, dd, rfl, hod, hbd⟩
    have HBd := Lib.hid (HBb.out.trans (hbd.mono (by omega)))
    have HCd := Lib.hid (HCb.out.below hbd)
    have HDd := Lib.hid hod
    have hzd := hbd.size
    clear hod hbd HOb HBb HCb
    go_wp2_with (at_builtin; refine wpList_app rfl (.tmp 62) (.tmp 63) rfl (B := wb.heap.size) rfl HDd.out rfl (by omega) HCd.out.bin (by omega) (by omega) ?_; intro A' c' wx ho hg; have HOx := Lib.hid ho; have HBx := Lib.hid (HBd.out.grown hg (by omega) (fun r hr => (by have := (HDd.out.block r hr).1; omega))); clear ho hg)
    go_ret
    exact ⟨A', 2 + (N + 2), c', ys.take 2 ++ sealN (ys.drop 2) 14, rfl, HOx.out.bin, fun z hz => by
      rcases List.mem_append.1 hz with h | h
      · exact HZt.out z (List.mem_of_mem_take h)
      · exact sealN_bytes (fun z hz => HZt.out z (List.mem_of_mem_drop hz)) _ z h, HOx.out.cap, by omega, HBx.out⟩
  · have e0 : (v == 0) = false := by rw [beq_eq_false_iff_ne]; omega
    have e1 : (v == 1) = false := by rw [beq_eq_false_iff_ne]; omega
    have e2 : (v == 2) = false := by rw [beq_eq_false_iff_ne]; omega
    go_wp2
    go_ret
    exact ⟨_, N, k, zs, rfl, HO5.out.bin, HZ.out, HO5.out.cap, by omega, HB5.out⟩

end Go.Proofs.Ytamclkjofojhmaa

namespace Go.Proofs.Ytamclkjofojhmaa
open Go.RowKit
set_option linter.unusedVariables false

theorem l1Min_le (a b : Int) (w : World) (h : a < b) :
    Calls Try.prog 129 #[.int .i64 a, .int .i64 b] w fun e w' => e = .returned (.int .i64 a) ∧ w' = w := by
  go_enter Try.func129, Try.ntmps129
  go_wp2
  go_ret
  exact ⟨rfl, rfl⟩
theorem l1Min_ge (a b : Int) (w : World) (h : ¬ a < b) :
    Calls Try.prog 129 #[.int .i64 a, .int .i64 b] w fun e w' => e = .returned (.int .i64 b) ∧ w' = w := by
  go_enter Try.func129, Try.ntmps129
  go_wp2
  go_ret
  exact ⟨rfl, rfl⟩
theorem l1Min_any (a b : Int) (w : World) : Calls Try.prog 129 #[.int .i64 a, .int .i64 b] w fun e w' => e = .returned (.int .i64 (min a b)) ∧ w' = w := by
  by_cases h : a < b
  · rw [Int.min_eq_left (by omega)]; exact l1Min_le a b w h
  · rw [Int.min_eq_right (by omega)]; exact l1Min_ge a b w h

theorem l1Min_c (a b c : Int) (w : World) (h : min a b = c) : Calls Try.prog 129 #[.int .i64 a, .int .i64 b] w fun e w' => e = .returned (.int .i64 c) ∧ w' = w := by rw [← h]; exact l1Min_any a b w

set_option maxRecDepth 100000 in
set_option maxHeartbeats 3200000 in
theorem withAge_any (l : LsaM) (q : Bool) (lo hi : Nat) (A B : Option Addr) (n c m d : Nat) (t : Int) (w : World) (hl : LsaAt q lo hi w A n B m l) (hn : n ≤ 1048576) (hm : m ≤ 1048576) :
    Calls Try.prog 93 #[.agg (lsaCells l A B n c m d), .int .i64 t] w fun e w' => ∃ A' B' c' d', e = .returned (.agg (lsaCells { l with age := t } A' B' n c' m d')) ∧ LsaTwo w.heap.size w'.heap.size w' A' n B' m { l with age := t } ∧ Below w.heap.size w w' := by
  have HB := Lib.hid (Below.refl w.heap.size w)
  have HL := hl.kept
  have Z0 := Lib.hid hl.le
  clear hl
  go_enter Try.func93, Try.ntmps93
  go_wp2_with fail
  refine Calls.name ?_
  intro U1 hU1
  have hb : Below w.heap.size w U1 := by rw [hU1]; exact (((Below.refl _ _).alloc (Nat.le_refl _) _).alloc (by simp <;> omega) _)
  have zz : Hid (w.heap.size + 2 = U1.heap.size) := Lib.hid (by rw [hU1]; simp)
  have HX1 : Kept w.heap.size (w.heap.size + 1) (BoxK w.heap.size 29 #[.int .i64 t, .int .i64 l.options, .int .i64 l.typ, .int .i64 l.id, .int .i64 l.adv, .int .i64 l.seq, .slice A n c, .slice B m d, .int .i64 l.mask, .int .i64 l.cost]) U1 := by rw [hU1]; exact Kept.box ((Box.made_at _ _ _ rfl).over _)
  have HX2 : Kept (w.heap.size + 1) (w.heap.size + 1 + 1) (BoxK (w.heap.size + 1) 29 #[.int .i64 0, .int .i64 0, .int .i64 0, .int .i64 0, .int .i64 0, .int .i64 0, .slice none 0 0, .slice none 0 0, .int .i64 0, .int .i64 0]) U1 := by rw [hU1]; exact Kept.box (Box.made_at _ _ _ (by simp <;> omega))
  replace HL := HL.below hb
  replace HB := Lib.hid (below_step HB.out hb)
  clear hb
  have Z1 := zz; clear zz
  clear hU1
  refine (cloneLinks_any q lo hi A n c l.links _ HL.lsa.in_.links HL.le hn).mono ?_
  rintro e w2 ⟨A', c', rfl, hs, hb⟩
  have Z2 := Lib.hid hb.size
  replace HL := HL.below hb
  replace HX1 := HX1.below hb
  replace HX2 := HX2.below hb
  replace HB := Lib.hid (below_step HB.out hb)
  clear hb
  have HS1 := Rep.Sl.kept hs (Nat.le_refl _)
  clear hs
  have c2_0 := HX1.look 6
  have c2_1 := HX1.look 7
  have f2_0 := HX1.free 6
  have l2_0 := HX1.le
  have l2_1 := HX2.le
  go_wp2_with fail
  clear c2_0 c2_1 f2_0 l2_0 l2_1
  refine Calls.name ?_
  intro U3 hU3
  have ho : Only w.heap.size (w.heap.size + 1) w2 U3 := by rw [hU3]; exact ((Only.refl _ _ _).set (p := ⟨w.heap.size, 6, none⟩) (Nat.le_refl _) (Nat.lt_succ_self _) _)
  replace HX1 : Kept w.heap.size (w.heap.size + 1) (BoxK w.heap.size 29 #[.int .i64 t, .int .i64 l.options, .int .i64 l.typ, .int .i64 l.id, .int .i64 l.adv, .int .i64 l.seq, .slice A' n c', .slice B m d, .int .i64 l.mask, .int .i64 l.cost]) U3 := by rw [hU3]; exact Kept.box (HX1.bx.puts 6 (.slice A' n c') (cs' := #[.int .i64 t, .int .i64 l.options, .int .i64 l.typ, .int .i64 l.id, .int .i64 l.adv, .int .i64 l.seq, .slice A' n c', .slice B m d, .int .i64 l.mask, .int .i64 l.cost]) rfl)
  replace HL := HL.only ho (by have := Z0.out; have := Z1.out; have := Z2.out; omega)
  replace HX2 := HX2.only ho (by have := Z0.out; have := Z1.out; have := Z2.out; omega)
  replace HS1 := HS1.only ho (by have := Z0.out; have := Z1.out; have := Z2.out; omega)
  replace HB := Lib.hid (Below.only HB.out ho (by have := Z0.out; have := Z1.out; have := Z2.out; omega) HB.out.size)
  have Z3 := Lib.hid ho.size; clear ho
  clear hU3
  refine (cloneInts_any q lo hi B m d l.routers _ HL.lsa.in_.routers HL.le hm).mono ?_
  rintro e w4 ⟨B', d', rfl, hs, hb⟩
  have Z4 := Lib.hid hb.size
  replace HL := HL.below hb
  replace HX1 := HX1.below hb
  replace HX2 := HX2.below hb
  replace HS1 := HS1.below hb
  replace HB := Lib.hid (below_step HB.out hb)
  clear hb
  have HS2 := Rep.Sl.kept hs (Nat.le_refl _)
  clear hs
  have c3_0 := HX1.look 0
  have c3_1 := HX1.look 1
  have c3_2 := HX1.look 2
  have c3_3 := HX1.look 3
  have c3_4 := HX1.look 4
  have c3_5 := HX1.look 5
  have c3_6 := HX1.look 6
  have c3_7 := HX1.look 7
  have c3_8 := HX1.look 8
  have c3_9 := HX1.look 9
  have c3_10 := HX2.look 0
  have c3_11 := HX2.look 1
  have c3_12 := HX2.look 2
  have c3_13 := HX2.look 3
  have c3_14 := HX2.look 4
  have c3_15 := HX2.look 5
  have c3_16 := HX2.look 6
  have c3_17 := HX2.look 7
  have c3_18 := HX2.look 8
  have c3_19 := HX2.look 9
  have f3_0 := HX1.free 7
  have f3_1 := HX2.free 0
  have f3_2 := HX2.free 1
  have f3_3 := HX2.free 2
  have f3_4 := HX2.free 3
  have f3_5 := HX2.free 4
  have f3_6 := HX2.free 5
  have f3_7 := HX2.free 6
  have f3_8 := HX2.free 7
  have f3_9 := HX2.free 8
  have f3_10 := HX2.free 9
  have l3_0 := HX1.le
  have l3_1 := HX2.le
  have n3_0_1 : ¬ w.heap.size = (w.heap.size + 1) := (by have := Z0.out; have := Z1.out; have := Z2.out; have := Z3.out; have := Z4.out; omega)
  have m3_0_1 : ¬ (w.heap.size + 1) = w.heap.size := (by have := Z0.out; have := Z1.out; have := Z2.out; have := Z3.out; have := Z4.out; omega)
  go_wp2
  clear c3_0 c3_1 c3_2 c3_3 c3_4 c3_5 c3_6 c3_7 c3_8 c3_9 c3_10 c3_11 c3_12 c3_13 c3_14 c3_15 c3_16 c3_17 c3_18 c3_19 f3_0 f3_1 f3_2 f3_3 f3_4 f3_5 f3_6 f3_7 f3_8 f3_9 f3_10 l3_0 l3_1 n3_0_1 m3_0_1
  obtain ⟨U5, hU5⟩ : ∃ W : World, W = (w4.setCell ⟨w.heap.size, 7, none⟩ (.slice B' m d')) := ⟨_, rfl⟩
  have ho : Only w.heap.size (w.heap.size + 1) w4 U5 := by rw [hU5]; exact ((Only.refl _ _ _).set (p := ⟨w.heap.size, 7, none⟩) (Nat.le_refl _) (Nat.lt_succ_self _) _)
  replace HX1 : Kept w.heap.size (w.heap.size + 1) (BoxK w.heap.size 29 #[.int .i64 t, .int .i64 l.options, .int .i64 l.typ, .int .i64 l.id, .int .i64 l.adv, .int .i64 l.seq, .slice A' n c', .slice B' m d', .int .i64 l.mask, .int .i64 l.cost]) U5 := by rw [hU5]; exact Kept.box (HX1.bx.puts 7 (.slice B' m d') (cs' := #[.int .i64 t, .int .i64 l.options, .int .i64 l.typ, .int .i64 l.id, .int .i64 l.adv, .int .i64 l.seq, .slice A' n c', .slice B' m d', .int .i64 l.mask, .int .i64 l.cost]) rfl)
  replace HL := HL.only ho (by have := Z0.out; have := Z1.out; have := Z2.out; have := Z3.out; have := Z4.out; omega)
  replace HX2 := HX2.only ho (by have := Z0.out; have := Z1.out; have := Z2.out; have := Z3.out; have := Z4.out; omega)
  replace HS1 := HS1.only ho (by have := Z0.out; have := Z1.out; have := Z2.out; have := Z3.out; have := Z4.out; omega)
  replace HS2 := HS2.only ho (by have := Z0.out; have := Z1.out; have := Z2.out; have := Z3.out; have := Z4.out; omega)
  replace HB := Lib.hid (Below.only HB.out ho (by have := Z0.out; have := Z1.out; have := Z2.out; have := Z3.out; have := Z4.out; omega) HB.out.size)
  have Z5 := Lib.hid ho.size; clear ho
  obtain ⟨U6, hU6⟩ : ∃ W : World, W = ((((((((((U5.setCell ⟨w.heap.size + 1, 0, none⟩ (.int .i64 t)).setCell ⟨w.heap.size + 1, 1, none⟩ (.int .i64 l.options)).setCell ⟨w.heap.size + 1, 2, none⟩ (.int .i64 l.typ)).setCell ⟨w.heap.size + 1, 3, none⟩ (.int .i64 l.id)).setCell ⟨w.heap.size + 1, 4, none⟩ (.int .i64 l.adv)).setCell ⟨w.heap.size + 1, 5, none⟩ (.int .i64 l.seq)).setCell ⟨w.heap.size + 1, 6, none⟩ (.slice A' n c')).setCell ⟨w.heap.size + 1, 7, none⟩ (.slice B' m d')).setCell ⟨w.heap.size + 1, 8, none⟩ (.int .i64 l.mask)).setCell ⟨w.heap.size + 1, 9, none⟩ (.int .i64 l.cost)) := ⟨_, rfl⟩
  have ho : Only (w.heap.size + 1) (w.heap.size + 1 + 1) U5 U6 := by rw [hU6]; exact (((((((((((Only.refl _ _ _).set (p := ⟨w.heap.size + 1, 0, none⟩) (Nat.le_refl _) (Nat.lt_succ_self _) _).set (p := ⟨w.heap.size + 1, 1, none⟩) (Nat.le_refl _) (Nat.lt_succ_self _) _).set (p := ⟨w.heap.size + 1, 2, none⟩) (Nat.le_refl _) (Nat.lt_succ_self _) _).set (p := ⟨w.heap.size + 1, 3, none⟩) (Nat.le_refl _) (Nat.lt_succ_self _) _).set (p := ⟨w.heap.size + 1, 4, none⟩) (Nat.le_refl _) (Nat.lt_succ_self _) _).set (p := ⟨w.heap.size + 1, 5, none⟩) (Nat.le_refl _) (Nat.lt_succ_self _) _).set (p := ⟨w.heap.size + 1, 6, none⟩) (Nat.le_refl _) (Nat.lt_succ_self _) _).set (p := ⟨w.heap.size + 1, 7, none⟩) (Nat.le_refl _) (Nat.lt_succ_self _) _).set (p := ⟨w.heap.size + 1, 8, none⟩) (Nat.le_refl _) (Nat.lt_succ_self _) _).set (p := ⟨w.heap.size + 1, 9, none⟩) (Nat.le_refl _) (Nat.lt_succ_self _) _)
  replace HX2 : Kept (w.heap.size + 1) (w.heap.size + 1 + 1) (BoxK (w.heap.size + 1) 29 #[.int .i64 t, .int .i64 l.options, .int .i64 l.typ, .int .i64 l.id, .int .i64 l.adv, .int .i64 l.seq, .slice A' n c', .slice B' m d', .int .i64 l.mask, .int .i64 l.cost]) U6 := by rw [hU6]; exact Kept.box ((((((((((HX2.bx.puts 0 (.int .i64 t) (cs' := #[.int .i64 t, .int .i64 0, .int .i64 0, .int .i64 0, .int .i64 0, .int .i64 0, .slice none 0 0, .slice none 0 0, .int .i64 0, .int .i64 0]) rfl).puts 1 (.int .i64 l.options) (cs' := #[.int .i64 t, .int .i64 l.options, .int .i64 0, .int .i64 0, .int .i64 0, .int .i64 0, .slice none 0 0, .slice none 0 0, .int .i64 0, .int .i64 0]) rfl).puts 2 (.int .i64 l.typ) (cs' := #[.int .i64 t, .int .i64 l.options, .int .i64 l.typ, .int .i64 0, .int .i64 0, .int .i64 0, .slice none 0 0, .slice none 0 0, .int .i64 0, .int .i64 0]) rfl).puts 3 (.int .i64 l.id) (cs' := #[.int .i64 t, .int .i64 l.options, .int .i64 l.typ, .int .i64 l.id, .int .i64 0, .int .i64 0, .slice none 0 0, .slice none 0 0, .int .i64 0, .int .i64 0]) rfl).puts 4 (.int .i64 l.adv) (cs' := #[.int .i64 t, .int .i64 l.options, .int .i64 l.typ, .int .i64 l.id, .int .i64 l.adv, .int .i64 0, .slice none 0 0, .slice none 0 0, .int .i64 0, .int .i64 0]) rfl).puts 5 (.int .i64 l.seq) (cs' := #[.int .i64 t, .int .i64 l.options, .int .i64 l.typ, .int .i64 l.id, .int .i64 l.adv, .int .i64 l.seq, .slice none 0 0, .slice none 0 0, .int .i64 0, .int .i64 0]) rfl).puts 6 (.slice A' n c') (cs' := #[.int .i64 t, .int .i64 l.options, .int .i64 l.typ, .int .i64 l.id, .int .i64 l.adv, .int .i64 l.seq, .slice A' n c', .slice none 0 0, .int .i64 0, .int .i64 0]) rfl).puts 7 (.slice B' m d') (cs' := #[.int .i64 t, .int .i64 l.options, .int .i64 l.typ, .int .i64 l.id, .int .i64 l.adv, .int .i64 l.seq, .slice A' n c', .slice B' m d', .int .i64 0, .int .i64 0]) rfl).puts 8 (.int .i64 l.mask) (cs' := #[.int .i64 t, .int .i64 l.options, .int .i64 l.typ, .int .i64 l.id, .int .i64 l.adv, .int .i64 l.seq, .slice A' n c', .slice B' m d', .int .i64 l.mask, .int .i64 0]) rfl).puts 9 (.int .i64 l.cost) (cs' := #[.int .i64 t, .int .i64 l.options, .int .i64 l.typ, .int .i64 l.id, .int .i64 l.adv, .int .i64 l.seq, .slice A' n c', .slice B' m d', .int .i64 l.mask, .int .i64 l.cost]) rfl)
  replace HL := HL.only ho (by have := Z0.out; have := Z1.out; have := Z2.out; have := Z3.out; have := Z4.out; have := Z5.out; omega)
  replace HX1 := HX1.only ho (by have := Z0.out; have := Z1.out; have := Z2.out; have := Z3.out; have := Z4.out; have := Z5.out; omega)
  replace HS1 := HS1.only ho (by have := Z0.out; have := Z1.out; have := Z2.out; have := Z3.out; have := Z4.out; have := Z5.out; omega)
  replace HS2 := HS2.only ho (by have := Z0.out; have := Z1.out; have := Z2.out; have := Z3.out; have := Z4.out; have := Z5.out; omega)
  replace HB := Lib.hid (Below.only HB.out ho (by have := Z0.out; have := Z1.out; have := Z2.out; have := Z3.out; have := Z4.out; have := Z5.out; omega) HB.out.size)
  have Z6 := Lib.hid ho.size; clear ho
  have q_0 := HX2.look 0
  have q_1 := HX2.look 1
  have q_2 := HX2.look 2
  have q_3 := HX2.look 3
  have q_4 := HX2.look 4
  have q_5 := HX2.look 5
  have q_6 := HX2.look 6
  have q_7 := HX2.look 7
  have q_8 := HX2.look 8
  have q_9 := HX2.look 9
  have fin : ∀ e, e = Ending.returned (.agg (lsaCells { l with age := t } A' B' n c' m d')) → (∃ A' B' c' d', e = .returned (.agg (lsaCells { l with age := t } A' B' n c' m d')) ∧ LsaTwo w.heap.size U6.heap.size U6 A' n B' m { l with age := t } ∧ Below w.heap.size w U6) := by rintro _ rfl; exact ⟨A', B', c', d', rfl, ⟨⟨U1.heap.size, w2.heap.size, U3.heap.size, w4.heap.size, (by have := Z0.out; have := Z1.out; have := Z2.out; have := Z3.out; have := Z4.out; have := Z5.out; have := Z6.out; omega), (by have := Z0.out; have := Z1.out; have := Z2.out; have := Z3.out; have := Z4.out; have := Z5.out; have := Z6.out; omega), (by have := Z0.out; have := Z1.out; have := Z2.out; have := Z3.out; have := Z4.out; have := Z5.out; have := Z6.out; omega), (by have := Z0.out; have := Z1.out; have := Z2.out; have := Z3.out; have := Z4.out; have := Z5.out; have := Z6.out; omega), (by have := Z0.out; have := Z1.out; have := Z2.out; have := Z3.out; have := Z4.out; have := Z5.out; have := Z6.out; omega), HS1.sl, HS2.sl⟩, Nat.le_refl _⟩, HB.out⟩
  subst hU6 hU5
  exact bodyPost_ret (v := .agg (lsaCells { l with age := t } A' B' n c' m d')) (by simp [results, Try.results93, go_sem, q_0, q_1, q_2, q_3, q_4, q_5, q_6, q_7, q_8, q_9]) rfl (fin _ rfl)

set_option maxRecDepth 100000 in
set_option maxHeartbeats 3200000 in
theorem l2Copy_any (l : LsaM) (q : Bool) (lo hi : Nat) (A B : Option Addr) (n c m d : Nat) (w : World) (hl : LsaAt q lo hi w A n B m l) (hn : n ≤ 1048576) (hm : m ≤ 1048576) :
    Calls Try.prog 73 #[.agg (lsaCells l A B n c m d)] w fun e w' => ∃ A' B' c' d', e = .returned (.agg (lsaCells l A' B' n c' m d')) ∧ LsaTwo w.heap.size w'.heap.size w' A' n B' m l ∧ Below w.heap.size w w' := by
  have HB := Lib.hid (Below.refl w.heap.size w)
  have HL := hl.kept
  have Z0 := Lib.hid hl.le
  clear hl
  go_enter Try.func73, Try.ntmps73
  go_wp2_with (first | (at_builtin; refine wpList_name ?_; intro U1 hU1; have hb : Below w.heap.size w U1 := (by rw [hU1]; exact ((((Below.refl _ _).alloc (Nat.le_refl _) _).alloc (by simp <;> omega) _).alloc (by simp <;> omega) _)); have zz : Hid (w.heap.size + 3 = U1.heap.size) := Lib.hid (by rw [hU1]; simp); have HX1 : Kept w.heap.size (w.heap.size + 1) (BoxK w.heap.size 29 #[.int .i64 l.age, .int .i64 l.options, .int .i64 l.typ, .int .i64 l.id, .int .i64 l.adv, .int .i64 l.seq, .slice A n c, .slice B m d, .int .i64 l.mask, .int .i64 l.cost]) U1 := (by rw [hU1]; exact Kept.box (((Box.made_at _ _ _ rfl).over _).over _)); have HX2 : Kept (w.heap.size + 1) (w.heap.size + 1 + 1) (BoxK (w.heap.size + 1) 29 #[.int .i64 0, .int .i64 0, .int .i64 0, .int .i64 0, .int .i64 0, .int .i64 0, .slice none 0 0, .slice none 0 0, .int .i64 0, .int .i64 0]) U1 := (by rw [hU1]; exact Kept.box ((Box.made_at _ _ _ (by simp <;> omega)).over _)); have HX3 : Kept (w.heap.size + 1 + 1) (w.heap.size + 1 + 1 + 1) (BoxK (w.heap.size + 1 + 1) 101 #[]) U1 := (by rw [hU1]; exact Kept.box (Box.made_at _ _ _ (by simp <;> omega))); replace HL := HL.below hb; replace HB := Lib.hid (below_step HB.out hb); clear hb; have Z1 := zz; clear zz; clear hU1; refine wpList_appF0 lcell_len lcell_one Try.underlying26 linkInfo rfl (by decide) (by decide) rfl (.tmp 3) (.tmp 5) rfl (B := w.heap.size + 1 + 1) rfl (OwnF.of_box0 HX3.bx) rfl (Rep.link_inF HL.lsa.in_.links) (by omega) (by have := Z0.out; have := Z1.out; omega) ?_; intro A' c' w2 ho hg; have hq : Only (w.heap.size + 1 + 1) (w.heap.size + 1 + 1 + 1) U1 w2 := Only.of_grown hg (fun r hr => by simp only [Option.map_some, Option.some.injEq] at hr; omega); have Z2 := Lib.hid hq.size; clear HX3; replace HL := HL.only hq (by have := Z0.out; have := Z1.out; have := Z2.out; omega); replace HX1 := HX1.only hq (by have := Z0.out; have := Z1.out; have := Z2.out; omega); replace HX2 := HX2.only hq (by have := Z0.out; have := Z1.out; have := Z2.out; omega); replace HB := Lib.hid (Below.only HB.out hq (by have := Z0.out; have := Z1.out; have := Z2.out; omega) HB.out.size); clear hq hg; simp only [Nat.zero_add, List.nil_append] at ho; have HO1 := ho.kept rfl; clear ho; have HS1 := HO1.links; clear HO1; have c2_0 := HX1.look 6; have c2_1 := HX1.look 7; have f2_0 := HX1.free 6; have l2_0 := HX1.le; have l2_1 := HX2.le))
  clear c2_0 c2_1 f2_0 l2_0 l2_1
  refine Calls.name ?_
  intro U3 hU3
  have ho : Only w.heap.size (w.heap.size + 1) w2 U3 := by rw [hU3]; exact ((Only.refl _ _ _).set (p := ⟨w.heap.size, 6, none⟩) (Nat.le_refl _) (Nat.lt_succ_self _) _)
  replace HX1 : Kept w.heap.size (w.heap.size + 1) (BoxK w.heap.size 29 #[.int .i64 l.age, .int .i64 l.options, .int .i64 l.typ, .int .i64 l.id, .int .i64 l.adv, .int .i64 l.seq, .slice A' n c', .slice B m d, .int .i64 l.mask, .int .i64 l.cost]) U3 := by rw [hU3]; exact Kept.box (HX1.bx.puts 6 (.slice A' n c') (cs' := #[.int .i64 l.age, .int .i64 l.options, .int .i64 l.typ, .int .i64 l.id, .int .i64 l.adv, .int .i64 l.seq, .slice A' n c', .slice B m d, .int .i64 l.mask, .int .i64 l.cost]) rfl)
  replace HL := HL.only ho (by have := Z0.out; have := Z1.out; have := Z2.out; omega)
  replace HX2 := HX2.only ho (by have := Z0.out; have := Z1.out; have := Z2.out; omega)
  replace HS1 := HS1.only ho (by have := Z0.out; have := Z1.out; have := Z2.out; omega)
  replace HB := Lib.hid (Below.only HB.out ho (by have := Z0.out; have := Z1.out; have := Z2.out; omega) HB.out.size)
  have Z3 := Lib.hid ho.size; clear ho
  clear hU3
  refine (l1Ints_any q lo hi B m d l.routers _ HL.lsa.in_.routers HL.le hm).mono ?_
  rintro e w4 ⟨B', d', rfl, hs, hb⟩
  have Z4 := Lib.hid hb.size
  replace HL := HL.below hb
  replace HX1 := HX1.below hb
  replace HX2 := HX2.below hb
  replace HS1 := HS1.below hb
  replace HB := Lib.hid (below_step HB.out hb)
  clear hb
  have HS2 := Rep.Sl.kept hs (Nat.le_refl _)
  clear hs
  have c3_0 := HX1.look 0
  have c3_1 := HX1.look 1
  have c3_2 := HX1.look 2
  have c3_3 := HX1.look 3
  have c3_4 := HX1.look 4
  have c3_5 := HX1.look 5
  have c3_6 := HX1.look 6
  have c3_7 := HX1.look 7
  have c3_8 := HX1.look 8
  have c3_9 := HX1.look 9
  have c3_10 := HX2.look 0
  have c3_11 := HX2.look 1
  have c3_12 := HX2.look 2
  have c3_13 := HX2.look 3
  have c3_14 := HX2.look 4
  have c3_15 := HX2.look 5
  have c3_16 := HX2.look 6
  have c3_17 := HX2.look 7
  have c3_18 := HX2.look 8
  have c3_19 := HX2.look 9
  have f3_0 := HX1.free 7
  have f3_1 := HX2.free 0
  have f3_2 := HX2.free 1
  have f3_3 := HX2.free 2
  have f3_4 := HX2.free 3
  have f3_5 := HX2.free 4
  have f3_6 := HX2.free 5
  have f3_7 := HX2.free 6
  have f3_8 := HX2.free 7
  have f3_9 := HX2.free 8
  have f3_10 := HX2.free 9
  have l3_0 := HX1.le
  have l3_1 := HX2.le
  have n3_0_1 : ¬ w.heap.size = (w.heap.size + 1) := (by have := Z0.out; have := Z1.out; have := Z2.out; have := Z3.out; have := Z4.out; omega)
  have m3_0_1 : ¬ (w.heap.size + 1) = w.heap.size := (by have := Z0.out; have := Z1.out; have := Z2.out; have := Z3.out; have := Z4.out; omega)
  go_wp2
  clear c3_0 c3_1 c3_2 c3_3 c3_4 c3_5 c3_6 c3_7 c3_8 c3_9 c3_10 c3_11 c3_12 c3_13 c3_14 c3_15 c3_16 c3_17 c3_18 c3_19 f3_0 f3_1 f3_2 f3_3 f3_4 f3_5 f3_6 f3_7 f3_8 f3_9 f3_10 l3_0 l3_1 n3_0_1 m3_0_1
  obtain ⟨U5, hU5⟩ : ∃ W : World, W = (w4.setCell ⟨w.heap.size, 7, none⟩ (.slice B' m d')) := ⟨_, rfl⟩
  have ho : Only w.heap.size (w.heap.size + 1) w4 U5 := by rw [hU5]; exact ((Only.refl _ _ _).set (p := ⟨w.heap.size, 7, none⟩) (Nat.le_refl _) (Nat.lt_succ_self _) _)
  replace HX1 : Kept w.heap.size (w.heap.size + 1) (BoxK w.heap.size 29 #[.int .i64 l.age, .int .i64 l.options, .int .i64 l.typ, .int .i64 l.id, .int .i64 l.adv, .int .i64 l.seq, .slice A' n c', .slice B' m d', .int .i64 l.mask, .int .i64 l.cost]) U5 := by rw [hU5]; exact Kept.box (HX1.bx.puts 7 (.slice B' m d') (cs' := #[.int .i64 l.age, .int .i64 l.options, .int .i64 l.typ, .int .i64 l.id, .int .i64 l.adv, .int .i64 l.seq, .slice A' n c', .slice B' m d', .int .i64 l.mask, .int .i64 l.cost]) rfl)
  replace HL := HL.only ho (by have := Z0.out; have := Z1.out; have := Z2.out; have := Z3.out; have := Z4.out; omega)
  replace HX2 := HX2.only ho (by have := Z0.out; have := Z1.out; have := Z2.out; have := Z3.out; have := Z4.out; omega)
  replace HS1 := HS1.only ho (by have := Z0.out; have := Z1.out; have := Z2.out; have := Z3.out; have := Z4.out; omega)
  replace HS2 := HS2.only ho (by have := Z0.out; have := Z1.out; have := Z2.out; have := Z3.out; have := Z4.out; omega)
  replace HB := Lib.hid (Below.only HB.out ho (by have := Z0.out; have := Z1.out; have := Z2.out; have := Z3.out; have := Z4.out; omega) HB.out.size)
  have Z5 := Lib.hid ho.size; clear ho
  obtain ⟨U6, hU6⟩ : ∃ W : World, W = ((((((((((U5.setCell ⟨w.heap.size + 1, 0, none⟩ (.int .i64 l.age)).setCell ⟨w.heap.size + 1, 1, none⟩ (.int .i64 l.options)).setCell ⟨w.heap.size + 1, 2, none⟩ (.int .i64 l.typ)).setCell ⟨w.heap.size + 1, 3, none⟩ (.int .i64 l.id)).setCell ⟨w.heap.size + 1, 4, none⟩ (.int .i64 l.adv)).setCell ⟨w.heap.size + 1, 5, none⟩ (.int .i64 l.seq)).setCell ⟨w.heap.size + 1, 6, none⟩ (.slice A' n c')).setCell ⟨w.heap.size + 1, 7, none⟩ (.slice B' m d')).setCell ⟨w.heap.size + 1, 8, none⟩ (.int .i64 l.mask)).setCell ⟨w.heap.size + 1, 9, none⟩ (.int .i64 l.cost)) := ⟨_, rfl⟩
  have ho : Only (w.heap.size + 1) (w.heap.size + 1 + 1) U5 U6 := by rw [hU6]; exact (((((((((((Only.refl _ _ _).set (p := ⟨w.heap.size + 1, 0, none⟩) (Nat.le_refl _) (Nat.lt_succ_self _) _).set (p := ⟨w.heap.size + 1, 1, none⟩) (Nat.le_refl _) (Nat.lt_succ_self _) _).set (p := ⟨w.heap.size + 1, 2, none⟩) (Nat.le_refl _) (Nat.lt_succ_self _) _).set (p := ⟨w.heap.size + 1, 3, none⟩) (Nat.le_refl _) (Nat.lt_succ_self _) _).set (p := ⟨w.heap.size + 1, 4, none⟩) (Nat.le_refl _) (Nat.lt_succ_self _) _).set (p := ⟨w.heap.size + 1, 5, none⟩) (Nat.le_refl _) (Nat.lt_succ_self _) _).set (p := ⟨w.heap.size + 1, 6, none⟩) (Nat.le_refl _) (Nat.lt_succ_self _) _).set (p := ⟨w.heap.size + 1, 7, none⟩) (Nat.le_refl _) (Nat.lt_succ_self _) _).set (p := ⟨w.heap.size + 1, 8, none⟩) (Nat.le_refl _) (Nat.lt_succ_self _) _).set (p := ⟨w.heap.size + 1, 9, none⟩) (Nat.le_refl _) (Nat.lt_succ_self _) _)
  replace HX2 : Kept (w.heap.size + 1) (w.heap.size + 1 + 1) (BoxK (w.heap.size + 1) 29 #[.int .i64 l.age, .int .i64 l.options, .int .i64 l.typ, .int .i64 l.id, .int .i64 l.adv, .int .i64 l.seq, .slice A' n c', .slice B' m d', .int .i64 l.mask, .int .i64 l.cost]) U6 := by rw [hU6]; exact Kept.box ((((((((((HX2.bx.puts 0 (.int .i64 l.age) (cs' := #[.int .i64 l.age, .int .i64 0, .int .i64 0, .int .i64 0, .int .i64 0, .int .i64 0, .slice none 0 0, .slice none 0 0, .int .i64 0, .int .i64 0]) rfl).puts 1 (.int .i64 l.options) (cs' := #[.int .i64 l.age, .int .i64 l.options, .int .i64 0, .int .i64 0, .int .i64 0, .int .i64 0, .slice none 0 0, .slice none 0 0, .int .i64 0, .int .i64 0]) rfl).puts 2 (.int .i64 l.typ) (cs' := #[.int .i64 l.age, .int .i64 l.options, .int .i64 l.typ, .int .i64 0, .int .i64 0, .int .i64 0, .slice none 0 0, .slice none 0 0, .int .i64 0, .int .i64 0]) rfl).puts 3 (.int .i64 l.id) (cs' := #[.int .i64 l.age, .int .i64 l.options, .int .i64 l.typ, .int .i64 l.id, .int .i64 0, .int .i64 0, .slice none 0 0, .slice none 0 0, .int .i64 0, .int .i64 0]) rfl).puts 4 (.int .i64 l.adv) (cs' := #[.int .i64 l.age, .int .i64 l.options, .int .i64 l.typ, .int .i64 l.id, .int .i64 l.adv, .int .i64 0, .slice none 0 0, .slice none 0 0, .int .i64 0, .int .i64 0]) rfl).puts 5 (.int .i64 l.seq) (cs' := #[.int .i64 l.age, .int .i64 l.options, .int .i64 l.typ, .int .i64 l.id, .int .i64 l.adv, .int .i64 l.seq, .slice none 0 0, .slice none 0 0, .int .i64 0, .int .i64 0]) rfl).puts 6 (.slice A' n c') (cs' := #[.int .i64 l.age, .int .i64 l.options, .int .i64 l.typ, .int .i64 l.id, .int .i64 l.adv, .int .i64 l.seq, .slice A' n c', .slice none 0 0, .int .i64 0, .int .i64 0]) rfl).puts 7 (.slice B' m d') (cs' := #[.int .i64 l.age, .int .i64 l.options, .int .i64 l.typ, .int .i64 l.id, .int .i64 l.adv, .int .i64 l.seq, .slice A' n c', .slice B' m d', .int .i64 0, .int .i64 0]) rfl).puts 8 (.int .i64 l.mask) (cs' := #[.int .i64 l.age, .int .i64 l.options, .int .i64 l.typ, .int .i64 l.id, .int .i64 l.adv, .int .i64 l.seq, .slice A' n c', .slice B' m d', .int .i64 l.mask, .int .i64 0]) rfl).puts 9 (.int .i64 l.cost) (cs' := #[.int .i64 l.age, .int .i64 l.options, .int .i64 l.typ, .int .i64 l.id, .int .i64 l.adv, .int .i64 l.seq, .slice A' n c', .slice B' m d', .int .i64 l.mask, .int .i64 l.cost]) rfl)
  replace HL := HL.only ho (by have := Z0.out; have := Z1.out; have := Z2.out; have := Z3.out; have := Z4.out; have := Z5.out; omega)
  replace HX1 := HX1.only ho (by have := Z0.out; have := Z1.out; have := Z2.out; have := Z3.out; have := Z4.out; have := Z5.out; omega)
  replace HS1 := HS1.only ho (by have := Z0.out; have := Z1.out; have := Z2.out; have := Z3.out; have := Z4.out; have := Z5.out; omega)
  replace HS2 := HS2.only ho (by have := Z0.out; have := Z1.out; have := Z2.out; have := Z3.out; have := Z4.out; have := Z5.out; omega)
  replace HB := Lib.hid (Below.only HB.out ho (by have := Z0.out; have := Z1.out; have := Z2.out; have := Z3.out; have := Z4.out; have := Z5.out; omega) HB.out.size)
  have Z6 := Lib.hid ho.size; clear ho
  have q_0 := HX2.look 0
  have q_1 := HX2.look 1
  have q_2 := HX2.look 2
  have q_3 := HX2.look 3
  have q_4 := HX2.look 4
  have q_5 := HX2.look 5
  have q_6 := HX2.look 6
  have q_7 := HX2.look 7
  have q_8 := HX2.look 8
  have q_9 := HX2.look 9
  have fin : ∀ e, e = Ending.returned (.agg (lsaCells l A' B' n c' m d')) → (∃ A' B' c' d', e = .returned (.agg (lsaCells l A' B' n c' m d')) ∧ LsaTwo w.heap.size U6.heap.size U6 A' n B' m l ∧ Below w.heap.size w U6) := by rintro _ rfl; exact ⟨A', B', c', d', rfl, ⟨⟨w.heap.size + 1 + 1, w2.heap.size, U3.heap.size, w4.heap.size, (by have := Z0.out; have := Z1.out; have := Z2.out; have := Z3.out; have := Z4.out; have := Z5.out; have := Z6.out; omega), (by have := Z0.out; have := Z1.out; have := Z2.out; have := Z3.out; have := Z4.out; have := Z5.out; have := Z6.out; omega), (by have := Z0.out; have := Z1.out; have := Z2.out; have := Z3.out; have := Z4.out; have := Z5.out; have := Z6.out; omega), (by have := Z0.out; have := Z1.out; have := Z2.out; have := Z3.out; have := Z4.out; have := Z5.out; have := Z6.out; omega), (by have := Z0.out; have := Z1.out; have := Z2.out; have := Z3.out; have := Z4.out; have := Z5.out; have := Z6.out; omega), HS1.sl, HS2.sl⟩, Nat.le_refl _⟩, HB.out⟩
  subst hU6 hU5
  exact bodyPost_ret (v := .agg (lsaCells l A' B' n c' m d')) (by simp [results, Try.results73, go_sem, q_0, q_1, q_2, q_3, q_4, q_5, q_6, q_7, q_8, q_9]) rfl (fin _ rfl)

set_option maxRecDepth 100000 in
set_option maxHeartbeats 3200000 in
theorem l3Age_any (l : LsaM) (q : Bool) (lo hi : Nat) (A B : Option Addr) (n c m d : Nat) (t : Int) (w : World) (hl : LsaAt q lo hi w A n B m l) (hn : n ≤ 1048576) (hm : m ≤ 1048576) (h0 : 0 ≤ l.age) (h1 : l.age ≤ 3600) (h2 : 0 ≤ t) :
    Calls Try.prog 94 #[.agg (lsaCells l A B n c m d), .int .i64 t] w fun e w' => ∃ A' B' c' d', e = .returned (.agg (lsaCells { l with age := min (l.age + min t 3600) 3600 } A' B' n c' m d')) ∧ LsaTwo w.heap.size w'.heap.size w' A' n B' m { l with age := min (l.age + min t 3600) 3600 } ∧ Below w.heap.size w w' := by
  have HB := Lib.hid (Below.refl w.heap.size w)
  have HL := hl.kept
  have Z0 := Lib.hid hl.le
  clear hl
  obtain ⟨z, hz⟩ : ∃ z, min t 3600 = z := ⟨_, rfl⟩
  have hz1 : 0 ≤ z ∧ z ≤ 3600 := by omega
  obtain ⟨hz1, hz2⟩ := hz1
  rw [hz]
  have HZ := Lib.hid hz; clear hz
  go_enter Try.func94, Try.ntmps94
  go_wp2_with fail
  refine Calls.name ?_
  intro U1 hU1
  have hb : Below w.heap.size w U1 := by rw [hU1]; exact (((Below.refl _ _).alloc (Nat.le_refl _) _).alloc (by simp <;> omega) _)
  have zz : Hid (w.heap.size + 2 = U1.heap.size) := Lib.hid (by rw [hU1]; simp)
  have HX1 : Kept w.heap.size (w.heap.size + 1) (BoxK w.heap.size 29 #[.int .i64 l.age, .int .i64 l.options, .int .i64 l.typ, .int .i64 l.id, .int .i64 l.adv, .int .i64 l.seq, .slice A n c, .slice B m d, .int .i64 l.mask, .int .i64 l.cost]) U1 := by rw [hU1]; exact Kept.box ((Box.made_at _ _ _ rfl).over _)
  have HX2 : Kept (w.heap.size + 1) (w.heap.size + 1 + 1) (BoxK (w.heap.size + 1) 29 #[.int .i64 0, .int .i64 0, .int .i64 0, .int .i64 0, .int .i64 0, .int .i64 0, .slice none 0 0, .slice none 0 0, .int .i64 0, .int .i64 0]) U1 := by rw [hU1]; exact Kept.box (Box.made_at _ _ _ (by simp <;> omega))
  replace HL := HL.below hb
  replace HB := Lib.hid (below_step HB.out hb)
  clear hb
  have Z1 := zz; clear zz
  clear hU1
  refine (l2Copy_any l q lo hi A B n c m d _ HL.lsa hn hm).mono ?_
  rintro e w2 ⟨A', B', c', d', rfl, ht, hb⟩
  have Z2 := Lib.hid hb.size
  replace HL := HL.below hb
  replace HX1 := HX1.below hb
  replace HX2 := HX2.below hb
  replace HB := Lib.hid (below_step HB.out hb)
  clear hb
  have HT := ht.kept; clear ht
  have HW1 : IntKind.i64.wrap (l.age + z) = l.age + z := IntWalk.i64_in _ (by omega)
  have l2_0 := HX1.le
  have l2_1 := HX2.le
  go_wp2_with fail
  clear l2_0 l2_1
  refine Code.wp_name ?_
  intro U3 hU3
  have hb : Below w2.heap.size w2 U3 := by rw [hU3]; exact ((Below.refl _ _).alloc (Nat.le_refl _) _)
  have zz : Hid (w2.heap.size + 1 = U3.heap.size) := Lib.hid (by rw [hU3]; simp)
  have HX3 : Kept w2.heap.size (w2.heap.size + 1) (BoxK w2.heap.size 29 #[.int .i64 l.age, .int .i64 l.options, .int .i64 l.typ, .int .i64 l.id, .int .i64 l.adv, .int .i64 l.seq, .slice A' n c', .slice B' m d', .int .i64 l.mask, .int .i64 l.cost]) U3 := by rw [hU3]; exact Kept.box (Box.made_at _ _ _ rfl)
  replace HL := HL.below hb
  replace HX1 := HX1.below hb
  replace HX2 := HX2.below hb
  replace HT := HT.below hb
  replace HB := Lib.hid (below_step HB.out hb)
  clear hb
  have Z3 := zz; clear zz
  clear hU3
  have SB : Hid (∀ W, Hid (Only w2.heap.size (w2.heap.size + 1) U3 W) → (fun W => W.cell? ⟨w.heap.size, 0, none⟩ = some (.int .i64 l.age) ∧ W.cell? ⟨w.heap.size, 1, none⟩ = some (.int .i64 l.options) ∧ W.cell? ⟨w.heap.size, 2, none⟩ = some (.int .i64 l.typ) ∧ W.cell? ⟨w.heap.size, 3, none⟩ = some (.int .i64 l.id) ∧ W.cell? ⟨w.heap.size, 4, none⟩ = some (.int .i64 l.adv) ∧ W.cell? ⟨w.heap.size, 5, none⟩ = some (.int .i64 l.seq) ∧ W.cell? ⟨w.heap.size, 6, none⟩ = some (.slice A n c) ∧ W.cell? ⟨w.heap.size, 7, none⟩ = some (.slice B m d) ∧ W.cell? ⟨w.heap.size, 8, none⟩ = some (.int .i64 l.mask) ∧ W.cell? ⟨w.heap.size, 9, none⟩ = some (.int .i64 l.cost)) W) := fun W h => ⟨(HX1.only h.out (by have := Z0.out; have := Z1.out; have := Z2.out; have := Z3.out; omega)).look 0, (HX1.only h.out (by have := Z0.out; have := Z1.out; have := Z2.out; have := Z3.out; omega)).look 1, (HX1.only h.out (by have := Z0.out; have := Z1.out; have := Z2.out; have := Z3.out; omega)).look 2, (HX1.only h.out (by have := Z0.out; have := Z1.out; have := Z2.out; have := Z3.out; omega)).look 3, (HX1.only h.out (by have := Z0.out; have := Z1.out; have := Z2.out; have := Z3.out; omega)).look 4, (HX1.only h.out (by have := Z0.out; have := Z1.out; have := Z2.out; have := Z3.out; omega)).look 5, (HX1.only h.out (by have := Z0.out; have := Z1.out; have := Z2.out; have := Z3.out; omega)).look 6, (HX1.only h.out (by have := Z0.out; have := Z1.out; have := Z2.out; have := Z3.out; omega)).look 7, (HX1.only h.out (by have := Z0.out; have := Z1.out; have := Z2.out; have := Z3.out; omega)).look 8, (HX1.only h.out (by have := Z0.out; have := Z1.out; have := Z2.out; have := Z3.out; omega)).look 9⟩
  have V0 : Hid (Only w2.heap.size (w2.heap.size + 1) U3 U3.drew) := ⟨rfl, rfl, rfl, Nat.le_refl _, fun _ _ _ => rfl⟩
  have V1 : Hid (∀ u, Hid (Only w2.heap.size (w2.heap.size + 1) U3 (U3.setCell ⟨w2.heap.size, 0, none⟩ u).drew)) := fun u => Only.drew ((Only.refl _ _ _).set (p := ⟨w2.heap.size, 0, none⟩) (Nat.le_refl _) (Nat.lt_succ_self _) u)
  have c3_0 := HX3.look 0
  have f3_0 := HX3.free 0
  have l3_0 := HX1.le
  have l3_1 := HX2.le
  have l3_2 := HX3.le
  go_region_held3 (fun W => W.cell? ⟨w.heap.size, 0, none⟩ = some (.int .i64 l.age) ∧ W.cell? ⟨w.heap.size, 1, none⟩ = some (.int .i64 l.options) ∧ W.cell? ⟨w.heap.size, 2, none⟩ = some (.int .i64 l.typ) ∧ W.cell? ⟨w.heap.size, 3, none⟩ = some (.int .i64 l.id) ∧ W.cell? ⟨w.heap.size, 4, none⟩ = some (.int .i64 l.adv) ∧ W.cell? ⟨w.heap.size, 5, none⟩ = some (.int .i64 l.seq) ∧ W.cell? ⟨w.heap.size, 6, none⟩ = some (.slice A n c) ∧ W.cell? ⟨w.heap.size, 7, none⟩ = some (.slice B m d) ∧ W.cell? ⟨w.heap.size, 8, none⟩ = some (.int .i64 l.mask) ∧ W.cell? ⟨w.heap.size, 9, none⟩ = some (.int .i64 l.cost)) (first | (with_reducible exact SB.out _ (V1.out _)) | (with_reducible exact SB.out _ V0))
    (first | (go_at_call 129; ((with_reducible refine (l1Min_c t 3600 z _ HZ.out).mono ?_); rintro e u ⟨rfl, rfl⟩)) | (go_at_call 129; ((with_reducible refine (l1Min_any (l.age + z) 3600 _).mono ?_); rintro e u ⟨rfl, rfl⟩)))
  clear SB V0 V1 c3_0 f3_0 l3_0 l3_1 l3_2
  have c4_0 := HX2.look 0
  have c4_1 := HX2.look 1
  have c4_2 := HX2.look 2
  have c4_3 := HX2.look 3
  have c4_4 := HX2.look 4
  have c4_5 := HX2.look 5
  have c4_6 := HX2.look 6
  have c4_7 := HX2.look 7
  have c4_8 := HX2.look 8
  have c4_9 := HX2.look 9
  have c4_10 := HX3.look 0
  have c4_11 := HX3.look 1
  have c4_12 := HX3.look 2
  have c4_13 := HX3.look 3
  have c4_14 := HX3.look 4
  have c4_15 := HX3.look 5
  have c4_16 := HX3.look 6
  have c4_17 := HX3.look 7
  have c4_18 := HX3.look 8
  have c4_19 := HX3.look 9
  have f4_0 := HX2.free 0
  have f4_1 := HX2.free 1
  have f4_2 := HX2.free 2
  have f4_3 := HX2.free 3
  have f4_4 := HX2.free 4
  have f4_5 := HX2.free 5
  have f4_6 := HX2.free 6
  have f4_7 := HX2.free 7
  have f4_8 := HX2.free 8
  have f4_9 := HX2.free 9
  have l4_0 := HX1.le
  have l4_1 := HX2.le
  have l4_2 := HX3.le
  have n4_0_1 : ¬ (w.heap.size + 1) = w2.heap.size := (by have := Z0.out; have := Z1.out; have := Z2.out; have := Z3.out; omega)
  have m4_0_1 : ¬ w2.heap.size = (w.heap.size + 1) := (by have := Z0.out; have := Z1.out; have := Z2.out; have := Z3.out; omega)
  go_wp2
  clear c4_0 c4_1 c4_2 c4_3 c4_4 c4_5 c4_6 c4_7 c4_8 c4_9 c4_10 c4_11 c4_12 c4_13 c4_14 c4_15 c4_16 c4_17 c4_18 c4_19 f4_0 f4_1 f4_2 f4_3 f4_4 f4_5 f4_6 f4_7 f4_8 f4_9 l4_0 l4_1 l4_2 n4_0_1 m4_0_1
  obtain ⟨U4, hU4⟩ : ∃ W : World, W = (U3.setCell ⟨w2.heap.size, 0, none⟩ (.int .i64 (min (l.age + z) 3600))) := ⟨_, rfl⟩
  have ho : Only w2.heap.size (w2.heap.size + 1) U3 U4 := by rw [hU4]; exact ((Only.refl _ _ _).set (p := ⟨w2.heap.size, 0, none⟩) (Nat.le_refl _) (Nat.lt_succ_self _) _)
  replace HX3 : Kept w2.heap.size (w2.heap.size + 1) (BoxK w2.heap.size 29 #[.int .i64 (min (l.age + z) 3600), .int .i64 l.options, .int .i64 l.typ, .int .i64 l.id, .int .i64 l.adv, .int .i64 l.seq, .slice A' n c', .slice B' m d', .int .i64 l.mask, .int .i64 l.cost]) U4 := by rw [hU4]; exact Kept.box (HX3.bx.puts 0 (.int .i64 (min (l.age + z) 3600)) (cs' := #[.int .i64 (min (l.age + z) 3600), .int .i64 l.options, .int .i64 l.typ, .int .i64 l.id, .int .i64 l.adv, .int .i64 l.seq, .slice A' n c', .slice B' m d', .int .i64 l.mask, .int .i64 l.cost]) rfl)
  replace HL := HL.only ho (by have := Z0.out; have := Z1.out; have := Z2.out; have := Z3.out; omega)
  replace HX1 := HX1.only ho (by have := Z0.out; have := Z1.out; have := Z2.out; have := Z3.out; omega)
  replace HX2 := HX2.only ho (by have := Z0.out; have := Z1.out; have := Z2.out; have := Z3.out; omega)
  replace HT := HT.only ho (by have := Z0.out; have := Z1.out; have := Z2.out; have := Z3.out; omega)
  replace HB := Lib.hid (Below.only HB.out ho (by have := Z0.out; have := Z1.out; have := Z2.out; have := Z3.out; omega) HB.out.size)
  have Z4 := Lib.hid ho.size; clear ho
  obtain ⟨U5, hU5⟩ : ∃ W : World, W = ((((((((((U4.setCell ⟨w.heap.size + 1, 0, none⟩ (.int .i64 (min (l.age + z) 3600))).setCell ⟨w.heap.size + 1, 1, none⟩ (.int .i64 l.options)).setCell ⟨w.heap.size + 1, 2, none⟩ (.int .i64 l.typ)).setCell ⟨w.heap.size + 1, 3, none⟩ (.int .i64 l.id)).setCell ⟨w.heap.size + 1, 4, none⟩ (.int .i64 l.adv)).setCell ⟨w.heap.size + 1, 5, none⟩ (.int .i64 l.seq)).setCell ⟨w.heap.size + 1, 6, none⟩ (.slice A' n c')).setCell ⟨w.heap.size + 1, 7, none⟩ (.slice B' m d')).setCell ⟨w.heap.size + 1, 8, none⟩ (.int .i64 l.mask)).setCell ⟨w.heap.size + 1, 9, none⟩ (.int .i64 l.cost)) := ⟨_, rfl⟩
  have ho : Only (w.heap.size + 1) (w.heap.size + 1 + 1) U4 U5 := by rw [hU5]; exact (((((((((((Only.refl _ _ _).set (p := ⟨w.heap.size + 1, 0, none⟩) (Nat.le_refl _) (Nat.lt_succ_self _) _).set (p := ⟨w.heap.size + 1, 1, none⟩) (Nat.le_refl _) (Nat.lt_succ_self _) _).set (p := ⟨w.heap.size + 1, 2, none⟩) (Nat.le_refl _) (Nat.lt_succ_self _) _).set (p := ⟨w.heap.size + 1, 3, none⟩) (Nat.le_refl _) (Nat.lt_succ_self _) _).set (p := ⟨w.heap.size + 1, 4, none⟩) (Nat.le_refl _) (Nat.lt_succ_self _) _).set (p := ⟨w.heap.size + 1, 5, none⟩) (Nat.le_refl _) (Nat.lt_succ_self _) _).set (p := ⟨w.heap.size + 1, 6, none⟩) (Nat.le_refl _) (Nat.lt_succ_self _) _).set (p := ⟨w.heap.size + 1, 7, none⟩) (Nat.le_refl _) (Nat.lt_succ_self _) _).set (p := ⟨w.heap.size + 1, 8, none⟩) (Nat.le_refl _) (Nat.lt_succ_self _) _).set (p := ⟨w.heap.size + 1, 9, none⟩) (Nat.le_refl _) (Nat.lt_succ_self _) _)
  replace HX2 : Kept (w.heap.size + 1) (w.heap.size + 1 + 1) (BoxK (w.heap.size + 1) 29 #[.int .i64 (min (l.age + z) 3600), .int .i64 l.options, .int .i64 l.typ, .int .i64 l.id, .int .i64 l.adv, .int .i64 l.seq, .slice A' n c', .slice B' m d', .int .i64 l.mask, .int .i64 l.cost]) U5 := by rw [hU5]; exact Kept.box ((((((((((HX2.bx.puts 0 (.int .i64 (min (l.age + z) 3600)) (cs' := #[.int .i64 (min (l.age + z) 3600), .int .i64 0, .int .i64 0, .int .i64 0, .int .i64 0, .int .i64 0, .slice none 0 0, .slice none 0 0, .int .i64 0, .int .i64 0]) rfl).puts 1 (.int .i64 l.options) (cs' := #[.int .i64 (min (l.age + z) 3600), .int .i64 l.options, .int .i64 0, .int .i64 0, .int .i64 0, .int .i64 0, .slice none 0 0, .slice none 0 0, .int .i64 0, .int .i64 0]) rfl).puts 2 (.int .i64 l.typ) (cs' := #[.int .i64 (min (l.age + z) 3600), .int .i64 l.options, .int .i64 l.typ, .int .i64 0, .int .i64 0, .int .i64 0, .slice none 0 0, .slice none 0 0, .int .i64 0, .int .i64 0]) rfl).puts 3 (.int .i64 l.id) (cs' := #[.int .i64 (min (l.age + z) 3600), .int .i64 l.options, .int .i64 l.typ, .int .i64 l.id, .int .i64 0, .int .i64 0, .slice none 0 0, .slice none 0 0, .int .i64 0, .int .i64 0]) rfl).puts 4 (.int .i64 l.adv) (cs' := #[.int .i64 (min (l.age + z) 3600), .int .i64 l.options, .int .i64 l.typ, .int .i64 l.id, .int .i64 l.adv, .int .i64 0, .slice none 0 0, .slice none 0 0, .int .i64 0, .int .i64 0]) rfl).puts 5 (.int .i64 l.seq) (cs' := #[.int .i64 (min (l.age + z) 3600), .int .i64 l.options, .int .i64 l.typ, .int .i64 l.id, .int .i64 l.adv, .int .i64 l.seq, .slice none 0 0, .slice none 0 0, .int .i64 0, .int .i64 0]) rfl).puts 6 (.slice A' n c') (cs' := #[.int .i64 (min (l.age + z) 3600), .int .i64 l.options, .int .i64 l.typ, .int .i64 l.id, .int .i64 l.adv, .int .i64 l.seq, .slice A' n c', .slice none 0 0, .int .i64 0, .int .i64 0]) rfl).puts 7 (.slice B' m d') (cs' := #[.int .i64 (min (l.age + z) 3600), .int .i64 l.options, .int .i64 l.typ, .int .i64 l.id, .int .i64 l.adv, .int .i64 l.seq, .slice A' n c', .slice B' m d', .int .i64 0, .int .i64 0]) rfl).puts 8 (.int .i64 l.mask) (cs' := #[.int .i64 (min (l.age + z) 3600), .int .i64 l.options, .int .i64 l.typ, .int .i64 l.id, .int .i64 l.adv, .int .i64 l.seq, .slice A' n c', .slice B' m d', .int .i64 l.mask, .int .i64 0]) rfl).puts 9 (.int .i64 l.cost) (cs' := #[.int .i64 (min (l.age + z) 3600), .int .i64 l.options, .int .i64 l.typ, .int .i64 l.id, .int .i64 l.adv, .int .i64 l.seq, .slice A' n c', .slice B' m d', .int .i64 l.mask, .int .i64 l.cost]) rfl)
  replace HL := HL.only ho (by have := Z0.out; have := Z1.out; have := Z2.out; have := Z3.out; have := Z4.out; omega)
  replace HX1 := HX1.only ho (by have := Z0.out; have := Z1.out; have := Z2.out; have := Z3.out; have := Z4.out; omega)
  replace HT := HT.only ho (by have := Z0.out; have := Z1.out; have := Z2.out; have := Z3.out; have := Z4.out; omega)
  replace HX3 := HX3.only ho (by have := Z0.out; have := Z1.out; have := Z2.out; have := Z3.out; have := Z4.out; omega)
  replace HB := Lib.hid (Below.only HB.out ho (by have := Z0.out; have := Z1.out; have := Z2.out; have := Z3.out; have := Z4.out; omega) HB.out.size)
  have Z5 := Lib.hid ho.size; clear ho
  obtain ⟨U6, hU6⟩ : ∃ W : World, W = U5.drew := ⟨_, rfl⟩
  have hb : Below U5.heap.size U5 U6 := by rw [hU6]; exact (Below.refl _ _).drew
  have zz : Hid (U5.heap.size = U6.heap.size) := Lib.hid (by rw [hU6]; simp)
  replace HL := HL.below hb
  replace HX1 := HX1.below hb
  replace HX2 := HX2.below hb
  replace HT := HT.below hb
  replace HX3 := HX3.below hb
  replace HB := Lib.hid (below_step HB.out hb)
  clear hb
  have Z6 := zz; clear zz
  have q_0 := HX2.look 0
  have q_1 := HX2.look 1
  have q_2 := HX2.look 2
  have q_3 := HX2.look 3
  have q_4 := HX2.look 4
  have q_5 := HX2.look 5
  have q_6 := HX2.look 6
  have q_7 := HX2.look 7
  have q_8 := HX2.look 8
  have q_9 := HX2.look 9
  have fin : ∀ e, e = Ending.returned (.agg (lsaCells { l with age := min (l.age + z) 3600 } A' B' n c' m d')) → (∃ A' B' c' d', e = .returned (.agg (lsaCells { l with age := min (l.age + z) 3600 } A' B' n c' m d')) ∧ LsaTwo w.heap.size U6.heap.size U6 A' n B' m { l with age := min (l.age + z) 3600 } ∧ Below w.heap.size w U6) := by rintro _ rfl; exact ⟨A', B', c', d', rfl, LsaTwo.mono (lo' := w.heap.size) (hi' := U6.heap.size) (HT.two.as rfl rfl) (by have := Z0.out; have := Z1.out; have := Z2.out; have := Z3.out; have := Z4.out; have := Z5.out; have := Z6.out; omega) (by have := Z0.out; have := Z1.out; have := Z2.out; have := Z3.out; have := Z4.out; have := Z5.out; have := Z6.out; omega) (Nat.le_refl _), HB.out⟩
  subst hU6 hU5 hU4
  exact bodyPost_ret (v := .agg (lsaCells { l with age := min (l.age + z) 3600 } A' B' n c' m d')) (by simp [results, Try.results94, go_sem, q_0, q_1, q_2, q_3, q_4, q_5, q_6, q_7, q_8, q_9]) rfl (fin _ rfl)


end Go.Proofs.Ytamclkjofojhmaa

namespace Go.Proofs.Ytamclkjofojhmaa
open Go.RowKit
set_option linter.unusedVariables false

theorem BIn.hold {w : World} {A : Option Addr} {n : Nat} {zs : List Int} (h : BIn w A n zs) : Kept 0 w.heap.size (fun w => BIn w A n zs) w :=
  ⟨Nat.le_refl _, fun w' k => ⟨h.1, fun hn => by
    obtain ⟨b, o, e, hc⟩ := h.2 hn
    have hb : b < w.heap.size := World.block_lt_of_cell? w _ (hc 0 hn)
    exact ⟨b, o, e, fun i hi => (World.cell?_of_block (k b (Nat.zero_le _) hb)).trans (hc i hi)⟩⟩⟩

set_option maxRecDepth 100000 in
set_option maxHeartbeats 6400000 in
theorem drawFlush_any (A0 : Option Addr) (n0 c0 : Nat) (cs : List Int) (w : World) (ha : BIn w A0 n0 cs) (hb : Bytes cs) (hn : n0 ≤ 1048576) :
    Calls Try.prog 37 #[.slice A0 n0 c0] w (OneOut w) := by
  have HB := Lib.hid (Below.refl w.heap.size w)
  have HD := ha.hold
  have HBY := Lib.hid hb
  clear ha hb
  go_enter Try.func37, Try.ntmps37
  go_wp2_with fail
  refine Calls.name ?_
  intro U1 hU1
  have hb : Below w.heap.size w U1 := by rw [hU1]; exact ((Below.refl _ _).alloc (Nat.le_refl _) _)
  have zz : Hid (w.heap.size + 1 = U1.heap.size) := Lib.hid (by rw [hU1]; simp)
  have HX1 : Kept w.heap.size (w.heap.size + 1) (BoxK w.heap.size 29 #[.int .i64 0, .int .i64 0, .int .i64 0, .int .i64 0, .int .i64 0, .int .i64 0, .slice none 0 0, .slice none 0 0, .int .i64 0, .int .i64 0]) U1 := by rw [hU1]; exact Kept.box (Box.made_at _ _ _ rfl)
  replace HD := HD.below hb
  replace HB := Lib.hid (below_step HB.out hb)
  clear hb
  have Z1 := zz; clear zz
  clear hU1
  refine (dSource A0 n0 c0 cs _ HD.out HBY.out hn).mono ?_
  rintro e w2 ⟨rfl, hs, hb⟩
  have Z2 := Lib.hid hb.size
  have Y1 := Lib.hid (And.intro Z1.out Z2.out); clear Z1 Z2
  replace HD := HD.below hb
  replace HX1 := HX1.below hb
  replace HB := Lib.hid (below_step HB.out hb)
  clear hb
  have HS := hs; clear hs
  have Z3 := Lib.hid HS.lt
  have Y2 := Lib.hid (And.intro Y1.out Z3.out); clear Y1 Z3
  have l2_0 := HX1.bx.lt
  go_wp2_with fail
  clear l2_0
  refine (l2Bent_any _ A0 n0 c0 cs 0 _ HS.here (by omega)).mono ?_
  rintro e w3 ⟨l, A, B, n, c, m, d, rfl, hl, hn, hm, hs⟩
  have ho := hs.fr
  have Z4 := Lib.hid ho.size
  have Y3 := Lib.hid (And.intro Y2.out Z4.out); clear Y2 Z4
  replace HD := HD.only ho (by have := Y3.out; omega)
  replace HX1 := HX1.only ho (by have := Y3.out; omega)
  replace HB := Lib.hid (Below.only HB.out ho (by have := Y3.out; omega) HB.out.size)
  replace HS := HS.next hs; clear ho hs
  have HA := hl.kept; clear hl
  clear HS
  have c3_0 := HX1.look 0
  have c3_1 := HX1.look 1
  have c3_2 := HX1.look 2
  have c3_3 := HX1.look 3
  have c3_4 := HX1.look 4
  have c3_5 := HX1.look 5
  have c3_6 := HX1.look 6
  have c3_7 := HX1.look 7
  have c3_8 := HX1.look 8
  have c3_9 := HX1.look 9
  have f3_0 := HX1.free 0
  have f3_1 := HX1.free 1
  have f3_2 := HX1.free 2
  have f3_3 := HX1.free 3
  have f3_4 := HX1.free 4
  have f3_5 := HX1.free 5
  have f3_6 := HX1.free 6
  have f3_7 := HX1.free 7
  have f3_8 := HX1.free 8
  have f3_9 := HX1.free 9
  have l3_0 := HX1.bx.lt
  go_wp2
  clear c3_0 c3_1 c3_2 c3_3 c3_4 c3_5 c3_6 c3_7 c3_8 c3_9 f3_0 f3_1 f3_2 f3_3 f3_4 f3_5 f3_6 f3_7 f3_8 f3_9 l3_0
  obtain ⟨U4, hU4⟩ : ∃ W : World, W = ((((((((((w3.setCell ⟨w.heap.size, 0, none⟩ (.int .i64 l.age)).setCell ⟨w.heap.size, 1, none⟩ (.int .i64 l.options)).setCell ⟨w.heap.size, 2, none⟩ (.int .i64 l.typ)).setCell ⟨w.heap.size, 3, none⟩ (.int .i64 l.id)).setCell ⟨w.heap.size, 4, none⟩ (.int .i64 l.adv)).setCell ⟨w.heap.size, 5, none⟩ (.int .i64 l.seq)).setCell ⟨w.heap.size, 6, none⟩ (.slice A n c)).setCell ⟨w.heap.size, 7, none⟩ (.slice B m d)).setCell ⟨w.heap.size, 8, none⟩ (.int .i64 l.mask)).setCell ⟨w.heap.size, 9, none⟩ (.int .i64 l.cost)) := ⟨_, rfl⟩
  have ho : Only w.heap.size (w.heap.size + 1) w3 U4 := by rw [hU4]; exact (((((((((((Only.refl _ _ _).set (p := ⟨w.heap.size, 0, none⟩) (Nat.le_refl _) (Nat.lt_succ_self _) _).set (p := ⟨w.heap.size, 1, none⟩) (Nat.le_refl _) (Nat.lt_succ_self _) _).set (p := ⟨w.heap.size, 2, none⟩) (Nat.le_refl _) (Nat.lt_succ_self _) _).set (p := ⟨w.heap.size, 3, none⟩) (Nat.le_refl _) (Nat.lt_succ_self _) _).set (p := ⟨w.heap.size, 4, none⟩) (Nat.le_refl _) (Nat.lt_succ_self _) _).set (p := ⟨w.heap.size, 5, none⟩) (Nat.le_refl _) (Nat.lt_succ_self _) _).set (p := ⟨w.heap.size, 6, none⟩) (Nat.le_refl _) (Nat.lt_succ_self _) _).set (p := ⟨w.heap.size, 7, none⟩) (Nat.le_refl _) (Nat.lt_succ_self _) _).set (p := ⟨w.heap.size, 8, none⟩) (Nat.le_refl _) (Nat.lt_succ_self _) _).set (p := ⟨w.heap.size, 9, none⟩) (Nat.le_refl _) (Nat.lt_succ_self _) _)
  replace HX1 : Kept w.heap.size (w.heap.size + 1) (BoxK w.heap.size 29 #[.int .i64 l.age, .int .i64 l.options, .int .i64 l.typ, .int .i64 l.id, .int .i64 l.adv, .int .i64 l.seq, .slice A n c, .slice B m d, .int .i64 l.mask, .int .i64 l.cost]) U4 := by rw [hU4]; exact Kept.box ((((((((((HX1.bx.puts 0 (.int .i64 l.age) (cs' := #[.int .i64 l.age, .int .i64 0, .int .i64 0, .int .i64 0, .int .i64 0, .int .i64 0, .slice none 0 0, .slice none 0 0, .int .i64 0, .int .i64 0]) rfl).puts 1 (.int .i64 l.options) (cs' := #[.int .i64 l.age, .int .i64 l.options, .int .i64 0, .int .i64 0, .int .i64 0, .int .i64 0, .slice none 0 0, .slice none 0 0, .int .i64 0, .int .i64 0]) rfl).puts 2 (.int .i64 l.typ) (cs' := #[.int .i64 l.age, .int .i64 l.options, .int .i64 l.typ, .int .i64 0, .int .i64 0, .int .i64 0, .slice none 0 0, .slice none 0 0, .int .i64 0, .int .i64 0]) rfl).puts 3 (.int .i64 l.id) (cs' := #[.int .i64 l.age, .int .i64 l.options, .int .i64 l.typ, .int .i64 l.id, .int .i64 0, .int .i64 0, .slice none 0 0, .slice none 0 0, .int .i64 0, .int .i64 0]) rfl).puts 4 (.int .i64 l.adv) (cs' := #[.int .i64 l.age, .int .i64 l.options, .int .i64 l.typ, .int .i64 l.id, .int .i64 l.adv, .int .i64 0, .slice none 0 0, .slice none 0 0, .int .i64 0, .int .i64 0]) rfl).puts 5 (.int .i64 l.seq) (cs' := #[.int .i64 l.age, .int .i64 l.options, .int .i64 l.typ, .int .i64 l.id, .int .i64 l.adv, .int .i64 l.seq, .slice none 0 0, .slice none 0 0, .int .i64 0, .int .i64 0]) rfl).puts 6 (.slice A n c) (cs' := #[.int .i64 l.age, .int .i64 l.options, .int .i64 l.typ, .int .i64 l.id, .int .i64 l.adv, .int .i64 l.seq, .slice A n c, .slice none 0 0, .int .i64 0, .int .i64 0]) rfl).puts 7 (.slice B m d) (cs' := #[.int .i64 l.age, .int .i64 l.options, .int .i64 l.typ, .int .i64 l.id, .int .i64 l.adv, .int .i64 l.seq, .slice A n c, .slice B m d, .int .i64 0, .int .i64 0]) rfl).puts 8 (.int .i64 l.mask) (cs' := #[.int .i64 l.age, .int .i64 l.options, .int .i64 l.typ, .int .i64 l.id, .int .i64 l.adv, .int .i64 l.seq, .slice A n c, .slice B m d, .int .i64 l.mask, .int .i64 0]) rfl).puts 9 (.int .i64 l.cost) (cs' := #[.int .i64 l.age, .int .i64 l.options, .int .i64 l.typ, .int .i64 l.id, .int .i64 l.adv, .int .i64 l.seq, .slice A n c, .slice B m d, .int .i64 l.mask, .int .i64 l.cost]) rfl)
  replace HD := HD.only ho (by have := Y3.out; omega)
  replace HA := HA.only ho (by have := Y3.out; omega)
  replace HB := Lib.hid (Below.only HB.out ho (by have := Y3.out; omega) HB.out.size)
  have Z5 : Hid (U4.heap.size = w3.heap.size) := Lib.hid (by rw [hU4]; simp [World.setCell]); clear ho
  have Y4 := Lib.hid (And.intro Y3.out Z5.out); clear Y3 Z5
  have q_0 := HX1.look 0
  have q_1 := HX1.look 1
  have q_2 := HX1.look 2
  have q_3 := HX1.look 3
  have q_4 := HX1.look 4
  have q_5 := HX1.look 5
  have q_6 := HX1.look 6
  have q_7 := HX1.look 7
  have q_8 := HX1.look 8
  have q_9 := HX1.look 9
  have fin : ∀ e, e = Ending.returned (.agg (lsaCells ⟨l.age, l.options, l.typ, l.id, l.adv, l.seq, l.links, l.routers, l.mask, l.cost⟩ A B n c m d)) → (OneOut w e U4) := by rintro _ rfl; exact ⟨_, _, _, _, _, _, _, rfl, LsaAt.wide (lo' := w.heap.size) (hi' := U4.heap.size) HA.lsa rfl rfl (by have := Y4.out; omega) (by have := Y4.out; omega) (Nat.le_refl _), by omega, by omega, HB.out⟩
  subst hU4
  exact bodyPost_ret (v := .agg (lsaCells ⟨l.age, l.options, l.typ, l.id, l.adv, l.seq, l.links, l.routers, l.mask, l.cost⟩ A B n c m d)) (by simp [results, Try.results37, go_sem, lsaCells, q_0, q_1, q_2, q_3, q_4, q_5, q_6, q_7, q_8, q_9]) rfl (fin _ rfl)

set_option maxRecDepth 100000 in
set_option maxHeartbeats 6400000 in
theorem drawEncode_any (A0 : Option Addr) (n0 c0 : Nat) (cs : List Int) (w : World) (ha : BIn w A0 n0 cs) (hb : Bytes cs) (hn : n0 ≤ 1048576) :
    Calls Try.prog 13 #[.slice A0 n0 c0] w (OneOut w) := by
  have HB := Lib.hid (Below.refl w.heap.size w)
  have HD := ha.hold
  have HBY := Lib.hid hb
  clear ha hb
  go_enter Try.func13, Try.ntmps13
  go_wp2_with fail
  refine Calls.name ?_
  intro U1 hU1
  have hb : Below w.heap.size w U1 := by rw [hU1]; exact ((Below.refl _ _).alloc (Nat.le_refl _) _)
  have zz : Hid (w.heap.size + 1 = U1.heap.size) := Lib.hid (by rw [hU1]; simp)
  have HX1 : Kept w.heap.size (w.heap.size + 1) (BoxK w.heap.size 29 #[.int .i64 0, .int .i64 0, .int .i64 0, .int .i64 0, .int .i64 0, .int .i64 0, .slice none 0 0, .slice none 0 0, .int .i64 0, .int .i64 0]) U1 := by rw [hU1]; exact Kept.box (Box.made_at _ _ _ rfl)
  replace HD := HD.below hb
  replace HB := Lib.hid (below_step HB.out hb)
  clear hb
  have Z1 := zz; clear zz
  clear hU1
  refine (dSource A0 n0 c0 cs _ HD.out HBY.out hn).mono ?_
  rintro e w2 ⟨rfl, hs, hb⟩
  have Z2 := Lib.hid hb.size
  have Y1 := Lib.hid (And.intro Z1.out Z2.out); clear Z1 Z2
  replace HD := HD.below hb
  replace HX1 := HX1.below hb
  replace HB := Lib.hid (below_step HB.out hb)
  clear hb
  have HS := hs; clear hs
  have Z3 := Lib.hid HS.lt
  have Y2 := Lib.hid (And.intro Y1.out Z3.out); clear Y1 Z3
  have l2_0 := HX1.bx.lt
  go_wp2_with fail
  clear l2_0
  refine (l2Bent_any _ A0 n0 c0 cs 0 _ HS.here (by omega)).mono ?_
  rintro e w3 ⟨l, A, B, n, c, m, d, rfl, hl, hn, hm, hs⟩
  have ho := hs.fr
  have Z4 := Lib.hid ho.size
  have Y3 := Lib.hid (And.intro Y2.out Z4.out); clear Y2 Z4
  replace HD := HD.only ho (by have := Y3.out; omega)
  replace HX1 := HX1.only ho (by have := Y3.out; omega)
  replace HB := Lib.hid (Below.only HB.out ho (by have := Y3.out; omega) HB.out.size)
  replace HS := HS.next hs; clear ho hs
  have HA := hl.kept; clear hl
  clear HS
  have c3_0 := HX1.look 0
  have c3_1 := HX1.look 1
  have c3_2 := HX1.look 2
  have c3_3 := HX1.look 3
  have c3_4 := HX1.look 4
  have c3_5 := HX1.look 5
  have c3_6 := HX1.look 6
  have c3_7 := HX1.look 7
  have c3_8 := HX1.look 8
  have c3_9 := HX1.look 9
  have f3_0 := HX1.free 0
  have f3_1 := HX1.free 1
  have f3_2 := HX1.free 2
  have f3_3 := HX1.free 3
  have f3_4 := HX1.free 4
  have f3_5 := HX1.free 5
  have f3_6 := HX1.free 6
  have f3_7 := HX1.free 7
  have f3_8 := HX1.free 8
  have f3_9 := HX1.free 9
  have l3_0 := HX1.bx.lt
  go_wp2
  clear c3_0 c3_1 c3_2 c3_3 c3_4 c3_5 c3_6 c3_7 c3_8 c3_9 f3_0 f3_1 f3_2 f3_3 f3_4 f3_5 f3_6 f3_7 f3_8 f3_9 l3_0
  obtain ⟨U4, hU4⟩ : ∃ W : World, W = ((((((((((w3.setCell ⟨w.heap.size, 0, none⟩ (.int .i64 l.age)).setCell ⟨w.heap.size, 1, none⟩ (.int .i64 l.options)).setCell ⟨w.heap.size, 2, none⟩ (.int .i64 l.typ)).setCell ⟨w.heap.size, 3, none⟩ (.int .i64 l.id)).setCell ⟨w.heap.size, 4, none⟩ (.int .i64 l.adv)).setCell ⟨w.heap.size, 5, none⟩ (.int .i64 l.seq)).setCell ⟨w.heap.size, 6, none⟩ (.slice A n c)).setCell ⟨w.heap.size, 7, none⟩ (.slice B m d)).setCell ⟨w.heap.size, 8, none⟩ (.int .i64 l.mask)).setCell ⟨w.heap.size, 9, none⟩ (.int .i64 l.cost)) := ⟨_, rfl⟩
  have ho : Only w.heap.size (w.heap.size + 1) w3 U4 := by rw [hU4]; exact (((((((((((Only.refl _ _ _).set (p := ⟨w.heap.size, 0, none⟩) (Nat.le_refl _) (Nat.lt_succ_self _) _).set (p := ⟨w.heap.size, 1, none⟩) (Nat.le_refl _) (Nat.lt_succ_self _) _).set (p := ⟨w.heap.size, 2, none⟩) (Nat.le_refl _) (Nat.lt_succ_self _) _).set (p := ⟨w.heap.size, 3, none⟩) (Nat.le_refl _) (Nat.lt_succ_self _) _).set (p := ⟨w.heap.size, 4, none⟩) (Nat.le_refl _) (Nat.lt_succ_self _) _).set (p := ⟨w.heap.size, 5, none⟩) (Nat.le_refl _) (Nat.lt_succ_self _) _).set (p := ⟨w.heap.size, 6, none⟩) (Nat.le_refl _) (Nat.lt_succ_self _) _).set (p := ⟨w.heap.size, 7, none⟩) (Nat.le_refl _) (Nat.lt_succ_self _) _).set (p := ⟨w.heap.size, 8, none⟩) (Nat.le_refl _) (Nat.lt_succ_self _) _).set (p := ⟨w.heap.size, 9, none⟩) (Nat.le_refl _) (Nat.lt_succ_self _) _)
  replace HX1 : Kept w.heap.size (w.heap.size + 1) (BoxK w.heap.size 29 #[.int .i64 l.age, .int .i64 l.options, .int .i64 l.typ, .int .i64 l.id, .int .i64 l.adv, .int .i64 l.seq, .slice A n c, .slice B m d, .int .i64 l.mask, .int .i64 l.cost]) U4 := by rw [hU4]; exact Kept.box ((((((((((HX1.bx.puts 0 (.int .i64 l.age) (cs' := #[.int .i64 l.age, .int .i64 0, .int .i64 0, .int .i64 0, .int .i64 0, .int .i64 0, .slice none 0 0, .slice none 0 0, .int .i64 0, .int .i64 0]) rfl).puts 1 (.int .i64 l.options) (cs' := #[.int .i64 l.age, .int .i64 l.options, .int .i64 0, .int .i64 0, .int .i64 0, .int .i64 0, .slice none 0 0, .slice none 0 0, .int .i64 0, .int .i64 0]) rfl).puts 2 (.int .i64 l.typ) (cs' := #[.int .i64 l.age, .int .i64 l.options, .int .i64 l.typ, .int .i64 0, .int .i64 0, .int .i64 0, .slice none 0 0, .slice none 0 0, .int .i64 0, .int .i64 0]) rfl).puts 3 (.int .i64 l.id) (cs' := #[.int .i64 l.age, .int .i64 l.options, .int .i64 l.typ, .int .i64 l.id, .int .i64 0, .int .i64 0, .slice none 0 0, .slice none 0 0, .int .i64 0, .int .i64 0]) rfl).puts 4 (.int .i64 l.adv) (cs' := #[.int .i64 l.age, .int .i64 l.options, .int .i64 l.typ, .int .i64 l.id, .int .i64 l.adv, .int .i64 0, .slice none 0 0, .slice none 0 0, .int .i64 0, .int .i64 0]) rfl).puts 5 (.int .i64 l.seq) (cs' := #[.int .i64 l.age, .int .i64 l.options, .int .i64 l.typ, .int .i64 l.id, .int .i64 l.adv, .int .i64 l.seq, .slice none 0 0, .slice none 0 0, .int .i64 0, .int .i64 0]) rfl).puts 6 (.slice A n c) (cs' := #[.int .i64 l.age, .int .i64 l.options, .int .i64 l.typ, .int .i64 l.id, .int .i64 l.adv, .int .i64 l.seq, .slice A n c, .slice none 0 0, .int .i64 0, .int .i64 0]) rfl).puts 7 (.slice B m d) (cs' := #[.int .i64 l.age, .int .i64 l.options, .int .i64 l.typ, .int .i64 l.id, .int .i64 l.adv, .int .i64 l.seq, .slice A n c, .slice B m d, .int .i64 0, .int .i64 0]) rfl).puts 8 (.int .i64 l.mask) (cs' := #[.int .i64 l.age, .int .i64 l.options, .int .i64 l.typ, .int .i64 l.id, .int .i64 l.adv, .int .i64 l.seq, .slice A n c, .slice B m d, .int .i64 l.mask, .int .i64 0]) rfl).puts 9 (.int .i64 l.cost) (cs' := #[.int .i64 l.age, .int .i64 l.options, .int .i64 l.typ, .int .i64 l.id, .int .i64 l.adv, .int .i64 l.seq, .slice A n c, .slice B m d, .int .i64 l.mask, .int .i64 l.cost]) rfl)
  replace HD := HD.only ho (by have := Y3.out; omega)
  replace HA := HA.only ho (by have := Y3.out; omega)
  replace HB := Lib.hid (Below.only HB.out ho (by have := Y3.out; omega) HB.out.size)
  have Z5 : Hid (U4.heap.size = w3.heap.size) := Lib.hid (by rw [hU4]; simp [World.setCell]); clear ho
  have Y4 := Lib.hid (And.intro Y3.out Z5.out); clear Y3 Z5
  have q_0 := HX1.look 0
  have q_1 := HX1.look 1
  have q_2 := HX1.look 2
  have q_3 := HX1.look 3
  have q_4 := HX1.look 4
  have q_5 := HX1.look 5
  have q_6 := HX1.look 6
  have q_7 := HX1.look 7
  have q_8 := HX1.look 8
  have q_9 := HX1.look 9
  have fin : ∀ e, e = Ending.returned (.agg (lsaCells ⟨l.age, l.options, l.typ, l.id, l.adv, l.seq, l.links, l.routers, l.mask, l.cost⟩ A B n c m d)) → (OneOut w e U4) := by rintro _ rfl; exact ⟨_, _, _, _, _, _, _, rfl, LsaAt.wide (lo' := w.heap.size) (hi' := U4.heap.size) HA.lsa rfl rfl (by have := Y4.out; omega) (by have := Y4.out; omega) (Nat.le_refl _), by omega, by omega, HB.out⟩
  subst hU4
  exact bodyPost_ret (v := .agg (lsaCells ⟨l.age, l.options, l.typ, l.id, l.adv, l.seq, l.links, l.routers, l.mask, l.cost⟩ A B n c m d)) (by simp [results, Try.results13, go_sem, lsaCells, q_0, q_1, q_2, q_3, q_4, q_5, q_6, q_7, q_8, q_9]) rfl (fin _ rfl)

set_option maxRecDepth 100000 in
set_option maxHeartbeats 6400000 in
theorem drawAge_any (A0 : Option Addr) (n0 c0 : Nat) (cs : List Int) (w : World) (ha : BIn w A0 n0 cs) (hb : Bytes cs) (hn : n0 ≤ 1048576) :
    Calls Try.prog 35 #[.slice A0 n0 c0] w (AgeOut w) := by
  have HB := Lib.hid (Below.refl w.heap.size w)
  have HD := ha.hold
  have HBY := Lib.hid hb
  clear ha hb
  go_enter Try.func35, Try.ntmps35
  go_wp2_with fail
  refine Calls.name ?_
  intro U1 hU1
  have hb : Below w.heap.size w U1 := by rw [hU1]; exact ((Below.refl _ _).alloc (Nat.le_refl _) _)
  have zz : Hid (w.heap.size + 1 = U1.heap.size) := Lib.hid (by rw [hU1]; simp)
  have HX1 : Kept w.heap.size (w.heap.size + 1) (BoxK w.heap.size 29 #[.int .i64 0, .int .i64 0, .int .i64 0, .int .i64 0, .int .i64 0, .int .i64 0, .slice none 0 0, .slice none 0 0, .int .i64 0, .int .i64 0]) U1 := by rw [hU1]; exact Kept.box (Box.made_at _ _ _ rfl)
  replace HD := HD.below hb
  replace HB := Lib.hid (below_step HB.out hb)
  clear hb
  have Z1 := zz; clear zz
  clear hU1
  refine (dSource A0 n0 c0 cs _ HD.out HBY.out hn).mono ?_
  rintro e w2 ⟨rfl, hs, hb⟩
  have Z2 := Lib.hid hb.size
  have Y1 := Lib.hid (And.intro Z1.out Z2.out); clear Z1 Z2
  replace HD := HD.below hb
  replace HX1 := HX1.below hb
  replace HB := Lib.hid (below_step HB.out hb)
  clear hb
  have HS := hs; clear hs
  have Z3 := Lib.hid HS.lt
  have Y2 := Lib.hid (And.intro Y1.out Z3.out); clear Y1 Z3
  have l2_0 := HX1.bx.lt
  go_wp2_with fail
  clear l2_0
  refine (l2Bent_any _ A0 n0 c0 cs 0 _ HS.here (by omega)).mono ?_
  rintro e w3 ⟨l, A, B, n, c, m, d, rfl, hl, hn, hm, hs⟩
  have ho := hs.fr
  have Z4 := Lib.hid ho.size
  have Y3 := Lib.hid (And.intro Y2.out Z4.out); clear Y2 Z4
  replace HD := HD.only ho (by have := Y3.out; omega)
  replace HX1 := HX1.only ho (by have := Y3.out; omega)
  replace HB := Lib.hid (Below.only HB.out ho (by have := Y3.out; omega) HB.out.size)
  replace HS := HS.next hs; clear ho hs
  have HA := hl.kept; clear hl
  have l3_0 := HX1.bx.lt
  go_wp2_with fail
  clear l3_0
  refine Calls.name ?_
  intro U4 hU4
  have hb : Below w3.heap.size w3 U4 := by rw [hU4]; exact ((Below.refl _ _).alloc (Nat.le_refl _) _)
  have zz : Hid (w3.heap.size + 1 = U4.heap.size) := Lib.hid (by rw [hU4]; simp)
  have HX2 : Kept w3.heap.size (w3.heap.size + 1) (BoxK w3.heap.size 2 #[.int .i64 0, .int .i64 1, .int .i64 100, .int .i64 3600, .int .i64 9223372036854775807, .int .i64 (-1)]) U4 := by rw [hU4]; exact Kept.box (Box.made_at _ _ _ rfl)
  replace HD := HD.below hb
  replace HX1 := HX1.below hb
  replace HS := HS.below hb
  replace HA := HA.below hb
  replace HB := Lib.hid (below_step HB.out hb)
  clear hb
  have Z5 := zz; clear zz
  have Y4 := Lib.hid (And.intro Y3.out Z5.out); clear Y3 Z5
  clear hU4
  refine (dPick w3.heap.size 6 [0, 1, 100, 3600, 9223372036854775807, -1] HS.here (by omega) HX2.bx rfl rfl (by omega) (by omega) (by have := Y4.out; omega)).mono ?_
  rintro e w5 ⟨t, rfl, hv, hs⟩
  have ho := hs.fr
  have Z6 := Lib.hid ho.size
  have Y5 := Lib.hid (And.intro Y4.out Z6.out); clear Y4 Z6
  clear HX2
  replace HD := HD.only ho (by have := Y5.out; omega)
  replace HX1 := HX1.only ho (by have := Y5.out; omega)
  replace HA := HA.only ho (by have := Y5.out; omega)
  replace HB := Lib.hid (Below.only HB.out ho (by have := Y5.out; omega) HB.out.size)
  replace HS := HS.next hs; clear ho hs
  have ht : -1 ≤ t ∧ t ≤ 9223372036854775807 := by simp only [List.mem_cons, List.not_mem_nil, or_false] at hv; omega
  clear hv
  clear HS
  have c4_0 := HX1.look 0
  have c4_1 := HX1.look 1
  have c4_2 := HX1.look 2
  have c4_3 := HX1.look 3
  have c4_4 := HX1.look 4
  have c4_5 := HX1.look 5
  have c4_6 := HX1.look 6
  have c4_7 := HX1.look 7
  have c4_8 := HX1.look 8
  have c4_9 := HX1.look 9
  have f4_0 := HX1.free 0
  have f4_1 := HX1.free 1
  have f4_2 := HX1.free 2
  have f4_3 := HX1.free 3
  have f4_4 := HX1.free 4
  have f4_5 := HX1.free 5
  have f4_6 := HX1.free 6
  have f4_7 := HX1.free 7
  have f4_8 := HX1.free 8
  have f4_9 := HX1.free 9
  have l4_0 := HX1.bx.lt
  go_wp2
  clear c4_0 c4_1 c4_2 c4_3 c4_4 c4_5 c4_6 c4_7 c4_8 c4_9 f4_0 f4_1 f4_2 f4_3 f4_4 f4_5 f4_6 f4_7 f4_8 f4_9 l4_0
  obtain ⟨U6, hU6⟩ : ∃ W : World, W = ((((((((((w5.setCell ⟨w.heap.size, 0, none⟩ (.int .i64 l.age)).setCell ⟨w.heap.size, 1, none⟩ (.int .i64 l.options)).setCell ⟨w.heap.size, 2, none⟩ (.int .i64 l.typ)).setCell ⟨w.heap.size, 3, none⟩ (.int .i64 l.id)).setCell ⟨w.heap.size, 4, none⟩ (.int .i64 l.adv)).setCell ⟨w.heap.size, 5, none⟩ (.int .i64 l.seq)).setCell ⟨w.heap.size, 6, none⟩ (.slice A n c)).setCell ⟨w.heap.size, 7, none⟩ (.slice B m d)).setCell ⟨w.heap.size, 8, none⟩ (.int .i64 l.mask)).setCell ⟨w.heap.size, 9, none⟩ (.int .i64 l.cost)) := ⟨_, rfl⟩
  have ho : Only w.heap.size (w.heap.size + 1) w5 U6 := by rw [hU6]; exact (((((((((((Only.refl _ _ _).set (p := ⟨w.heap.size, 0, none⟩) (Nat.le_refl _) (Nat.lt_succ_self _) _).set (p := ⟨w.heap.size, 1, none⟩) (Nat.le_refl _) (Nat.lt_succ_self _) _).set (p := ⟨w.heap.size, 2, none⟩) (Nat.le_refl _) (Nat.lt_succ_self _) _).set (p := ⟨w.heap.size, 3, none⟩) (Nat.le_refl _) (Nat.lt_succ_self _) _).set (p := ⟨w.heap.size, 4, none⟩) (Nat.le_refl _) (Nat.lt_succ_self _) _).set (p := ⟨w.heap.size, 5, none⟩) (Nat.le_refl _) (Nat.lt_succ_self _) _).set (p := ⟨w.heap.size, 6, none⟩) (Nat.le_refl _) (Nat.lt_succ_self _) _).set (p := ⟨w.heap.size, 7, none⟩) (Nat.le_refl _) (Nat.lt_succ_self _) _).set (p := ⟨w.heap.size, 8, none⟩) (Nat.le_refl _) (Nat.lt_succ_self _) _).set (p := ⟨w.heap.size, 9, none⟩) (Nat.le_refl _) (Nat.lt_succ_self _) _)
  replace HX1 : Kept w.heap.size (w.heap.size + 1) (BoxK w.heap.size 29 #[.int .i64 l.age, .int .i64 l.options, .int .i64 l.typ, .int .i64 l.id, .int .i64 l.adv, .int .i64 l.seq, .slice A n c, .slice B m d, .int .i64 l.mask, .int .i64 l.cost]) U6 := by rw [hU6]; exact Kept.box ((((((((((HX1.bx.puts 0 (.int .i64 l.age) (cs' := #[.int .i64 l.age, .int .i64 0, .int .i64 0, .int .i64 0, .int .i64 0, .int .i64 0, .slice none 0 0, .slice none 0 0, .int .i64 0, .int .i64 0]) rfl).puts 1 (.int .i64 l.options) (cs' := #[.int .i64 l.age, .int .i64 l.options, .int .i64 0, .int .i64 0, .int .i64 0, .int .i64 0, .slice none 0 0, .slice none 0 0, .int .i64 0, .int .i64 0]) rfl).puts 2 (.int .i64 l.typ) (cs' := #[.int .i64 l.age, .int .i64 l.options, .int .i64 l.typ, .int .i64 0, .int .i64 0, .int .i64 0, .slice none 0 0, .slice none 0 0, .int .i64 0, .int .i64 0]) rfl).puts 3 (.int .i64 l.id) (cs' := #[.int .i64 l.age, .int .i64 l.options, .int .i64 l.typ, .int .i64 l.id, .int .i64 0, .int .i64 0, .slice none 0 0, .slice none 0 0, .int .i64 0, .int .i64 0]) rfl).puts 4 (.int .i64 l.adv) (cs' := #[.int .i64 l.age, .int .i64 l.options, .int .i64 l.typ, .int .i64 l.id, .int .i64 l.adv, .int .i64 0, .slice none 0 0, .slice none 0 0, .int .i64 0, .int .i64 0]) rfl).puts 5 (.int .i64 l.seq) (cs' := #[.int .i64 l.age, .int .i64 l.options, .int .i64 l.typ, .int .i64 l.id, .int .i64 l.adv, .int .i64 l.seq, .slice none 0 0, .slice none 0 0, .int .i64 0, .int .i64 0]) rfl).puts 6 (.slice A n c) (cs' := #[.int .i64 l.age, .int .i64 l.options, .int .i64 l.typ, .int .i64 l.id, .int .i64 l.adv, .int .i64 l.seq, .slice A n c, .slice none 0 0, .int .i64 0, .int .i64 0]) rfl).puts 7 (.slice B m d) (cs' := #[.int .i64 l.age, .int .i64 l.options, .int .i64 l.typ, .int .i64 l.id, .int .i64 l.adv, .int .i64 l.seq, .slice A n c, .slice B m d, .int .i64 0, .int .i64 0]) rfl).puts 8 (.int .i64 l.mask) (cs' := #[.int .i64 l.age, .int .i64 l.options, .int .i64 l.typ, .int .i64 l.id, .int .i64 l.adv, .int .i64 l.seq, .slice A n c, .slice B m d, .int .i64 l.mask, .int .i64 0]) rfl).puts 9 (.int .i64 l.cost) (cs' := #[.int .i64 l.age, .int .i64 l.options, .int .i64 l.typ, .int .i64 l.id, .int .i64 l.adv, .int .i64 l.seq, .slice A n c, .slice B m d, .int .i64 l.mask, .int .i64 l.cost]) rfl)
  replace HD := HD.only ho (by have := Y5.out; omega)
  replace HA := HA.only ho (by have := Y5.out; omega)
  replace HB := Lib.hid (Below.only HB.out ho (by have := Y5.out; omega) HB.out.size)
  have Z7 : Hid (U6.heap.size = w5.heap.size) := Lib.hid (by rw [hU6]; simp [World.setCell]); clear ho
  have Y6 := Lib.hid (And.intro Y5.out Z7.out); clear Y5 Z7
  have q0_0 := HX1.look 0
  have q0_1 := HX1.look 1
  have q0_2 := HX1.look 2
  have q0_3 := HX1.look 3
  have q0_4 := HX1.look 4
  have q0_5 := HX1.look 5
  have q0_6 := HX1.look 6
  have q0_7 := HX1.look 7
  have q0_8 := HX1.look 8
  have q0_9 := HX1.look 9
  have fin : ∀ e, e = Ending.returned (.tuple #[.agg (lsaCells ⟨l.age, l.options, l.typ, l.id, l.adv, l.seq, l.links, l.routers, l.mask, l.cost⟩ A B n c m d), .int .i64 t]) → (AgeOut w e U6) := by rintro _ rfl; exact ⟨_, _, _, _, _, _, _, _, rfl, LsaAt.wide (lo' := w.heap.size) (hi' := U6.heap.size) HA.lsa rfl rfl (by have := Y6.out; omega) (by have := Y6.out; omega) (Nat.le_refl _), by omega, by omega, by omega, by omega, HB.out⟩
  subst hU6
  exact bodyPost_ret (v := .tuple #[.agg (lsaCells ⟨l.age, l.options, l.typ, l.id, l.adv, l.seq, l.links, l.routers, l.mask, l.cost⟩ A B n c m d), .int .i64 t]) (by simp [results, Try.results35, go_sem, lsaCells, q0_0, q0_1, q0_2, q0_3, q0_4, q0_5, q0_6, q0_7, q0_8, q0_9]) rfl (fin _ rfl)

set_option maxRecDepth 100000 in
set_option maxHeartbeats 6400000 in
theorem drawSeq_any (A0 : Option Addr) (n0 c0 : Nat) (cs : List Int) (w : World) (ha : BIn w A0 n0 cs) (hb : Bytes cs) (hn : n0 ≤ 1048576) :
    Calls Try.prog 29 #[.slice A0 n0 c0] w fun e w' => ∃ v, e = .returned (.int .i64 v) ∧ Below w.heap.size w w' := by
  have HB := Lib.hid (Below.refl w.heap.size w)
  have HD := ha.hold
  have HBY := Lib.hid hb
  clear ha hb
  go_enter Try.func29, Try.ntmps29
  go_wp2_with fail
  refine (dSource A0 n0 c0 cs _ HD.out HBY.out hn).mono ?_
  rintro e w1 ⟨rfl, hs, hb⟩
  have Z1 := Lib.hid hb.size
  replace HD := HD.below hb
  replace HB := Lib.hid (below_step HB.out hb)
  clear hb
  have HS := hs; clear hs
  have Z2 := Lib.hid HS.lt
  have Y1 := Lib.hid (And.intro Z1.out Z2.out); clear Z1 Z2
  go_wp2_with fail
  refine Calls.name ?_
  intro U2 hU2
  have hb : Below w1.heap.size w1 U2 := by rw [hU2]; exact ((Below.refl _ _).alloc (Nat.le_refl _) _)
  have zz : Hid (w1.heap.size + 1 = U2.heap.size) := Lib.hid (by rw [hU2]; simp)
  have HX1 : Kept w1.heap.size (w1.heap.size + 1) (BoxK w1.heap.size 2 #[.int .i64 0, .int .i64 (-2147483647), .int .i64 2147483646, .int .i64 2147483647, .int .i64 2147483648, .int .i64 (-2147483648), .int .i64 7]) U2 := by rw [hU2]; exact Kept.box (Box.made_at _ _ _ rfl)
  replace HD := HD.below hb
  replace HS := HS.below hb
  replace HB := Lib.hid (below_step HB.out hb)
  clear hb
  have Z3 := zz; clear zz
  have Y2 := Lib.hid (And.intro Y1.out Z3.out); clear Y1 Z3
  clear hU2
  refine (dPick w1.heap.size 7 [0, -2147483647, 2147483646, 2147483647, 2147483648, -2147483648, 7] HS.here (by omega) HX1.bx rfl rfl (by omega) (by omega) (by have := Y2.out; omega)).mono ?_
  rintro e w3 ⟨v, rfl, hv, hs⟩
  have ho := hs.fr
  have Z4 := Lib.hid ho.size
  have Y3 := Lib.hid (And.intro Y2.out Z4.out); clear Y2 Z4
  clear HX1
  replace HD := HD.only ho (by have := Y3.out; omega)
  replace HB := Lib.hid (Below.only HB.out ho (by have := Y3.out; omega) HB.out.size)
  replace HS := HS.next hs; clear ho hs
  clear hv
  clear HS
  go_wp2
  have fin : ∀ e, e = Ending.returned (.int .i64 v) → (∃ v, e = .returned (.int .i64 v) ∧ Below w.heap.size w w3) := by rintro _ rfl; exact ⟨v, rfl, HB.out⟩
  go_ret
  exact (fin _ rfl)


end Go.Proofs.Ytamclkjofojhmaa

namespace Go.Proofs.Ytamclkjofojhmaa
open Go.RowKit
set_option linter.unusedVariables false

set_option maxRecDepth 100000 in
set_option maxHeartbeats 6400000 in
theorem drawSameL_any (A0 : Option Addr) (n0 c0 : Nat) (cs : List Int) (w : World) (ha : BIn w A0 n0 cs) (hb : Bytes cs) (hn : n0 ≤ 1048576) :
    Calls Try.prog 17 #[.slice A0 n0 c0] w (TwoOut w) := by
  have HB := Lib.hid (Below.refl w.heap.size w)
  have HD := ha.hold
  have HBY := Lib.hid hb
  clear ha hb
  go_enter Try.func17, Try.ntmps17
  go_wp2_with fail
  refine Calls.name ?_
  intro U1 hU1
  have hb : Below w.heap.size w U1 := by rw [hU1]; exact (((Below.refl _ _).alloc (Nat.le_refl _) _).alloc (by simp <;> omega) _)
  have zz : Hid (w.heap.size + 2 = U1.heap.size) := Lib.hid (by rw [hU1]; simp)
  have HX1 : Kept w.heap.size (w.heap.size + 1) (BoxK w.heap.size 29 #[.int .i64 0, .int .i64 0, .int .i64 0, .int .i64 0, .int .i64 0, .int .i64 0, .slice none 0 0, .slice none 0 0, .int .i64 0, .int .i64 0]) U1 := by rw [hU1]; exact Kept.box ((Box.made_at _ _ _ rfl).over _)
  have HX2 : Kept (w.heap.size + 1) (w.heap.size + 1 + 1) (BoxK (w.heap.size + 1) 29 #[.int .i64 0, .int .i64 0, .int .i64 0, .int .i64 0, .int .i64 0, .int .i64 0, .slice none 0 0, .slice none 0 0, .int .i64 0, .int .i64 0]) U1 := by rw [hU1]; exact Kept.box (Box.made_at _ _ _ (by simp <;> omega))
  replace HD := HD.below hb
  replace HB := Lib.hid (below_step HB.out hb)
  clear hb
  have Z1 := zz; clear zz
  clear hU1
  refine (dSource A0 n0 c0 cs _ HD.out HBY.out hn).mono ?_
  rintro e w2 ⟨rfl, hs, hb⟩
  have Z2 := Lib.hid hb.size
  have Y1 := Lib.hid (And.intro Z1.out Z2.out); clear Z1 Z2
  replace HD := HD.below hb
  replace HX1 := HX1.below hb
  replace HX2 := HX2.below hb
  replace HB := Lib.hid (below_step HB.out hb)
  clear hb
  have HS := hs; clear hs
  have Z3 := Lib.hid HS.lt
  have Y2 := Lib.hid (And.intro Y1.out Z3.out); clear Y1 Z3
  have l2_0 := HX1.bx.lt
  have l2_1 := HX2.bx.lt
  go_wp2_with fail
  clear l2_0 l2_1
  refine (l2Draw_any _ A0 n0 c0 cs 0 _ HS.here (by omega)).mono ?_
  rintro e w3 ⟨l, A9, B9, n9, c9, m9, d9, rfl, hl, hn9, hm9, hs⟩
  have ho := hs.fr
  have Z4 := Lib.hid ho.size
  have Y3 := Lib.hid (And.intro Y2.out Z4.out); clear Y2 Z4
  replace HD := HD.only ho (by have := Y3.out; omega)
  replace HX1 := HX1.only ho (by have := Y3.out; omega)
  replace HX2 := HX2.only ho (by have := Y3.out; omega)
  replace HB := Lib.hid (Below.only HB.out ho (by have := Y3.out; omega) HB.out.size)
  replace HS := HS.next hs; clear ho hs
  have HA := hl.lsa.kept; clear hl
  have l3_0 := HX1.bx.lt
  have l3_1 := HX2.bx.lt
  go_wp2_with fail
  clear l3_0 l3_1
  refine Calls.name ?_
  intro U4 hU4
  have hb : Below w3.heap.size w3 U4 := by rw [hU4]; exact ((Below.refl _ _).alloc (Nat.le_refl _) _)
  have zz : Hid (w3.heap.size + 1 = U4.heap.size) := Lib.hid (by rw [hU4]; simp)
  have HX3 : Kept w3.heap.size (w3.heap.size + 1) (BoxK w3.heap.size 29 #[.int .i64 l.age, .int .i64 l.options, .int .i64 l.typ, .int .i64 l.id, .int .i64 l.adv, .int .i64 l.seq, .slice A9 n9 c9, .slice B9 m9 d9, .int .i64 l.mask, .int .i64 l.cost]) U4 := by rw [hU4]; exact Kept.box (Box.made_at _ _ _ rfl)
  replace HD := HD.below hb
  replace HX1 := HX1.below hb
  replace HX2 := HX2.below hb
  replace HS := HS.below hb
  replace HA := HA.below hb
  replace HB := Lib.hid (below_step HB.out hb)
  clear hb
  have Z5 := zz; clear zz
  have Y4 := Lib.hid (And.intro Y3.out Z5.out); clear Y3 Z5
  clear hU4
  refine (dChance 2 HS.here (by omega) (by omega)).mono ?_
  rintro e w5 ⟨vb, rfl, hs⟩
  have ho := hs.fr
  have Z6 := Lib.hid ho.size
  have Y5 := Lib.hid (And.intro Y4.out Z6.out); clear Y4 Z6
  replace HD := HD.only ho (by have := Y5.out; omega)
  replace HX1 := HX1.only ho (by have := Y5.out; omega)
  replace HX2 := HX2.only ho (by have := Y5.out; omega)
  replace HA := HA.only ho (by have := Y5.out; omega)
  replace HX3 := HX3.only ho (by have := Y5.out; omega)
  replace HB := Lib.hid (Below.only HB.out ho (by have := Y5.out; omega) HB.out.size)
  replace HS := HS.next hs; clear ho hs
  cases vb
  · have l4_0 := HX1.bx.lt
    have l4_1 := HX2.bx.lt
    have l4_2 := HX3.bx.lt
    go_wp2_with fail
    clear l4_0 l4_1 l4_2
    clear HS
    have V0 : Hid (Below w5.heap.size w5 w5.drew) := Lib.hid (Below.refl _ _).drew
    have hdz : w5.heap.size ≤ w5.drew.heap.size := Nat.le_refl _
    have hdq : w5.drew.heap.size = w5.heap.size := rfl
    have cl0_HX3_0 := HX3.look 0
    have cl0_HX3_1 := HX3.look 1
    have cl0_HX3_2 := HX3.look 2
    have cl0_HX3_3 := HX3.look 3
    have cl0_HX3_4 := HX3.look 4
    have cl0_HX3_5 := HX3.look 5
    have cl0_HX3_6 := HX3.look 6
    have cl0_HX3_7 := HX3.look 7
    have cl0_HX3_8 := HX3.look 8
    have cl0_HX3_9 := HX3.look 9
    have ll0_HX3 := HX3.bx.lt
    have ll0_HX1 := HX1.bx.lt
    have ll0_HX2 := HX2.bx.lt
    have ne_HX1_HX3 : ¬ w.heap.size = w3.heap.size := (by have := Y5.out; omega)
    have nf_HX3_HX1 : ¬ w3.heap.size = w.heap.size := (by have := Y5.out; omega)
    have ne_HX1_HX2 : ¬ w.heap.size = w.heap.size + 1 := (by have := Y5.out; omega)
    have ne_HX2_HX3 : ¬ w.heap.size + 1 = w3.heap.size := (by have := Y5.out; omega)
    have nf_HX3_HX2 : ¬ w3.heap.size = w.heap.size + 1 := (by have := Y5.out; omega)
    have ne_HX2_HX1 : ¬ w.heap.size + 1 = w.heap.size := (by have := Y5.out; omega)
    go_region_law (first
          | ((show (if Region.wanted (Oper.mk (some 17) _ _ _ _ _) _ = true then _ else _)); go_simp; have PC := dSource A0 n0 c0 cs (w5.drew) (HD.below V0.out).out HBY.out hn; with_reducible refine PC.mono ?_; clear PC; rintro e uu0 ⟨rfl, hs2, hb⟩; replace HD := HD.below V0.out; replace HX1 := HX1.below V0.out; replace HX2 := HX2.below V0.out; replace HA := HA.below V0.out; replace HX3 := HX3.below V0.out; replace HB := Lib.hid (below_step HB.out V0.out); have Z7 := Lib.hid (Nat.le_trans hdz hb.size); have Y6 := Lib.hid (And.intro Y5.out Z7.out); clear Y5 Z7; replace HD := HD.below hb; replace HX1 := HX1.below hb; replace HX2 := HX2.below hb; replace HA := HA.below hb; replace HX3 := HX3.below hb; replace HB := Lib.hid (below_step HB.out hb); clear hb; rw [hdq] at hs2; have HS2 := hs2; clear hs2; have cl1_HX3_0 := HX3.look 0; have cl1_HX3_1 := HX3.look 1; have cl1_HX3_2 := HX3.look 2; have cl1_HX3_3 := HX3.look 3; have cl1_HX3_4 := HX3.look 4; have cl1_HX3_5 := HX3.look 5; have cl1_HX3_6 := HX3.look 6; have cl1_HX3_7 := HX3.look 7; have cl1_HX3_8 := HX3.look 8; have cl1_HX3_9 := HX3.look 9; have ll1_HX3 := HX3.bx.lt; have ll1_HX1 := HX1.bx.lt; have ll1_HX2 := HX2.bx.lt)
          | ((show (if Region.wanted (Oper.mk (some 18) _ _ _ _ _) _ = true then _ else _)); go_simp; have PC := l2Bent_any _ A0 n0 c0 cs 0 (uu0) HS2.here (by omega); unfold BentOut at PC; with_reducible refine PC.mono ?_; clear PC; rintro e uu1 ⟨k, A2, B2, n2, c2, m2, d2, rfl, hl2, hn2, hm2, hs⟩; have ho := hs.fr; have Z8 := Lib.hid (ho.size); have Y7 := Lib.hid (And.intro Y6.out Z8.out); clear Y6 Z8; replace HD := HD.only ho (by have := Y7.out; omega); replace HX1 := HX1.only ho (by have := Y7.out; omega); replace HX2 := HX2.only ho (by have := Y7.out; omega); replace HA := HA.only ho (by have := Y7.out; omega); replace HX3 := HX3.only ho (by have := Y7.out; omega); replace HB := Lib.hid (Below.only HB.out ho (by have := Y7.out; omega) HB.out.size); replace HS2 := HS2.next hs; clear ho hs; have HK := hl2.kept; clear hl2; have cl2_HX3_0 := HX3.look 0; have cl2_HX3_1 := HX3.look 1; have cl2_HX3_2 := HX3.look 2; have cl2_HX3_3 := HX3.look 3; have cl2_HX3_4 := HX3.look 4; have cl2_HX3_5 := HX3.look 5; have cl2_HX3_6 := HX3.look 6; have cl2_HX3_7 := HX3.look 7; have cl2_HX3_8 := HX3.look 8; have cl2_HX3_9 := HX3.look 9; have ll2_HX3 := HX3.bx.lt; have ll2_HX1 := HX1.bx.lt; have ll2_HX2 := HX2.bx.lt; have cs2_HX1_0 := HX1.look 0; have fs2_HX1_0 := HX1.free 0; have cs2_HX1_1 := HX1.look 1; have fs2_HX1_1 := HX1.free 1; have cs2_HX1_2 := HX1.look 2; have fs2_HX1_2 := HX1.free 2; have cs2_HX1_3 := HX1.look 3; have fs2_HX1_3 := HX1.free 3; have cs2_HX1_4 := HX1.look 4; have fs2_HX1_4 := HX1.free 4; have cs2_HX1_5 := HX1.look 5; have fs2_HX1_5 := HX1.free 5; have cs2_HX1_6 := HX1.look 6; have fs2_HX1_6 := HX1.free 6; have cs2_HX1_7 := HX1.look 7; have fs2_HX1_7 := HX1.free 7; have cs2_HX1_8 := HX1.look 8; have fs2_HX1_8 := HX1.free 8; have cs2_HX1_9 := HX1.look 9; have fs2_HX1_9 := HX1.free 9; have cs2_HX2_0 := HX2.look 0; have fs2_HX2_0 := HX2.free 0; have cs2_HX2_1 := HX2.look 1; have fs2_HX2_1 := HX2.free 1; have cs2_HX2_2 := HX2.look 2; have fs2_HX2_2 := HX2.free 2; have cs2_HX2_3 := HX2.look 3; have fs2_HX2_3 := HX2.free 3; have cs2_HX2_4 := HX2.look 4; have fs2_HX2_4 := HX2.free 4; have cs2_HX2_5 := HX2.look 5; have fs2_HX2_5 := HX2.free 5; have cs2_HX2_6 := HX2.look 6; have fs2_HX2_6 := HX2.free 6; have cs2_HX2_7 := HX2.look 7; have fs2_HX2_7 := HX2.free 7; have cs2_HX2_8 := HX2.look 8; have fs2_HX2_8 := HX2.free 8; have cs2_HX2_9 := HX2.look 9; have fs2_HX2_9 := HX2.free 9))
    all_goals
      clear HS2
      have l5_0 := HX1.bx.lt
      have l5_1 := HX2.bx.lt
      have l5_2 := HX3.bx.lt
      go_wp2
      clear l5_0 l5_1 l5_2
      obtain ⟨U6, hU6⟩ : ∃ W : World, W = ((((((((((uu1.setCell ⟨w.heap.size, 0, none⟩ (.int .i64 l.age)).setCell ⟨w.heap.size, 1, none⟩ (.int .i64 l.options)).setCell ⟨w.heap.size, 2, none⟩ (.int .i64 l.typ)).setCell ⟨w.heap.size, 3, none⟩ (.int .i64 l.id)).setCell ⟨w.heap.size, 4, none⟩ (.int .i64 l.adv)).setCell ⟨w.heap.size, 5, none⟩ (.int .i64 l.seq)).setCell ⟨w.heap.size, 6, none⟩ (.slice A9 n9 c9)).setCell ⟨w.heap.size, 7, none⟩ (.slice B9 m9 d9)).setCell ⟨w.heap.size, 8, none⟩ (.int .i64 l.mask)).setCell ⟨w.heap.size, 9, none⟩ (.int .i64 l.cost)) := ⟨_, rfl⟩
      have ho : Only w.heap.size (w.heap.size + 1) uu1 U6 := by rw [hU6]; exact (((((((((((Only.refl _ _ _).set (p := ⟨w.heap.size, 0, none⟩) (Nat.le_refl _) (Nat.lt_succ_self _) _).set (p := ⟨w.heap.size, 1, none⟩) (Nat.le_refl _) (Nat.lt_succ_self _) _).set (p := ⟨w.heap.size, 2, none⟩) (Nat.le_refl _) (Nat.lt_succ_self _) _).set (p := ⟨w.heap.size, 3, none⟩) (Nat.le_refl _) (Nat.lt_succ_self _) _).set (p := ⟨w.heap.size, 4, none⟩) (Nat.le_refl _) (Nat.lt_succ_self _) _).set (p := ⟨w.heap.size, 5, none⟩) (Nat.le_refl _) (Nat.lt_succ_self _) _).set (p := ⟨w.heap.size, 6, none⟩) (Nat.le_refl _) (Nat.lt_succ_self _) _).set (p := ⟨w.heap.size, 7, none⟩) (Nat.le_refl _) (Nat.lt_succ_self _) _).set (p := ⟨w.heap.size, 8, none⟩) (Nat.le_refl _) (Nat.lt_succ_self _) _).set (p := ⟨w.heap.size, 9, none⟩) (Nat.le_refl _) (Nat.lt_succ_self _) _)
      replace HX1 : Kept w.heap.size (w.heap.size + 1) (BoxK w.heap.size 29 #[.int .i64 l.age, .int .i64 l.options, .int .i64 l.typ, .int .i64 l.id, .int .i64 l.adv, .int .i64 l.seq, .slice A9 n9 c9, .slice B9 m9 d9, .int .i64 l.mask, .int .i64 l.cost]) U6 := by rw [hU6]; exact Kept.box ((((((((((HX1.bx.puts 0 (.int .i64 l.age) (cs' := #[.int .i64 l.age, .int .i64 0, .int .i64 0, .int .i64 0, .int .i64 0, .int .i64 0, .slice none 0 0, .slice none 0 0, .int .i64 0, .int .i64 0]) rfl).puts 1 (.int .i64 l.options) (cs' := #[.int .i64 l.age, .int .i64 l.options, .int .i64 0, .int .i64 0, .int .i64 0, .int .i64 0, .slice none 0 0, .slice none 0 0, .int .i64 0, .int .i64 0]) rfl).puts 2 (.int .i64 l.typ) (cs' := #[.int .i64 l.age, .int .i64 l.options, .int .i64 l.typ, .int .i64 0, .int .i64 0, .int .i64 0, .slice none 0 0, .slice none 0 0, .int .i64 0, .int .i64 0]) rfl).puts 3 (.int .i64 l.id) (cs' := #[.int .i64 l.age, .int .i64 l.options, .int .i64 l.typ, .int .i64 l.id, .int .i64 0, .int .i64 0, .slice none 0 0, .slice none 0 0, .int .i64 0, .int .i64 0]) rfl).puts 4 (.int .i64 l.adv) (cs' := #[.int .i64 l.age, .int .i64 l.options, .int .i64 l.typ, .int .i64 l.id, .int .i64 l.adv, .int .i64 0, .slice none 0 0, .slice none 0 0, .int .i64 0, .int .i64 0]) rfl).puts 5 (.int .i64 l.seq) (cs' := #[.int .i64 l.age, .int .i64 l.options, .int .i64 l.typ, .int .i64 l.id, .int .i64 l.adv, .int .i64 l.seq, .slice none 0 0, .slice none 0 0, .int .i64 0, .int .i64 0]) rfl).puts 6 (.slice A9 n9 c9) (cs' := #[.int .i64 l.age, .int .i64 l.options, .int .i64 l.typ, .int .i64 l.id, .int .i64 l.adv, .int .i64 l.seq, .slice A9 n9 c9, .slice none 0 0, .int .i64 0, .int .i64 0]) rfl).puts 7 (.slice B9 m9 d9) (cs' := #[.int .i64 l.age, .int .i64 l.options, .int .i64 l.typ, .int .i64 l.id, .int .i64 l.adv, .int .i64 l.seq, .slice A9 n9 c9, .slice B9 m9 d9, .int .i64 0, .int .i64 0]) rfl).puts 8 (.int .i64 l.mask) (cs' := #[.int .i64 l.age, .int .i64 l.options, .int .i64 l.typ, .int .i64 l.id, .int .i64 l.adv, .int .i64 l.seq, .slice A9 n9 c9, .slice B9 m9 d9, .int .i64 l.mask, .int .i64 0]) rfl).puts 9 (.int .i64 l.cost) (cs' := #[.int .i64 l.age, .int .i64 l.options, .int .i64 l.typ, .int .i64 l.id, .int .i64 l.adv, .int .i64 l.seq, .slice A9 n9 c9, .slice B9 m9 d9, .int .i64 l.mask, .int .i64 l.cost]) rfl)
      replace HD := HD.only ho (by have := Y7.out; omega)
      replace HX2 := HX2.only ho (by have := Y7.out; omega)
      replace HA := HA.only ho (by have := Y7.out; omega)
      replace HX3 := HX3.only ho (by have := Y7.out; omega)
      replace HK := HK.only ho (by have := Y7.out; omega)
      replace HB := Lib.hid (Below.only HB.out ho (by have := Y7.out; omega) HB.out.size)
      have Z9 : Hid (U6.heap.size = uu1.heap.size) := Lib.hid (by rw [hU6]; simp [World.setCell]); clear ho
      have Y8 := Lib.hid (And.intro Y7.out Z9.out); clear Y7 Z9
      obtain ⟨U7, hU7⟩ : ∃ W : World, W = ((((((((((U6.setCell ⟨w.heap.size + 1, 0, none⟩ (.int .i64 k.age)).setCell ⟨w.heap.size + 1, 1, none⟩ (.int .i64 k.options)).setCell ⟨w.heap.size + 1, 2, none⟩ (.int .i64 k.typ)).setCell ⟨w.heap.size + 1, 3, none⟩ (.int .i64 k.id)).setCell ⟨w.heap.size + 1, 4, none⟩ (.int .i64 k.adv)).setCell ⟨w.heap.size + 1, 5, none⟩ (.int .i64 k.seq)).setCell ⟨w.heap.size + 1, 6, none⟩ (.slice A2 n2 c2)).setCell ⟨w.heap.size + 1, 7, none⟩ (.slice B2 m2 d2)).setCell ⟨w.heap.size + 1, 8, none⟩ (.int .i64 k.mask)).setCell ⟨w.heap.size + 1, 9, none⟩ (.int .i64 k.cost)) := ⟨_, rfl⟩
      have ho : Only (w.heap.size + 1) (w.heap.size + 1 + 1) U6 U7 := by rw [hU7]; exact (((((((((((Only.refl _ _ _).set (p := ⟨w.heap.size + 1, 0, none⟩) (Nat.le_refl _) (Nat.lt_succ_self _) _).set (p := ⟨w.heap.size + 1, 1, none⟩) (Nat.le_refl _) (Nat.lt_succ_self _) _).set (p := ⟨w.heap.size + 1, 2, none⟩) (Nat.le_refl _) (Nat.lt_succ_self _) _).set (p := ⟨w.heap.size + 1, 3, none⟩) (Nat.le_refl _) (Nat.lt_succ_self _) _).set (p := ⟨w.heap.size + 1, 4, none⟩) (Nat.le_refl _) (Nat.lt_succ_self _) _).set (p := ⟨w.heap.size + 1, 5, none⟩) (Nat.le_refl _) (Nat.lt_succ_self _) _).set (p := ⟨w.heap.size + 1, 6, none⟩) (Nat.le_refl _) (Nat.lt_succ_self _) _).set (p := ⟨w.heap.size + 1, 7, none⟩) (Nat.le_refl _) (Nat.lt_succ_self _) _).set (p := ⟨w.heap.size + 1, 8, none⟩) (Nat.le_refl _) (Nat.lt_succ_self _) _).set (p := ⟨w.heap.size + 1, 9, none⟩) (Nat.le_refl _) (Nat.lt_succ_self _) _)
      replace HX2 : Kept (w.heap.size + 1) (w.heap.size + 1 + 1) (BoxK (w.heap.size + 1) 29 #[.int .i64 k.age, .int .i64 k.options, .int .i64 k.typ, .int .i64 k.id, .int .i64 k.adv, .int .i64 k.seq, .slice A2 n2 c2, .slice B2 m2 d2, .int .i64 k.mask, .int .i64 k.cost]) U7 := by rw [hU7]; exact Kept.box ((((((((((HX2.bx.puts 0 (.int .i64 k.age) (cs' := #[.int .i64 k.age, .int .i64 0, .int .i64 0, .int .i64 0, .int .i64 0, .int .i64 0, .slice none 0 0, .slice none 0 0, .int .i64 0, .int .i64 0]) rfl).puts 1 (.int .i64 k.options) (cs' := #[.int .i64 k.age, .int .i64 k.options, .int .i64 0, .int .i64 0, .int .i64 0, .int .i64 0, .slice none 0 0, .slice none 0 0, .int .i64 0, .int .i64 0]) rfl).puts 2 (.int .i64 k.typ) (cs' := #[.int .i64 k.age, .int .i64 k.options, .int .i64 k.typ, .int .i64 0, .int .i64 0, .int .i64 0, .slice none 0 0, .slice none 0 0, .int .i64 0, .int .i64 0]) rfl).puts 3 (.int .i64 k.id) (cs' := #[.int .i64 k.age, .int .i64 k.options, .int .i64 k.typ, .int .i64 k.id, .int .i64 0, .int .i64 0, .slice none 0 0, .slice none 0 0, .int .i64 0, .int .i64 0]) rfl).puts 4 (.int .i64 k.adv) (cs' := #[.int .i64 k.age, .int .i64 k.options, .int .i64 k.typ, .int .i64 k.id, .int .i64 k.adv, .int .i64 0, .slice none 0 0, .slice none 0 0, .int .i64 0, .int .i64 0]) rfl).puts 5 (.int .i64 k.seq) (cs' := #[.int .i64 k.age, .int .i64 k.options, .int .i64 k.typ, .int .i64 k.id, .int .i64 k.adv, .int .i64 k.seq, .slice none 0 0, .slice none 0 0, .int .i64 0, .int .i64 0]) rfl).puts 6 (.slice A2 n2 c2) (cs' := #[.int .i64 k.age, .int .i64 k.options, .int .i64 k.typ, .int .i64 k.id, .int .i64 k.adv, .int .i64 k.seq, .slice A2 n2 c2, .slice none 0 0, .int .i64 0, .int .i64 0]) rfl).puts 7 (.slice B2 m2 d2) (cs' := #[.int .i64 k.age, .int .i64 k.options, .int .i64 k.typ, .int .i64 k.id, .int .i64 k.adv, .int .i64 k.seq, .slice A2 n2 c2, .slice B2 m2 d2, .int .i64 0, .int .i64 0]) rfl).puts 8 (.int .i64 k.mask) (cs' := #[.int .i64 k.age, .int .i64 k.options, .int .i64 k.typ, .int .i64 k.id, .int .i64 k.adv, .int .i64 k.seq, .slice A2 n2 c2, .slice B2 m2 d2, .int .i64 k.mask, .int .i64 0]) rfl).puts 9 (.int .i64 k.cost) (cs' := #[.int .i64 k.age, .int .i64 k.options, .int .i64 k.typ, .int .i64 k.id, .int .i64 k.adv, .int .i64 k.seq, .slice A2 n2 c2, .slice B2 m2 d2, .int .i64 k.mask, .int .i64 k.cost]) rfl)
      replace HD := HD.only ho (by have := Y8.out; omega)
      replace HX1 := HX1.only ho (by have := Y8.out; omega)
      replace HA := HA.only ho (by have := Y8.out; omega)
      replace HX3 := HX3.only ho (by have := Y8.out; omega)
      replace HK := HK.only ho (by have := Y8.out; omega)
      replace HB := Lib.hid (Below.only HB.out ho (by have := Y8.out; omega) HB.out.size)
      have Z10 : Hid (U7.heap.size = U6.heap.size) := Lib.hid (by rw [hU7]; simp [World.setCell]); clear ho
      have Y9 := Lib.hid (And.intro Y8.out Z10.out); clear Y8 Z10
      have q0_0 := HX1.look 0
      have q0_1 := HX1.look 1
      have q0_2 := HX1.look 2
      have q0_3 := HX1.look 3
      have q0_4 := HX1.look 4
      have q0_5 := HX1.look 5
      have q0_6 := HX1.look 6
      have q0_7 := HX1.look 7
      have q0_8 := HX1.look 8
      have q0_9 := HX1.look 9
      have q1_0 := HX2.look 0
      have q1_1 := HX2.look 1
      have q1_2 := HX2.look 2
      have q1_3 := HX2.look 3
      have q1_4 := HX2.look 4
      have q1_5 := HX2.look 5
      have q1_6 := HX2.look 6
      have q1_7 := HX2.look 7
      have q1_8 := HX2.look 8
      have q1_9 := HX2.look 9
      have fin : ∀ e, e = Ending.returned (.tuple #[.agg (lsaCells ⟨l.age, l.options, l.typ, l.id, l.adv, l.seq, l.links, l.routers, l.mask, l.cost⟩ A9 B9 n9 c9 m9 d9), .agg (lsaCells ⟨k.age, k.options, k.typ, k.id, k.adv, k.seq, k.links, k.routers, k.mask, k.cost⟩ A2 B2 n2 c2 m2 d2)]) → (TwoOut w e U7) := by rintro _ rfl; exact ⟨_, _, _, _, _, _, _, _, _, _, _, _, _, _, rfl, LsaAt.wide (lo' := w.heap.size) (hi' := U7.heap.size) HA.lsa rfl rfl (by have := Y9.out; omega) (by have := Y9.out; omega) (Nat.le_refl _), LsaAt.wide (lo' := w.heap.size) (hi' := U7.heap.size) HK.lsa rfl rfl (by have := Y9.out; omega) (by have := Y9.out; omega) (Nat.le_refl _), by omega, by omega, by omega, by omega, HB.out⟩
      subst hU7 hU6
      exact bodyPost_ret (v := .tuple #[.agg (lsaCells ⟨l.age, l.options, l.typ, l.id, l.adv, l.seq, l.links, l.routers, l.mask, l.cost⟩ A9 B9 n9 c9 m9 d9), .agg (lsaCells ⟨k.age, k.options, k.typ, k.id, k.adv, k.seq, k.links, k.routers, k.mask, k.cost⟩ A2 B2 n2 c2 m2 d2)]) (by simp [results, Try.results17, go_sem, lsaCells, q0_0, q0_1, q0_2, q0_3, q0_4, q0_5, q0_6, q0_7, q0_8, q0_9, q1_0, q1_1, q1_2, q1_3, q1_4, q1_5, q1_6, q1_7, q1_8, q1_9]) rfl (fin _ rfl)
  · have l4_0 := HX1.bx.lt
    have l4_1 := HX2.bx.lt
    have l4_2 := HX3.bx.lt
    go_wp2_with fail
    clear l4_0 l4_1 l4_2
    clear HS
    have V0 : Hid (Below w5.heap.size w5 w5.drew) := Lib.hid (Below.refl _ _).drew
    have hdz : w5.heap.size ≤ w5.drew.heap.size := Nat.le_refl _
    have hdq : w5.drew.heap.size = w5.heap.size := rfl
    have cl0_HX3_0 := HX3.look 0
    have cl0_HX3_1 := HX3.look 1
    have cl0_HX3_2 := HX3.look 2
    have cl0_HX3_3 := HX3.look 3
    have cl0_HX3_4 := HX3.look 4
    have cl0_HX3_5 := HX3.look 5
    have cl0_HX3_6 := HX3.look 6
    have cl0_HX3_7 := HX3.look 7
    have cl0_HX3_8 := HX3.look 8
    have cl0_HX3_9 := HX3.look 9
    have ll0_HX3 := HX3.bx.lt
    have ll0_HX1 := HX1.bx.lt
    have ll0_HX2 := HX2.bx.lt
    have ne_HX1_HX3 : ¬ w.heap.size = w3.heap.size := (by have := Y5.out; omega)
    have nf_HX3_HX1 : ¬ w3.heap.size = w.heap.size := (by have := Y5.out; omega)
    have ne_HX1_HX2 : ¬ w.heap.size = w.heap.size + 1 := (by have := Y5.out; omega)
    have ne_HX2_HX3 : ¬ w.heap.size + 1 = w3.heap.size := (by have := Y5.out; omega)
    have nf_HX3_HX2 : ¬ w3.heap.size = w.heap.size + 1 := (by have := Y5.out; omega)
    have ne_HX2_HX1 : ¬ w.heap.size + 1 = w.heap.size := (by have := Y5.out; omega)
    go_region_law (first
          | ((show (if Region.wanted (Oper.mk (some 14) _ _ _ _ _) _ = true then _ else _)); go_simp; have PC := l2Copy_any l true _ _ A9 B9 n9 c9 m9 d9 (w5.drew) (HA.below V0.out).lsa (by omega) (by omega); with_reducible refine PC.mono ?_; clear PC; rintro e uu0 ⟨A2, B2, c2, d2, rfl, ht, hb⟩; replace HD := HD.below V0.out; replace HX1 := HX1.below V0.out; replace HX2 := HX2.below V0.out; replace HA := HA.below V0.out; replace HX3 := HX3.below V0.out; replace HB := Lib.hid (below_step HB.out V0.out); have Z7 := Lib.hid (Nat.le_trans hdz hb.size); have Y6 := Lib.hid (And.intro Y5.out Z7.out); clear Y5 Z7; replace HD := HD.below hb; replace HX1 := HX1.below hb; replace HX2 := HX2.below hb; replace HA := HA.below hb; replace HX3 := HX3.below hb; replace HB := Lib.hid (below_step HB.out hb); clear hb; have HK := ht.at_.kept; clear ht; have cl1_HX3_0 := HX3.look 0; have cl1_HX3_1 := HX3.look 1; have cl1_HX3_2 := HX3.look 2; have cl1_HX3_3 := HX3.look 3; have cl1_HX3_4 := HX3.look 4; have cl1_HX3_5 := HX3.look 5; have cl1_HX3_6 := HX3.look 6; have cl1_HX3_7 := HX3.look 7; have cl1_HX3_8 := HX3.look 8; have cl1_HX3_9 := HX3.look 9; have ll1_HX3 := HX3.bx.lt; have ll1_HX1 := HX1.bx.lt; have ll1_HX2 := HX2.bx.lt; have cs1_HX1_0 := HX1.look 0; have fs1_HX1_0 := HX1.free 0; have cs1_HX1_1 := HX1.look 1; have fs1_HX1_1 := HX1.free 1; have cs1_HX1_2 := HX1.look 2; have fs1_HX1_2 := HX1.free 2; have cs1_HX1_3 := HX1.look 3; have fs1_HX1_3 := HX1.free 3; have cs1_HX1_4 := HX1.look 4; have fs1_HX1_4 := HX1.free 4; have cs1_HX1_5 := HX1.look 5; have fs1_HX1_5 := HX1.free 5; have cs1_HX1_6 := HX1.look 6; have fs1_HX1_6 := HX1.free 6; have cs1_HX1_7 := HX1.look 7; have fs1_HX1_7 := HX1.free 7; have cs1_HX1_8 := HX1.look 8; have fs1_HX1_8 := HX1.free 8; have cs1_HX1_9 := HX1.look 9; have fs1_HX1_9 := HX1.free 9; have cs1_HX2_0 := HX2.look 0; have fs1_HX2_0 := HX2.free 0; have cs1_HX2_1 := HX2.look 1; have fs1_HX2_1 := HX2.free 1; have cs1_HX2_2 := HX2.look 2; have fs1_HX2_2 := HX2.free 2; have cs1_HX2_3 := HX2.look 3; have fs1_HX2_3 := HX2.free 3; have cs1_HX2_4 := HX2.look 4; have fs1_HX2_4 := HX2.free 4; have cs1_HX2_5 := HX2.look 5; have fs1_HX2_5 := HX2.free 5; have cs1_HX2_6 := HX2.look 6; have fs1_HX2_6 := HX2.free 6; have cs1_HX2_7 := HX2.look 7; have fs1_HX2_7 := HX2.free 7; have cs1_HX2_8 := HX2.look 8; have fs1_HX2_8 := HX2.free 8; have cs1_HX2_9 := HX2.look 9; have fs1_HX2_9 := HX2.free 9))
    all_goals
      have l5_0 := HX1.bx.lt
      have l5_1 := HX2.bx.lt
      have l5_2 := HX3.bx.lt
      go_wp2
      clear l5_0 l5_1 l5_2
      obtain ⟨U6, hU6⟩ : ∃ W : World, W = ((((((((((uu0.setCell ⟨w.heap.size, 0, none⟩ (.int .i64 l.age)).setCell ⟨w.heap.size, 1, none⟩ (.int .i64 l.options)).setCell ⟨w.heap.size, 2, none⟩ (.int .i64 l.typ)).setCell ⟨w.heap.size, 3, none⟩ (.int .i64 l.id)).setCell ⟨w.heap.size, 4, none⟩ (.int .i64 l.adv)).setCell ⟨w.heap.size, 5, none⟩ (.int .i64 l.seq)).setCell ⟨w.heap.size, 6, none⟩ (.slice A9 n9 c9)).setCell ⟨w.heap.size, 7, none⟩ (.slice B9 m9 d9)).setCell ⟨w.heap.size, 8, none⟩ (.int .i64 l.mask)).setCell ⟨w.heap.size, 9, none⟩ (.int .i64 l.cost)) := ⟨_, rfl⟩
      have ho : Only w.heap.size (w.heap.size + 1) uu0 U6 := by rw [hU6]; exact (((((((((((Only.refl _ _ _).set (p := ⟨w.heap.size, 0, none⟩) (Nat.le_refl _) (Nat.lt_succ_self _) _).set (p := ⟨w.heap.size, 1, none⟩) (Nat.le_refl _) (Nat.lt_succ_self _) _).set (p := ⟨w.heap.size, 2, none⟩) (Nat.le_refl _) (Nat.lt_succ_self _) _).set (p := ⟨w.heap.size, 3, none⟩) (Nat.le_refl _) (Nat.lt_succ_self _) _).set (p := ⟨w.heap.size, 4, none⟩) (Nat.le_refl _) (Nat.lt_succ_self _) _).set (p := ⟨w.heap.size, 5, none⟩) (Nat.le_refl _) (Nat.lt_succ_self _) _).set (p := ⟨w.heap.size, 6, none⟩) (Nat.le_refl _) (Nat.lt_succ_self _) _).set (p := ⟨w.heap.size, 7, none⟩) (Nat.le_refl _) (Nat.lt_succ_self _) _).set (p := ⟨w.heap.size, 8, none⟩) (Nat.le_refl _) (Nat.lt_succ_self _) _).set (p := ⟨w.heap.size, 9, none⟩) (Nat.le_refl _) (Nat.lt_succ_self _) _)
      replace HX1 : Kept w.heap.size (w.heap.size + 1) (BoxK w.heap.size 29 #[.int .i64 l.age, .int .i64 l.options, .int .i64 l.typ, .int .i64 l.id, .int .i64 l.adv, .int .i64 l.seq, .slice A9 n9 c9, .slice B9 m9 d9, .int .i64 l.mask, .int .i64 l.cost]) U6 := by rw [hU6]; exact Kept.box ((((((((((HX1.bx.puts 0 (.int .i64 l.age) (cs' := #[.int .i64 l.age, .int .i64 0, .int .i64 0, .int .i64 0, .int .i64 0, .int .i64 0, .slice none 0 0, .slice none 0 0, .int .i64 0, .int .i64 0]) rfl).puts 1 (.int .i64 l.options) (cs' := #[.int .i64 l.age, .int .i64 l.options, .int .i64 0, .int .i64 0, .int .i64 0, .int .i64 0, .slice none 0 0, .slice none 0 0, .int .i64 0, .int .i64 0]) rfl).puts 2 (.int .i64 l.typ) (cs' := #[.int .i64 l.age, .int .i64 l.options, .int .i64 l.typ, .int .i64 0, .int .i64 0, .int .i64 0, .slice none 0 0, .slice none 0 0, .int .i64 0, .int .i64 0]) rfl).puts 3 (.int .i64 l.id) (cs' := #[.int .i64 l.age, .int .i64 l.options, .int .i64 l.typ, .int .i64 l.id, .int .i64 0, .int .i64 0, .slice none 0 0, .slice none 0 0, .int .i64 0, .int .i64 0]) rfl).puts 4 (.int .i64 l.adv) (cs' := #[.int .i64 l.age, .int .i64 l.options, .int .i64 l.typ, .int .i64 l.id, .int .i64 l.adv, .int .i64 0, .slice none 0 0, .slice none 0 0, .int .i64 0, .int .i64 0]) rfl).puts 5 (.int .i64 l.seq) (cs' := #[.int .i64 l.age, .int .i64 l.options, .int .i64 l.typ, .int .i64 l.id, .int .i64 l.adv, .int .i64 l.seq, .slice none 0 0, .slice none 0 0, .int .i64 0, .int .i64 0]) rfl).puts 6 (.slice A9 n9 c9) (cs' := #[.int .i64 l.age, .int .i64 l.options, .int .i64 l.typ, .int .i64 l.id, .int .i64 l.adv, .int .i64 l.seq, .slice A9 n9 c9, .slice none 0 0, .int .i64 0, .int .i64 0]) rfl).puts 7 (.slice B9 m9 d9) (cs' := #[.int .i64 l.age, .int .i64 l.options, .int .i64 l.typ, .int .i64 l.id, .int .i64 l.adv, .int .i64 l.seq, .slice A9 n9 c9, .slice B9 m9 d9, .int .i64 0, .int .i64 0]) rfl).puts 8 (.int .i64 l.mask) (cs' := #[.int .i64 l.age, .int .i64 l.options, .int .i64 l.typ, .int .i64 l.id, .int .i64 l.adv, .int .i64 l.seq, .slice A9 n9 c9, .slice B9 m9 d9, .int .i64 l.mask, .int .i64 0]) rfl).puts 9 (.int .i64 l.cost) (cs' := #[.int .i64 l.age, .int .i64 l.options, .int .i64 l.typ, .int .i64 l.id, .int .i64 l.adv, .int .i64 l.seq, .slice A9 n9 c9, .slice B9 m9 d9, .int .i64 l.mask, .int .i64 l.cost]) rfl)
      replace HD := HD.only ho (by have := Y6.out; omega)
      replace HX2 := HX2.only ho (by have := Y6.out; omega)
      replace HA := HA.only ho (by have := Y6.out; omega)
      replace HX3 := HX3.only ho (by have := Y6.out; omega)
      replace HK := HK.only ho (by have := Y6.out; omega)
      replace HB := Lib.hid (Below.only HB.out ho (by have := Y6.out; omega) HB.out.size)
      have Z8 : Hid (U6.heap.size = uu0.heap.size) := Lib.hid (by rw [hU6]; simp [World.setCell]); clear ho
      have Y7 := Lib.hid (And.intro Y6.out Z8.out); clear Y6 Z8
      obtain ⟨U7, hU7⟩ : ∃ W : World, W = ((((((((((U6.setCell ⟨w.heap.size + 1, 0, none⟩ (.int .i64 l.age)).setCell ⟨w.heap.size + 1, 1, none⟩ (.int .i64 l.options)).setCell ⟨w.heap.size + 1, 2, none⟩ (.int .i64 l.typ)).setCell ⟨w.heap.size + 1, 3, none⟩ (.int .i64 l.id)).setCell ⟨w.heap.size + 1, 4, none⟩ (.int .i64 l.adv)).setCell ⟨w.heap.size + 1, 5, none⟩ (.int .i64 l.seq)).setCell ⟨w.heap.size + 1, 6, none⟩ (.slice A2 n9 c2)).setCell ⟨w.heap.size + 1, 7, none⟩ (.slice B2 m9 d2)).setCell ⟨w.heap.size + 1, 8, none⟩ (.int .i64 l.mask)).setCell ⟨w.heap.size + 1, 9, none⟩ (.int .i64 l.cost)) := ⟨_, rfl⟩
      have ho : Only (w.heap.size + 1) (w.heap.size + 1 + 1) U6 U7 := by rw [hU7]; exact (((((((((((Only.refl _ _ _).set (p := ⟨w.heap.size + 1, 0, none⟩) (Nat.le_refl _) (Nat.lt_succ_self _) _).set (p := ⟨w.heap.size + 1, 1, none⟩) (Nat.le_refl _) (Nat.lt_succ_self _) _).set (p := ⟨w.heap.size + 1, 2, none⟩) (Nat.le_refl _) (Nat.lt_succ_self _) _).set (p := ⟨w.heap.size + 1, 3, none⟩) (Nat.le_refl _) (Nat.lt_succ_self _) _).set (p := ⟨w.heap.size + 1, 4, none⟩) (Nat.le_refl _) (Nat.lt_succ_self _) _).set (p := ⟨w.heap.size + 1, 5, none⟩) (Nat.le_refl _) (Nat.lt_succ_self _) _).set (p := ⟨w.heap.size + 1, 6, none⟩) (Nat.le_refl _) (Nat.lt_succ_self _) _).set (p := ⟨w.heap.size + 1, 7, none⟩) (Nat.le_refl _) (Nat.lt_succ_self _) _).set (p := ⟨w.heap.size + 1, 8, none⟩) (Nat.le_refl _) (Nat.lt_succ_self _) _).set (p := ⟨w.heap.size + 1, 9, none⟩) (Nat.le_refl _) (Nat.lt_succ_self _) _)
      replace HX2 : Kept (w.heap.size + 1) (w.heap.size + 1 + 1) (BoxK (w.heap.size + 1) 29 #[.int .i64 l.age, .int .i64 l.options, .int .i64 l.typ, .int .i64 l.id, .int .i64 l.adv, .int .i64 l.seq, .slice A2 n9 c2, .slice B2 m9 d2, .int .i64 l.mask, .int .i64 l.cost]) U7 := by rw [hU7]; exact Kept.box ((((((((((HX2.bx.puts 0 (.int .i64 l.age) (cs' := #[.int .i64 l.age, .int .i64 0, .int .i64 0, .int .i64 0, .int .i64 0, .int .i64 0, .slice none 0 0, .slice none 0 0, .int .i64 0, .int .i64 0]) rfl).puts 1 (.int .i64 l.options) (cs' := #[.int .i64 l.age, .int .i64 l.options, .int .i64 0, .int .i64 0, .int .i64 0, .int .i64 0, .slice none 0 0, .slice none 0 0, .int .i64 0, .int .i64 0]) rfl).puts 2 (.int .i64 l.typ) (cs' := #[.int .i64 l.age, .int .i64 l.options, .int .i64 l.typ, .int .i64 0, .int .i64 0, .int .i64 0, .slice none 0 0, .slice none 0 0, .int .i64 0, .int .i64 0]) rfl).puts 3 (.int .i64 l.id) (cs' := #[.int .i64 l.age, .int .i64 l.options, .int .i64 l.typ, .int .i64 l.id, .int .i64 0, .int .i64 0, .slice none 0 0, .slice none 0 0, .int .i64 0, .int .i64 0]) rfl).puts 4 (.int .i64 l.adv) (cs' := #[.int .i64 l.age, .int .i64 l.options, .int .i64 l.typ, .int .i64 l.id, .int .i64 l.adv, .int .i64 0, .slice none 0 0, .slice none 0 0, .int .i64 0, .int .i64 0]) rfl).puts 5 (.int .i64 l.seq) (cs' := #[.int .i64 l.age, .int .i64 l.options, .int .i64 l.typ, .int .i64 l.id, .int .i64 l.adv, .int .i64 l.seq, .slice none 0 0, .slice none 0 0, .int .i64 0, .int .i64 0]) rfl).puts 6 (.slice A2 n9 c2) (cs' := #[.int .i64 l.age, .int .i64 l.options, .int .i64 l.typ, .int .i64 l.id, .int .i64 l.adv, .int .i64 l.seq, .slice A2 n9 c2, .slice none 0 0, .int .i64 0, .int .i64 0]) rfl).puts 7 (.slice B2 m9 d2) (cs' := #[.int .i64 l.age, .int .i64 l.options, .int .i64 l.typ, .int .i64 l.id, .int .i64 l.adv, .int .i64 l.seq, .slice A2 n9 c2, .slice B2 m9 d2, .int .i64 0, .int .i64 0]) rfl).puts 8 (.int .i64 l.mask) (cs' := #[.int .i64 l.age, .int .i64 l.options, .int .i64 l.typ, .int .i64 l.id, .int .i64 l.adv, .int .i64 l.seq, .slice A2 n9 c2, .slice B2 m9 d2, .int .i64 l.mask, .int .i64 0]) rfl).puts 9 (.int .i64 l.cost) (cs' := #[.int .i64 l.age, .int .i64 l.options, .int .i64 l.typ, .int .i64 l.id, .int .i64 l.adv, .int .i64 l.seq, .slice A2 n9 c2, .slice B2 m9 d2, .int .i64 l.mask, .int .i64 l.cost]) rfl)
      replace HD := HD.only ho (by have := Y7.out; omega)
      replace HX1 := HX1.only ho (by have := Y7.out; omega)
      replace HA := HA.only ho (by have := Y7.out; omega)
      replace HX3 := HX3.only ho (by have := Y7.out; omega)
      replace HK := HK.only ho (by have := Y7.out; omega)
      replace HB := Lib.hid (Below.only HB.out ho (by have := Y7.out; omega) HB.out.size)
      have Z9 : Hid (U7.heap.size = U6.heap.size) := Lib.hid (by rw [hU7]; simp [World.setCell]); clear ho
      have Y8 := Lib.hid (And.intro Y7.out Z9.out); clear Y7 Z9
      have q0_0 := HX1.look 0
      have q0_1 := HX1.look 1
      have q0_2 := HX1.look 2
      have q0_3 := HX1.look 3
      have q0_4 := HX1.look 4
      have q0_5 := HX1.look 5
      have q0_6 := HX1.look 6
      have q0_7 := HX1.look 7
      have q0_8 := HX1.look 8
      have q0_9 := HX1.look 9
      have q1_0 := HX2.look 0
      have q1_1 := HX2.look 1
      have q1_2 := HX2.look 2
      have q1_3 := HX2.look 3
      have q1_4 := HX2.look 4
      have q1_5 := HX2.look 5
      have q1_6 := HX2.look 6
      have q1_7 := HX2.look 7
      have q1_8 := HX2.look 8
      have q1_9 := HX2.look 9
      have fin : ∀ e, e = Ending.returned (.tuple #[.agg (lsaCells ⟨l.age, l.options, l.typ, l.id, l.adv, l.seq, l.links, l.routers, l.mask, l.cost⟩ A9 B9 n9 c9 m9 d9), .agg (lsaCells ⟨l.age, l.options, l.typ, l.id, l.adv, l.seq, l.links, l.routers, l.mask, l.cost⟩ A2 B2 n9 c2 m9 d2)]) → (TwoOut w e U7) := by rintro _ rfl; exact ⟨_, _, _, _, _, _, _, _, _, _, _, _, _, _, rfl, LsaAt.wide (lo' := w.heap.size) (hi' := U7.heap.size) HA.lsa rfl rfl (by have := Y8.out; omega) (by have := Y8.out; omega) (Nat.le_refl _), LsaAt.wide (lo' := w.heap.size) (hi' := U7.heap.size) HK.lsa rfl rfl (by have := Y8.out; omega) (by have := Y8.out; omega) (Nat.le_refl _), by omega, by omega, by omega, by omega, HB.out⟩
      subst hU7 hU6
      exact bodyPost_ret (v := .tuple #[.agg (lsaCells ⟨l.age, l.options, l.typ, l.id, l.adv, l.seq, l.links, l.routers, l.mask, l.cost⟩ A9 B9 n9 c9 m9 d9), .agg (lsaCells ⟨l.age, l.options, l.typ, l.id, l.adv, l.seq, l.links, l.routers, l.mask, l.cost⟩ A2 B2 n9 c2 m9 d2)]) (by simp [results, Try.results17, go_sem, lsaCells, q0_0, q0_1, q0_2, q0_3, q0_4, q0_5, q0_6, q0_7, q0_8, q0_9, q1_0, q1_1, q1_2, q1_3, q1_4, q1_5, q1_6, q1_7, q1_8, q1_9]) rfl (fin _ rfl)


end Go.Proofs.Ytamclkjofojhmaa

