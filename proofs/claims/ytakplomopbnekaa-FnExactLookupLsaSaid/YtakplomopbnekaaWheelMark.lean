/-
  Marks in wheels and in what is answered with a wheel. No statement is proved here.
-/
import Derived.Test.YtakplomopbnekaaWheelLaws
namespace Go.Proofs.Ytakplomopbnekaa
open Go.RowKit
set_option linter.unusedVariables false

theorem OnlyB.of_below {bs : List Nat} {w w' : World} (h : Below w.heap.size w w') : OnlyB bs w w' := ⟨h.os, h.tape, h.output, h.size, fun b hb _ => h.block b hb⟩
theorem OnlyB.mono {bs cs : List Nat} {w w' : World} (h : OnlyB bs w w') (k : ∀ b ∈ bs, b ∈ cs) : OnlyB cs w w' := ⟨h.os, h.tape, h.output, h.size, fun b hb hn => h.block b hb fun hx => hn (k b hx)⟩
theorem SameB.of_onlyB {bs cs : List Nat} {w w' : World} (h : OnlyB bs w w') (hd : ∀ b ∈ cs, b ∉ bs) (hl : ∀ b ∈ cs, b < w.heap.size) : SameB cs w w' := fun b hb => h.block b (hl b hb) (hd b hb)
theorem SameB.of_below {cs : List Nat} {w w' : World} (h : Below w.heap.size w w') (hl : ∀ b ∈ cs, b < w.heap.size) : SameB cs w w' := fun b hb => h.block b (hl b hb)
theorem Box.onlyB {w w' : World} {g : Nat} {t : TypeId} {cs : Array Value} {bs : List Nat} (hb : Box w g t cs) (ho : OnlyB bs w w') (hd : g ∉ bs) : Box w' g t cs := (ho.block g hb.lt hd).trans hb

set_option maxHeartbeats 800000 in
theorem markWheel_F (A : Option Addr) (n c : Nat) (ys : List (List Tmr)) (bs : List Nat) (now k0 : Int) (w : World) (ha : Rep.timer.FRows w A n ys bs) (hd : bs.Nodup) (hb : ∀ b ∈ bs, b < w.heap.size) (hn : n ≤ 1048576) (ht : tot ys ≤ 1048576) (h0 : 0 ≤ k0) (h1 : k0 ≤ 1048576) :
    Calls Try.prog 45 #[.agg #[.int .i64 now, .slice A n c], .int .i64 k0] w fun e w' => e = .returned (.int .i64 (k0 + 4 * (tot ys : Int))) ∧ (∃ zs, Marked k0 ys zs ∧ Rep.timer.FRows w' A n zs bs) ∧ OnlyB bs w w' := by
  obtain ⟨V, hV⟩ : ∃ W : World, W = w.alloc (.cells #[.int .i64 now, .slice A n c] 26) := ⟨_, rfl⟩
  have hbV : Below w.heap.size w V := by rw [hV]; exact (Below.refl _ _).alloc (Nat.le_refl _) _
  have HL := Lib.hid (ha.keep (SameB.of_below hbV hb))
  have HO : Hid (OnlyB bs w V) := Lib.hid (OnlyB.of_below hbV)
  have HD := Lib.hid hd
  have HBB : Hid (∀ b ∈ bs, b < V.heap.size) := Lib.hid (fun b hx => Nat.lt_of_lt_of_le (hb b hx) hbV.size)
  have HT := Lib.hid ht
  clear hbV ha hd hb ht
  go_enter Try.func45, Try.ntmps45
  go_wp2_with fail
  rw [← hV]
  clear hV
  refine (markTimerSS_any A n c ys bs k0 _ HL.out HD.out HBB.out hn HT.out h0 h1).mono ?_
  rintro e w1 ⟨rfl, hz, ho⟩
  have HZ := Lib.hid hz
  have HO1 := Lib.hid (HO.out.trans ho)
  clear ho hz HO HL
  go_wp2
  go_ret
  exact ⟨rfl, HZ.out, HO1.out⟩

set_option maxHeartbeats 800000 in
theorem markWheelResult_F (A : Option Addr) (n c : Nat) (ys : List (List Tmr)) (bs cs : List Nat) (E : Option Addr) (m d : Nat) (zs : List Tmr) (code now k0 : Int) (w : World) (ha : Rep.timer.FRows w A n ys bs) (he : Rep.timer.FSl w E m zs cs) (hd : (bs ++ cs).Nodup) (hb : ∀ b ∈ bs ++ cs, b < w.heap.size) (hn : n ≤ 1048576) (ht : tot ys ≤ 1048576) (hm : m ≤ 1048576) (h0 : 0 ≤ k0) (h1 : k0 ≤ 1048576) :
    Calls Try.prog 46 #[.agg #[.int .i64 code, .int .i64 now, .slice A n c, .slice E m d], .int .i64 k0] w fun e w' => e = .returned (.int .i64 (k0 + 4 * (tot ys : Int) + 4 * m)) ∧
      (∃ us, Marked k0 ys us ∧ Rep.timer.FRows w' A n us bs) ∧ Rep.timer.FSl w' E m (mTimers (k0 + 4 * (tot ys : Int)) m) cs ∧ OnlyB (bs ++ cs) w w' := by
  obtain ⟨V, hV⟩ : ∃ W : World, W = w.alloc (.cells #[.int .i64 code, .int .i64 now, .slice A n c, .slice E m d] 31) := ⟨_, rfl⟩
  have hbV : Below w.heap.size w V := by rw [hV]; exact (Below.refl _ _).alloc (Nat.le_refl _) _
  have hb1 : ∀ b ∈ bs, b < w.heap.size := fun b hx => hb b (by simp [hx])
  have hb2 : ∀ b ∈ cs, b < w.heap.size := fun b hx => hb b (by simp [hx])
  have HX := Lib.hid (show Box V w.heap.size 31 #[.int .i64 code, .int .i64 now, .slice A n c, .slice E m d] by rw [hV]; exact Box.made _ _ _)
  have HL := Lib.hid (ha.keep (SameB.of_below hbV hb1))
  have HE := Lib.hid (he.keep (SameB.of_below hbV hb2))
  have HO : Hid (OnlyB (bs ++ cs) w V) := Lib.hid (OnlyB.of_below hbV)
  have HDD := Lib.hid (List.nodup_append.1 hd)
  have HB1 : Hid (∀ b ∈ bs, b < w.heap.size) := Lib.hid hb1
  have HB2 : Hid (∀ b ∈ cs, b < w.heap.size) := Lib.hid hb2
  have HS := Lib.hid hbV.size
  have HT := Lib.hid ht
  have ht' := ht
  clear hbV ha he hd hb hb1 hb2 ht
  obtain ⟨t, htt⟩ : ∃ t, tot ys = t := ⟨_, rfl⟩
  rw [htt] at ht' ⊢
  have HTT := Lib.hid htt
  clear htt
  go_enter Try.func46, Try.ntmps46
  go_wp2_with fail
  rw [← hV]
  clear hV
  refine (markWheel_F A n c ys bs now k0 _ HL.out HDD.out.1 (fun b hx => Nat.lt_of_lt_of_le (HB1.out b hx) HS.out) hn HT.out h0 h1).mono ?_
  rw [HTT.out]
  rintro e w1 ⟨rfl, hz, ho⟩
  have HZ := Lib.hid hz
  have HE1 := Lib.hid (HE.out.keep (SameB.of_onlyB ho (fun b hb hx => HDD.out.2.2 b hx b hb rfl) (fun b hx => Nat.lt_of_lt_of_le (HB2.out b hx) HS.out)))
  have HX1 := Lib.hid (HX.out.onlyB ho (fun hx => by have := HB1.out _ hx; omega))
  have HO1 := Lib.hid (HO.out.trans (ho.mono (fun b hx => List.mem_append_left _ hx)))
  have HS1 := Lib.hid (Nat.le_trans HS.out ho.size)
  clear ho hz HO HL HX HE HS
  have x3 := HX1.out.look 3
  have x2 := HX1.out.look 2
  go_wp2_with fail
  clear x3 x2
  refine (markTimerS_F E m d zs cs (k0 + 4 * (t : Int)) _ HE1.out hm (by omega) (by omega)).mono ?_
  rintro e w2 ⟨rfl, hs, ho⟩
  have HS2 := Lib.hid hs
  obtain ⟨us, hu1, hu2⟩ := HZ.out
  have HR := Lib.hid (hu2.keep (SameB.of_onlyB ho (fun b hb hx => HDD.out.2.2 b hb b hx rfl) (fun b hx => Nat.lt_of_lt_of_le (HB1.out b hx) HS1.out)))
  have HU := Lib.hid hu1
  have HO2 := Lib.hid (HO1.out.trans (ho.mono (fun b hx => List.mem_append_right _ hx)))
  clear ho hs HZ hu1 hu2
  go_wp2
  go_ret
  exact ⟨rfl, ⟨us, HU.out, HR.out⟩, HS2.out, HO2.out⟩

set_option maxHeartbeats 800000 in
theorem heldWheel_yes (q : Bool) (lo hi : Nat) (A : Option Addr) (n c : Nat) (ys zs : List (List Tmr)) (now k0 : Int) (w : World) (hz : Marked k0 ys zs) (ha : Rep.timer.rows.Sl q lo hi w A n zs) (hh : hi ≤ w.heap.size) (hn : n ≤ 1048576) (ht : tot ys ≤ 1048576) (h0 : 0 ≤ k0) (h1 : k0 ≤ 1048576) :
    Calls Try.prog 106 #[.agg #[.int .i64 now, .slice A n c], .int .i64 k0] w fun e w' => e = .returned (.int .i64 (k0 + 4 * (tot ys : Int))) ∧ Below w.heap.size w w' := by
  have HA := Rep.Sl.kept ha hh
  have HM := Lib.hid hz
  have HT := Lib.hid ht
  have ht' := ht
  clear ha hz ht
  obtain ⟨t, htt⟩ : ∃ t, tot ys = t := ⟨_, rfl⟩
  rw [htt] at ht' ⊢
  have HTT := Lib.hid htt
  clear htt
  have hne : ¬ (k0 + 4 * (t : Int) < 0) := by omega
  go_enter Try.func106, Try.ntmps106
  go_wp2_with fail
  refine (heldTimerSS_yes q lo hi A n c ys zs k0 _ HM.out (HA.below ((Below.refl _ _).alloc (Nat.le_refl _) _)).sl hn HT.out h0 h1).mono ?_
  rw [HTT.out]
  rintro e w2 ⟨rfl, rfl⟩
  go_wp2
  go_ret
  exact ⟨rfl, (Below.refl _ _).alloc (Nat.le_refl _) _⟩

set_option maxHeartbeats 800000 in
theorem heldWheelResult_yes (q q' : Bool) (lo hi lo' hi' : Nat) (A : Option Addr) (n c : Nat) (ys zs : List (List Tmr)) (E : Option Addr) (m d : Nat) (code now k0 : Int) (w : World) (hz : Marked k0 ys zs) (ha : Rep.timer.rows.Sl q lo hi w A n zs) (hh : hi ≤ w.heap.size) (he : Rep.timer.Sl q' lo' hi' w E m (mTimers (k0 + 4 * (tot ys : Int)) m)) (hh' : hi' ≤ w.heap.size) (hn : n ≤ 1048576) (ht : tot ys ≤ 1048576) (hm : m ≤ 1048576) (h0 : 0 ≤ k0) (h1 : k0 ≤ 1048576) :
    Calls Try.prog 47 #[.agg #[.int .i64 code, .int .i64 now, .slice A n c, .slice E m d], .int .i64 k0] w fun e w' => e = .returned (.int .i64 (k0 + 4 * (tot ys : Int) + 4 * m)) ∧ Below w.heap.size w w' := by
  have HA := Rep.Sl.kept ha hh
  have HE := Rep.Sl.kept he hh'
  have HM := Lib.hid hz
  have HT := Lib.hid ht
  have ht' := ht
  clear ha hz ht he
  obtain ⟨t, htt⟩ : ∃ t, tot ys = t := ⟨_, rfl⟩
  rw [htt] at ht' HE ⊢
  have HTT := Lib.hid htt
  clear htt
  have hne : ¬ (k0 + 4 * (t : Int) < 0) := by omega
  have hne2 : ¬ (k0 + 4 * (t : Int) + 4 * (m : Int) < 0) := by omega
  have hbV : Below w.heap.size w (w.alloc (.cells #[.int .i64 code, .int .i64 now, .slice A n c, .slice E m d] 31)) := (Below.refl _ _).alloc (Nat.le_refl _) _
  have HBV := Lib.hid hbV
  have HX := Lib.hid (Box.made w 31 #[.int .i64 code, .int .i64 now, .slice A n c, .slice E m d])
  clear hbV
  go_enter Try.func47, Try.ntmps47
  go_wp2_with fail
  refine (heldWheel_yes q lo hi A n c ys zs now k0 _ HM.out (HA.below HBV.out).sl (HA.below HBV.out).le hn HT.out h0 h1).mono ?_
  rw [HTT.out]
  rintro e w2 ⟨rfl, hb2⟩
  have HX2 := Lib.hid (HX.out.below hb2)
  have HB2 := Lib.hid (below_step HBV.out hb2)
  clear hb2
  have x3 := HX2.out.look 3
  go_wp2_with fail
  clear x3
  refine (heldTimerS_yes q' lo' hi' E m d (k0 + 4 * (t : Int)) _ (HE.below HB2.out).sl hm (by omega) (by omega)).mono ?_
  rintro e w3 ⟨rfl, rfl⟩
  go_wp2
  go_ret
  exact ⟨rfl, HB2.out⟩

end Go.Proofs.Ytakplomopbnekaa
