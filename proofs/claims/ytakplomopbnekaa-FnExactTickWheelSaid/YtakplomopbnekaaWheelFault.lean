/-
  What the program's WheelFault answers. No statement is proved here.
-/
import Derived.Test.YtakplomopbnekaaSlotF
import Derived.Test.YtakplomopbnekaaTwins
namespace Go.Proofs.Ytakplomopbnekaa
open Go.RowKit Go.Shelf
set_option linter.unusedVariables false

/-- The first slot's fault, from place i on. -/
def slotsF (now : Int) : Nat → List (List Tmr) → Int
  | _, [] => 0
  | i, y :: r => if slotF now i y = 0 then slotsF now (i + 1) r else slotF now i y
/-- What WheelFault answers. -/
def faultW (now : Int) (ys : List (List Tmr)) : Int :=
  if ¬ nwOk now then 3 else if ys.length ≠ 24 ∨ 60 < tot ys then 2 else if slotsF now 0 ys ≠ 0 then slotsF now 0 ys else if twinB ys.flatten = true then 8 else 0

theorem slotsF_all (now : Int) : ∀ (ys : List (List Tmr)) (i : Nat), (∀ k y, ys[k]? = some y → slotF now ((i + k : Nat) : Int) y = 0) → slotsF now i ys = 0
  | [], _, _ => rfl
  | y :: r, i, h => by
    have h0 := h 0 y rfl
    simp only [Nat.add_zero] at h0
    unfold slotsF
    rw [if_pos h0]
    refine slotsF_all now r (i + 1) fun k z hz => ?_
    have := h (k + 1) z (by simpa using hz)
    rwa [show i + (k + 1) = i + 1 + k by omega] at this
theorem slotsF_first (now : Int) : ∀ (ys : List (List Tmr)) (i k : Nat) (y : List Tmr), ys[k]? = some y → (∀ j z, j < k → ys[j]? = some z → slotF now ((i + j : Nat) : Int) z = 0) → slotF now ((i + k : Nat) : Int) y ≠ 0 → slotsF now i ys = slotF now ((i + k : Nat) : Int) y
  | [], _, _, _, h, _, _ => by simp at h
  | x :: r, i, 0, y, h, _, hn => by
    obtain rfl : x = y := by simpa using h
    simp only [Nat.add_zero] at hn ⊢
    unfold slotsF
    rw [if_neg hn]
  | x :: r, i, k + 1, y, h, hz, hn => by
    have h0 := hz 0 x (by omega) rfl
    simp only [Nat.add_zero] at h0
    unfold slotsF
    rw [if_pos h0]
    have := slotsF_first now r (i + 1) k y (by simpa using h) (fun j z hj hjz => by
      have := hz (j + 1) z (by omega) (by simpa using hjz)
      rwa [show i + (j + 1) = i + 1 + j by omega] at this) (by rwa [show i + 1 + k = i + (k + 1) by omega])
    rw [this, show i + 1 + k = i + (k + 1) by omega]
theorem cntP_upto (ys : List (List Tmr)) {k : Nat} (hk : k ≤ 24) (hl : ys.length = 24) : cntP (fun j => (ys.getD j []).length) (upto k) = tot (ys.take k) := by
  induction k with
  | zero => simp [upto, cntP, tot]
  | succ k ih =>
    have hy := List.getElem?_eq_getElem (show k < ys.length by omega)
    rw [upto_succ (by omega), cntP_snoc, ih (by omega), tot_take ys k _ hy]
    simp [List.getD, hy]
theorem rowsP_upto (ys : List (List Tmr)) {k : Nat} (hk : k ≤ 24) (hl : ys.length = 24) : rowsP (fun j => ys.getD j []) (upto k) = (ys.take k).flatten := by
  induction k with
  | zero => simp [upto, rowsP]
  | succ k ih =>
    have hkl : k < ys.length := by omega
    rw [upto_succ (by omega), rowsP_snoc, ih (by omega), List.take_succ_eq_append_getElem hkl]
    simp only [List.getD, List.getElem?_eq_getElem hkl, Option.getD_some, List.flatten_append, List.flatten_cons, List.flatten_nil, List.append_nil]
theorem map_upto (ys : List (List Tmr)) {k : Nat} (hk : k ≤ 24) (hl : ys.length = 24) : ((upto k).map fun x => ys.getD x.1 []) = ys.take k := by
  induction k with
  | zero => simp [upto]
  | succ k ih =>
    have hkl : k < ys.length := by omega
    rw [upto_succ (by omega), List.map_append, ih (by omega), List.take_succ_eq_append_getElem hkl]
    simp only [List.map_cons, List.map_nil, List.getD, List.getElem?_eq_getElem hkl, Option.getD_some]
theorem cnt24 {ys : List (List Tmr)} (hl : ys.length = 24) : cntP (fun j => (ys.getD j []).length) (upto 24) = tot ys := by rw [cntP_upto ys (Nat.le_refl _) hl, List.take_of_length_le (by omega)]
theorem rows24 {ys : List (List Tmr)} (hl : ys.length = 24) : rowsP (fun j => ys.getD j []) (upto 24) = ys.flatten := by rw [rowsP_upto ys (Nat.le_refl _) hl, List.take_of_length_le (by omega)]
theorem map24 {ys : List (List Tmr)} (hl : ys.length = 24) : ((upto 24).map fun x => ys.getD x.1 []) = ys := by rw [map_upto ys (Nat.le_refl _) hl, List.take_of_length_le (by omega)]
theorem getD_le {ys : List (List Tmr)} (M : Nat) (h : ∀ y ∈ ys, y.length ≤ M) (k : Nat) : (ys.getD k []).length ≤ M := by
  by_cases hk : k < ys.length
  · have hy := List.getElem?_eq_getElem hk
    have := h _ (List.mem_of_getElem? hy)
    simpa [List.getD, hy] using this
  · simp [List.getD, List.getElem?_eq_none (Nat.le_of_not_lt hk)]
theorem getD_tot {ys : List (List Tmr)} (k : Nat) : (ys.getD k []).length ≤ tot ys := by
  by_cases hk : k < ys.length
  · have hy := List.getElem?_eq_getElem hk
    have := tot_at ys k _ hy
    simp [List.getD, hy]; omega
  · simp [List.getD, List.getElem?_eq_none (Nat.le_of_not_lt hk)]
theorem upto_pre2 {k m : Nat} (h : k ≤ m) (hm : m ≤ 24) : upto k <+: upto m := by
  obtain ⟨d, hd⟩ : ∃ d, d + k = m := ⟨m - k, by omega⟩
  induction d generalizing k with
  | zero => rw [show k = m by omega]; exact List.prefix_refl _
  | succ d ih => exact List.IsPrefix.trans (by rw [upto_succ (by omega)]; exact List.prefix_append _ _) (ih (k := k + 1) (by omega) (by omega))
theorem upto_mem {k : Nat} (h : k < 24) : (⟨k, h⟩ : S24) ∈ upto 24 := by
  obtain ⟨t, ht⟩ := upto_pre (k := k + 1) (by omega)
  rw [← ht, upto_succ h]
  simp
theorem pre_of {pre : List S24} {x : S24} (h : pre ++ [x] <+: upto 24) : pre = upto pre.length ∧ x.1 = pre.length := by
  obtain ⟨t, ht⟩ := h
  have hl : pre.length < 24 := by
    have := congrArg List.length ht
    rw [upto_len (Nat.le_refl _)] at this
    simp at this; omega
  obtain ⟨t', ht'⟩ := upto_pre (k := pre.length + 1) (by omega)
  have e : pre ++ [x] = upto (pre.length + 1) := by
    have h1 : (pre ++ [x] ++ t).take (pre.length + 1) = pre ++ [x] := by rw [List.take_append_of_le_length (by simp), List.take_of_length_le (by simp)]
    have h2 : (upto (pre.length + 1) ++ t').take (pre.length + 1) = upto (pre.length + 1) := by
      have := upto_len (k := pre.length + 1) (by omega)
      rw [List.take_append_of_le_length (by omega), List.take_of_length_le (by omega)]
    rw [← h1, ← h2, ht, ht']
  rw [upto_succ hl] at e
  obtain ⟨e1, e2⟩ := List.append_inj e (by rw [upto_len (by omega)])
  refine ⟨e1, ?_⟩
  injection e2 with e2
  rw [e2]

section
attribute [local go_sem] Oper.semAt_some

set_option maxRecDepth 100000 in
set_option maxHeartbeats 4000000 in
theorem wheelFault_any (now : Int) (q : Bool) (lo hi : Nat) (A : Option Addr) (n c : Nat) (ys : List (List Tmr)) (w : World) (ha : Rep.timer.rows.Sl q lo hi w A n ys) (hh : hi ≤ w.heap.size) (hn : n ≤ 1048576) (hm : ∀ y ∈ ys, y.length ≤ 1048576) (hc : n ≤ c) :
    Calls Try.prog 24 #[.agg #[.int .i64 now, .slice A n c]] w fun e w' => e = .returned (.int .i64 (faultW now ys)) ∧ Below w.heap.size w w' := by
  have HA := Rep.Sl.kept ha hh
  have hl := ha.1
  have HM := Lib.hid hm
  clear ha hm
  refine calls_of_marks Try.func24 rfl ?_
  simp only [Try.ntmps24, List.size_toArray, List.length_cons, List.length_nil, Nat.reduceAdd, Nat.reduceSub, Array.replicate_succ, Array.replicate_zero, List.push_toArray, List.append_toArray, List.nil_append, List.cons_append]
  go_upto_region 1 with (fail)
  refine Code.wp_name ?_
  intro V hV
  have HX : Hid (Box V w.heap.size 26 #[.int .i64 now, .slice A n c]) := Lib.hid (by rw [hV]; exact (Box.made _ _ _).over _)
  have HR : Hid (Box V (w.heap.size + 1) 2 #[.int .i64 0]) := Lib.hid (by rw [hV]; exact Box.made_at _ _ _ (by simp))
  have HB : Hid (Below w.heap.size w V) := Lib.hid (by rw [hV]; exact ((Below.refl _ _).alloc (Nat.le_refl _) _).alloc (by simp) _)
  have HZ : Hid (w.heap.size + 2 = V.heap.size) := Lib.hid (by rw [hV]; simp)
  clear hV
  have c0 := HX.out.look 0
  have c1 := HX.out.look 1
  have hxl := HX.out.lt
  have r0 := HR.out.look 0
  have rf := HR.out.free 0
  have hrl := HR.out.lt
  by_cases hok : nwOk now
  · have HAL := Lib.hid (allIn_one_yes hok.1 hok.2)
    by_cases h24 : n = 24
    · subst h24
      go_wp2_with fail
      refine (allWithin_one _ _ _ now _ (by go_simp)).mono ?_
      rw [HAL.out]
      rintro e w1 ⟨rfl, rfl⟩
      go_upto_region 5 with (fail)
      clear c0 c1 r0 rf
      refine Code.wp_name ?_
      intro V1 hV1
      have HX1 : Hid (Box V1 w.heap.size 26 #[.int .i64 now, .slice A 24 c]) := Lib.hid (by rw [hV1]; exact HX.out.over _)
      have HR1 : Hid (Box V1 (w.heap.size + 1) 2 #[.int .i64 0]) := Lib.hid (by rw [hV1]; exact HR.out.over _)
      have HB1 : Hid (Below w.heap.size w V1) := Lib.hid (by rw [hV1]; exact HB.out.alloc HB.out.size _)
      have HZ1 : Hid (w.heap.size + 3 = V1.heap.size) := Lib.hid (by rw [hV1]; have := HZ.out; simp; omega)
      clear hV1 HX HR HB hxl hrl
      have c0 := HX1.out.look 0
      have c1 := HX1.out.look 1
      go_wp2_with fail
      clear c0 c1
      refine (dialOf_rows now q lo hi A c ys V1 (HA.below HB1.out).sl (HA.below HB1.out).le hc).mono ?_
      rintro e w2 ⟨s, rfl, hds, hb2⟩
      have HX2 := Lib.hid (HX1.out.below hb2)
      have HR2 := Lib.hid (HR1.out.below hb2)
      have HB2 := Lib.hid (below_step HB1.out hb2)
      have HZ2 : Hid (w.heap.size + 3 ≤ w2.heap.size) := Lib.hid (by have := HZ1.out; have := hb2.size; omega)
      have HS2 := Lib.hid (hds.below hb2 (HA.below HB1.out).le)
      have HONE : Hid (∀ k, k < 24 → (s k).oneCell' = true) := Lib.hid (fun k hk => by obtain ⟨E, d, e, _⟩ := hds k hk; rw [e]; rfl)
      clear hds hb2 HX1 HR1 HB1
      go_upto_region 6 with (refine wpList_store_dial (now := 0) (now' := now) (s := fun _ => .slice none 0 0) (s' := s) rfl _ _ rfl rfl rfl (Box.made w2 112 (dialCells 0 fun _ => .slice none 0 0)) HONE.out ?_)
      refine Code.wp_name ?_
      intro V3 hV3
      have HX3 : Hid (Box V3 w.heap.size 26 #[.int .i64 now, .slice A 24 c]) := Lib.hid (by rw [hV3]; exact (HX2.out.over _).grown (setRow_grown _ _ _) (by have := HZ2.out; simp; omega))
      have HR3 : Hid (Box V3 (w.heap.size + 1) 2 #[.int .i64 0]) := Lib.hid (by rw [hV3]; exact (HR2.out.over _).grown (setRow_grown _ _ _) (by have := HZ2.out; simp; omega))
      have HD3 : Hid (Box V3 w2.heap.size 112 (dialCells now s)) := Lib.hid (by rw [hV3]; exact (Box.made w2 _ _).setRow)
      have hb3 : Below w2.heap.size w2 V3 := by rw [hV3]; exact ((Below.refl _ _).alloc (Nat.le_refl _) _).grown (setRow_grown _ _ _) (by simp) (fun k e => by injection e with e; omega)
      have HB3 := Lib.hid (below_step HB2.out hb3)
      have HHI : Hid (hi ≤ w2.heap.size) := Lib.hid (Nat.le_trans hh HB2.out.size)
      have HS3 := Lib.hid (HS2.out.below hb3 HHI.out)
      have HZ3 : Hid (w2.heap.size + 1 = V3.heap.size) := Lib.hid (by rw [hV3]; simp [World.setRow])
      clear hV3 HX2 HR2 HB2 HS2 hb3
      go_wp2_with (refine wpList_load_dial rfl _ rfl rfl HD3.out ?_)
      refine (count_any now s (fun k => (ys.getD k []).length) V3 (fun k hk => by obtain ⟨E, d, e, _⟩ := HS3.out k hk; exact ⟨E, d, e⟩) (fun k hk => getD_le _ HM.out k)).mono ?_
      rw [cnt24 hl]
      rintro e w4 ⟨rfl, hb4⟩
      have HRC := Lib.hid (HR3.out.below hb4)
      have HXC := Lib.hid (HX3.out.below hb4)
      have HDC := Lib.hid (HD3.out.below hb4)
      have HSC := Lib.hid (HS3.out.below hb4 (Nat.le_trans HHI.out (by have := HZ3.out; omega)))
      have HBC := Lib.hid (below_step HB3.out hb4)
      have HZC : Hid (w2.heap.size + 1 ≤ w4.heap.size) := Lib.hid (by have := HZ3.out; have := hb4.size; omega)
      clear hb4 HR3 HX3 HD3 HS3 HB3
      have r0 := HRC.out.look 0
      have rf := HRC.out.free 0
      have hrl := HRC.out.lt
      by_cases h60 : 60 < tot ys
      · have HF : Hid (faultW now ys = 2) := Lib.hid (by unfold faultW; rw [if_neg (fun h => h hok), if_pos (.inr h60)])
        have h60' : (60 : Int) < tot ys := by omega
        go_wp2
        have hR' := HRC.out.puts 0 (.int .i64 2) (cs' := #[.int .i64 2]) rfl
        have q0 := hR'.look 0
        exact bodyPostM_ret0 (v := .int .i64 2) rfl (by simp [results, Try.results24, go_sem, q0]) ⟨by rw [HF.out], HBC.out.setCell (by simp) _⟩
      · have hF1 : faultW now ys = if slotsF now 0 ys ≠ 0 then slotsF now 0 ys else if twinB ys.flatten = true then 8 else 0 := by
          unfold faultW
          rw [if_neg (fun h => h hok), if_neg (by omega)]
        have HF1 := Lib.hid hF1
        have h60' : ¬ (60 : Int) < tot ys := by omega
        clear hF1
        go_wp2_with (refine wpList_load_dial rfl _ rfl rfl HDC.out ?_)
        refine (slots_any now s _).mono ?_
        rintro e w' ⟨rfl, rfl⟩
        go_wp2
        clear r0 rf hrl
        refine wp_range24 w4.heap.size now s rfl (Box.made _ _ _) rfl
          (fun pre W => (∀ x ∈ pre, slotF now (x.1 : Int) (ys.getD x.1 []) = 0) ∧ Box W w.heap.size 26 #[.int .i64 now, .slice A 24 c] ∧ Box W (w.heap.size + 1) 2 #[.int .i64 0] ∧ Box W w2.heap.size 112 (dialCells now s) ∧ Box W w4.heap.size 112 (dialCells now s) ∧ Below w.heap.size w W ∧ Below w4.heap.size w4 W)
          (fun c pre W => c = .ret ∧ ∃ pre' x, pre = pre' ++ [x] ∧ (∀ y ∈ pre', slotF now (y.1 : Int) (ys.getD y.1 []) = 0) ∧ slotF now (x.1 : Int) (ys.getD x.1 []) ≠ 0 ∧ Box W (w.heap.size + 1) 2 #[.int .i64 (slotF now (x.1 : Int) (ys.getD x.1 []))] ∧ Below w.heap.size w W)
          (fun pre W W' ⟨h1, h2, h3, h4, h5, h6, h7⟩ k => ⟨h1, k.box h2, k.box h3, k.box h4, k.box h5, k.below h6 (by have := HZC.out; have := HZ2.out; simp; omega) (Nat.le_refl _), k.below h7 (by simp) (Nat.le_refl _)⟩)
          (fun c pre W W' ⟨h0, pre', x, h1, h2, h3, h4, h5⟩ k => ⟨h0, pre', x, h1, h2, h3, k.box h4, k.below h5 (by have := HZC.out; have := HZ2.out; simp; omega) (Nat.le_refl _)⟩)
          ⟨(fun x hx => by cases hx), HXC.out.over _, HRC.out.over _, HDC.out.over _, Box.made _ _ _, HBC.out.alloc HBC.out.size _, (Below.refl _ _).alloc (Nat.le_refl _) _⟩ ?a₁ ?assign ?body ?done ?stop
        case assign =>
          intro l x W K hK
          gi_wp2
          exact hK
        case body =>
          rintro l pre x W ⟨h1, hX, hR, hD, hDD, hB, hB4⟩ hlt
          obtain ⟨E, d, hs, hsl⟩ := HSC.out x.1 x.2
          have hmm := getD_le _ HM.out x.1
          have hhi : hi ≤ w4.heap.size := Nat.le_trans HHI.out (by have := HZC.out; omega)
          have hsl2 := hsl.below hB4 hhi
          have hhi2 : hi ≤ W.heap.size := Nat.le_trans hhi hB4.size
          rw [hs]
          have c0 := hX.look 0
          have r0 := hR.look 0
          have rf := hR.free 0
          have hrl := hR.lt
          obtain ⟨r, hr⟩ : ∃ r, slotF now (x.1 : Int) (ys.getD x.1 []) = r := ⟨_, rfl⟩
          have HR' := Lib.hid hr
          by_cases hr0 : r = 0
          · subst hr0
            gi_wp2_with (refine ⟨trivial, ?_⟩; gi_at_call 90; refine (CallsIn.inRound l (callsIn_wide.2 (slotFault_any now (x.1 : Int) false lo hi E _ d _ _ hsl2 hhi2 hmm))).mono ?_; rw [HR'.out]; rintro e w5 ⟨rfl, hb5⟩)
            have hX5 := hX.below hb5
            have hR5 := hR.below hb5
            have hD5 := hD.below hb5
            have hDD5 := hDD.below hb5
            refine ⟨(KeepsOthers.of_grownBy (grownBy_of_below hb5 none) (fun j o ej _ => by cases ej)).from _, (fun b hb' => by obtain rfl : b = w4.heap.size := (by simpa using hb'); exact hDD5.trans hDD.symm), ⟨fun y hy => ?_, hX5, hR5, hD5, hDD5, below_step hB hb5, below_step hB4 hb5⟩⟩
            rcases List.mem_append.1 hy with h | h
            · exact h1 y h
            · obtain rfl : y = x := by simpa using h
              exact HR'.out
          · have hr0' : (r == 0) = false := by simpa using hr0
            gi_wp2_with (refine ⟨trivial, ?_⟩; gi_at_call 90; refine (CallsIn.inRound l (callsIn_wide.2 (slotFault_any now (x.1 : Int) false lo hi E _ d _ _ hsl2 hhi2 hmm))).mono ?_; rw [HR'.out]; rintro e w5 ⟨rfl, hb5⟩; have hR5 := hR.below hb5; have r05 := hR5.look 0; have rf5 := hR5.free 0)
            have hR6 := hR5.puts 0 (.int .i64 r) (cs' := #[.int .i64 r]) rfl
            exact ⟨((KeepsOthers.of_grownBy (grownBy_of_below hb5 none) (fun j o ej _ => by cases ej)).trans (KeepsOthers.setCell _ _ _)).from _, rfl, pre, x, rfl, h1, by rw [HR'.out]; exact hr0, by rw [HR'.out]; exact hR6, (below_step hB hb5).setCell (by simp) _⟩
        case done =>
          rintro D W hD ⟨h1, hX, hR, hDD, hD2, hB, hB4⟩ hK
          have hz : slotsF now 0 ys = 0 := slotsF_all now ys 0 fun k y hk => by
            have hkl := (List.getElem?_eq_some_iff.1 hk).1
            have hm : (⟨k, by omega⟩ : S24) ∈ upto 24 := by
              have := upto_mem (k := k) (by omega)
              exact this
            have := h1 _ hm
            simp only [List.getD, hk, Option.getD_some] at this
            simpa using this
          have hf2 := HF1.out
          rw [if_neg (fun h => h hz)] at hf2
          have HF2 := Lib.hid hf2
          have hhi : hi ≤ w4.heap.size := Nat.le_trans HHI.out (by have := HZC.out; omega)
          have HSW := Lib.hid (HSC.out.below hB4 hhi)
          have hhW : hi ≤ W.heap.size := Nat.le_trans hhi hB4.size
          have HT60 : ∀ k, k < 24 → (ys.getD k []).length ≤ 40000 := fun k hk => by have := getD_tot (ys := ys) k; omega
          clear hf2 h1
          go_wp2_with (refine wpList_load_dial rfl _ rfl rfl hDD ?_)
          refine (hasTwins_any now s (fun k => ys.getD k []) lo hi W HSW.out hhW HT60).mono ?_
          rw [rows24 hl]
          rintro e w6 ⟨rfl, hb6⟩
          have hR6 := hR.below hb6
          have hB6 := below_step hB hb6
          have hK6 : w6.heap[D]? = some (.deferred (some [])) := (hb6.block D (Array.getElem?_eq_some_iff.1 hK).1).trans hK
          have r06 := hR6.look 0
          have rf6 := hR6.free 0
          cases htw : twinB ys.flatten with
          | true =>
            rw [htw] at HF2
            go_wp2
            have hK7 := (KeepsOthers.setCell w6 ⟨w.heap.size + 1, 0, none⟩ (.int .i64 8)).same D _ hK6 rfl
            have hcalm := Calm.put (B := w.heap.size) (by have := HZC.out; have := HZ2.out; simp at hD; omega) hK7
            have q0 := (hcalm.box (hR6.puts 0 (.int .i64 8) (cs' := #[.int .i64 8]) rfl)).look 0
            exact bodyPostM_ret (v := .int .i64 8) rfl hK7 (by simp [results, Try.results24, go_sem, q0]) ⟨by rw [HF2.out]; rfl, hcalm.below (hB6.setCell (by simp) _) (Nat.le_refl _) (Nat.le_refl _)⟩
          | false =>
            rw [htw] at HF2
            go_wp2
            have hK7 := (KeepsOthers.setCell w6 ⟨w.heap.size + 1, 0, none⟩ (.int .i64 0)).same D _ hK6 rfl
            have hcalm := Calm.put (B := w.heap.size) (by have := HZC.out; have := HZ2.out; simp at hD; omega) hK7
            have q0 := (hcalm.box (hR6.puts 0 (.int .i64 0) (cs' := #[.int .i64 0]) rfl)).look 0
            exact bodyPostM_ret (v := .int .i64 0) rfl hK7 (by simp [results, Try.results24, go_sem, q0]) ⟨by rw [HF2.out]; rfl, hcalm.below (hB6.setCell (by simp) _) (Nat.le_refl _) (Nat.le_refl _)⟩
        case stop =>
          rintro D c pre W hD hpre ⟨rfl, pre', x, rfl, h2, h3, h4, h5⟩ hK
          obtain ⟨hp1, hp2⟩ := pre_of hpre
          go_wp2
          have hzs : slotsF now 0 ys = slotF now (x.1 : Int) (ys.getD x.1 []) := by
            have hkl : x.1 < ys.length := by rw [hl]; exact x.2
            have hy := List.getElem?_eq_getElem hkl
            have e : ys.getD x.1 [] = ys[x.1] := by simp [List.getD, hy]
            have := slotsF_first now ys 0 x.1 ys[x.1] hy (fun j z hj hz => ?_) (by rw [Nat.zero_add, ← e]; exact h3)
            · rw [this, Nat.zero_add, e]
            · have hj24 : j < 24 := by have := x.2; omega
              have hm : (⟨j, hj24⟩ : S24) ∈ pre' := by
                rw [hp1]
                obtain ⟨t, ht⟩ := upto_pre2 (k := j + 1) (m := pre'.length) (by omega) (by have := x.2; omega)
                rw [← ht, upto_succ hj24]
                simp
              have := h2 _ hm
              simp only [List.getD, hz, Option.getD_some] at this
              rw [Nat.zero_add]; exact this
          have hfw : faultW now ys = slotF now (x.1 : Int) (ys.getD x.1 []) := by rw [HF1.out, if_pos (by rw [hzs]; exact h3), hzs]
          have hcalm := Calm.put (B := w.heap.size) (by have := HZC.out; have := HZ2.out; simp at hD; omega) hK
          have q0 := (hcalm.box h4).look 0
          exact bodyPostM_ret (v := .int .i64 (slotF now (x.1 : Int) (ys.getD x.1 []))) rfl hK (by simp [results, Try.results24, go_sem, q0]) ⟨by rw [hfw], hcalm.below h5 (Nat.le_refl _) (Nat.le_refl _)⟩
    · have HF : Hid (faultW now ys = 2) := Lib.hid (by unfold faultW; rw [if_neg (fun h => h hok), if_pos (.inl (by omega))])
      have h24' : ((n : Int) == 24) = false := by simp; omega
      go_wp2_with fail
      refine (allWithin_one _ _ _ now _ (by go_simp)).mono ?_
      rw [HAL.out]
      rintro e w1 ⟨rfl, rfl⟩
      have HRC : Hid (Box ((V.setCell ⟨w.heap.size + 1, 0, none⟩ (.int .i64 2)).alloc (.cells #[.int .i64 now] 2)) (w.heap.size + 1) 2 #[.int .i64 2]) := Lib.hid ((HR.out.puts 0 (.int .i64 2) rfl).over _)
      have HBC : Hid (Below w.heap.size w ((V.setCell ⟨w.heap.size + 1, 0, none⟩ (.int .i64 2)).alloc (.cells #[.int .i64 now] 2))) := Lib.hid ((HB.out.setCell (by simp) _).alloc (by simpa using HB.out.size) _)
      go_wp2
      have q0 := HRC.out.look 0
      exact bodyPostM_ret0 (v := .int .i64 2) rfl (by simp [results, Try.results24, go_sem, q0]) ⟨by rw [HF.out], HBC.out⟩
  · have HAL := Lib.hid (allIn_one_no hok)
    have HF : Hid (faultW now ys = 3) := Lib.hid (by unfold faultW; rw [if_pos hok])
    go_wp2_with fail
    refine (allWithin_one _ _ _ now _ (by go_simp)).mono ?_
    rw [HAL.out]
    rintro e w1 ⟨rfl, rfl⟩
    have HRC : Hid (Box ((V.setCell ⟨w.heap.size + 1, 0, none⟩ (.int .i64 3)).alloc (.cells #[.int .i64 now] 2)) (w.heap.size + 1) 2 #[.int .i64 3]) := Lib.hid ((HR.out.puts 0 (.int .i64 3) rfl).over _)
    have HBC : Hid (Below w.heap.size w ((V.setCell ⟨w.heap.size + 1, 0, none⟩ (.int .i64 3)).alloc (.cells #[.int .i64 now] 2))) := Lib.hid ((HB.out.setCell (by simp) _).alloc (by simpa using HB.out.size) _)
    go_wp2
    have q0 := HRC.out.look 0
    exact bodyPostM_ret0 (v := .int .i64 3) rfl (by simp [results, Try.results24, go_sem, q0]) ⟨by rw [HF.out], HBC.out⟩
end

end Go.Proofs.Ytakplomopbnekaa
