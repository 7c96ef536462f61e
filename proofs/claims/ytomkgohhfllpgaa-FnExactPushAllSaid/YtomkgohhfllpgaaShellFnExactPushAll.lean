/-
  The program's PushAll answers as the model's, writes into no argument, and its answer owns its memory. No condition.
-/
import Derived.Test.YtomkgohhfllpgaaQDrain
import Derived.Test.YtomkgohhfllpgaaSpecQueueFault
import Derived.Test.YtomkgohhfllpgaaSpecCopy
import Derived.Test.YtomkgohhfllpgaaRows
import Derived.WalkKit
import Derived.ProofKit
import Derived.OpenShut
import Derived.ShutString
import Derived.ChangeOld
import Derived.Below
import Derived.Test.YtomkgohhfllpgaaOpenQueue
namespace Go.Proofs.Ytomkgohhfllpgaa
open Go.RowKit
set_option linter.unusedVariables false

theorem ups_pw {zs : List Int} : ups zs ↔ zs.Pairwise (· < ·) := by
  constructor
  · intro h
    rw [List.pairwise_iff_getElem]
    have step : ∀ (d i : Nat) (hi : i < zs.length) (hj : i + d + 1 < zs.length), zs[i] < zs[i + d + 1] := by
      intro d
      induction d with
      | zero =>
        intro i hi hj
        have := h i (by omega)
        simpa [List.getD, hi, hj] using this
      | succ d ih =>
        intro i hi hj
        have h1 := ih i hi (by omega)
        have h2 := h (i + d + 1) (by omega)
        have h3 : zs[i + d + 1] < zs[i + d + 1 + 1] := by simpa [List.getD, (show i + d + 1 < zs.length by omega), (show i + d + 1 + 1 < zs.length by omega)] using h2
        have h4 : zs[i] < zs[i + d + 1 + 1] := by omega
        exact h4
    intro i j hi hj hij
    have := step (j - i - 1) i hi (by omega)
    have e : i + (j - i - 1) + 1 = j := by omega
    simp only [e] at this
    exact this
  · intro h i hi
    rw [List.pairwise_iff_getElem] at h
    have := h i (i + 1) (by omega) (by omega) (by omega)
    simpa [List.getD, (show i < zs.length by omega), (show i + 1 < zs.length by omega)] using this

/-- What is wrong with an item for these items. -/
def fit (ys : List Tmr) (x : Tmr) : Int := if ¬ (1 ≤ x.due ∧ x.due ≤ 100000) then 3 else if ¬ ups (revs ys ++ [x.due]) then 1 else 0
/-- The mark and the items when an item is put in. -/
def putM (cap : Int) (mk : Bool) (ys : List Tmr) (x : Tmr) : Bool := if ((without ys x).length : Int) = cap then true else mk
def putY (cap : Int) (ys : List Tmr) (x : Tmr) : List Tmr := if ((without ys x).length : Int) = cap then [x] else without ys x ++ [x]
/-- Code, mark and items when a list is put in. -/
def pushL (cap : Int) : List Tmr → Bool → List Tmr → Int × Bool × List Tmr
  | [], mk, ys => (0, mk, ys)
  | x :: r, mk, ys => if fit ys x = 0 then pushL cap r (putM cap mk ys x) (putY cap ys x) else (fit ys x, false, [])
theorem pushL_drop {cap : Int} {xs : List Tmr} {j : Nat} {x : Tmr} (h : xs[j]? = some x) (mk : Bool) (ys : List Tmr) :
    pushL cap (xs.drop j) mk ys = if fit ys x = 0 then pushL cap (xs.drop (j + 1)) (putM cap mk ys x) (putY cap ys x) else (fit ys x, false, []) := by
  have hj := (List.getElem?_eq_some_iff.1 h).1
  rw [List.drop_eq_getElem_cons hj, (List.getElem?_eq_some_iff.1 h).2]
  rfl
/-- What stays so: there are not more than Cap, and they rise. -/
def PInv (cap : Int) (ys : List Tmr) : Prop := (1 ≤ cap ∧ cap ≤ 8) ∧ (ys.length : Int) ≤ cap ∧ ups (revs ys)
theorem PInv.le {cap : Int} {ys : List Tmr} (h : PInv cap ys) : ys.length ≤ 8 := by have := h.1.2; have := h.2.1; omega
theorem PInv.of_qf {cap : Int} {ys : List Tmr} (h : qf cap ys = 0) : PInv cap ys := ⟨(qf_ok h).1, (qf_ok h).2.1, (qf_ok h).2.2.2.2.1⟩
theorem fit_cases (ys : List Tmr) (x : Tmr) : fit ys x = 0 ∨ fit ys x = 1 ∨ fit ys x = 3 := by
  unfold fit
  split
  · exact .inr (.inr rfl)
  · split
    · exact .inr (.inl rfl)
    · exact .inl rfl
theorem fit_ok {ys : List Tmr} {x : Tmr} (h : fit ys x = 0) : (1 ≤ x.due ∧ x.due ≤ 100000) ∧ ups (revs ys ++ [x.due]) := by
  unfold fit at h
  split at h
  · omega
  · split at h
    · omega
    · rename_i h1 h2
      exact ⟨Classical.byContradiction h1, Classical.byContradiction h2⟩
theorem PInv.put {cap : Int} {ys : List Tmr} {x : Tmr} (h : PInv cap ys) (hf : fit ys x = 0) : PInv cap (putY cap ys x) := by
  have hw := without_le ys x
  have h2 := h.2.1
  refine ⟨h.1, ?_, ?_⟩
  · unfold putY
    split
    · have := h.1.1; simp; omega
    · rw [List.length_append]; simp only [List.length_cons, List.length_nil]; omega
  · unfold putY
    split
    · intro i hi; simp [revs] at hi
    · have hu := ups_pw.1 (fit_ok hf).2
      rw [ups_pw]
      refine List.Pairwise.sublist ?_ hu
      show (revs (without ys x ++ [x])).Sublist _
      unfold revs
      rw [List.map_append]
      exact List.Sublist.append (List.Sublist.map _ List.filter_sublist) (List.Sublist.refl _)
theorem pushL_bd (cap : Int) : ∀ (xs : List Tmr) (mk : Bool) (ys : List Tmr), PInv cap ys → (pushL cap xs mk ys).2.2.length ≤ 8
  | [], mk, ys, h => h.le
  | x :: r, mk, ys, h => by
    unfold pushL
    split
    · rename_i hf; exact pushL_bd cap r _ _ (h.put hf)
    · simp
/-- What PushAll answers: code, Cap, Marks, Items. -/
def paC (cap : Int) (mk : Bool) (ys xs : List Tmr) : Int := if qf cap ys = 0 then (if 100 < xs.length then 2 else (pushL cap xs mk ys).1) else qf cap ys
def paX (cap : Int) (mk : Bool) (ys xs : List Tmr) : Int := if paC cap mk ys xs = 0 then cap else 0
def paP (cap : Int) (mk : Bool) (ys xs : List Tmr) : Bool := if qf cap ys = 0 then (if 100 < xs.length then false else (pushL cap xs mk ys).2.1) else false
def paU (cap : Int) (mk : Bool) (ys xs : List Tmr) : List Tmr := if qf cap ys = 0 then (if 100 < xs.length then [] else (pushL cap xs mk ys).2.2) else []
def paT (ys : List Tmr) : Bool := false
def paZ (ys : List Tmr) : List Tmr := []
theorem pa_bd (cap : Int) (mk : Bool) (ys xs : List Tmr) : (paU cap mk ys xs).length ≤ 1048576 ∧ (paZ ys).length ≤ 1048576 := by
  refine ⟨?_, by simp [paZ]⟩
  unfold paU
  split
  · rename_i h
    split
    · simp
    · have := pushL_bd cap xs mk ys (PInv.of_qf h); omega
  · simp

end Go.Proofs.Ytomkgohhfllpgaa

namespace Go.Proofs.Ytomkgohhfllpgaa
open Go.RowKit
set_option linter.unusedVariables false

theorem fit_3 {ys : List Tmr} {x : Tmr} (h : ¬ (1 ≤ x.due ∧ x.due ≤ 100000)) : fit ys x = 3 := if_pos h
theorem fit_r {ys : List Tmr} {x : Tmr} (h : 1 ≤ x.due ∧ x.due ≤ 100000) : fit ys x = if ¬ ups (revs ys ++ [x.due]) then 1 else 0 := if_neg (fun h' => h' h)

set_option maxRecDepth 100000 in
set_option maxHeartbeats 3200000 in
theorem itemFault_any (cap : Int) (mk : Bool) (g B : Nat) (A : Option Addr) (n c : Nat) (ys : List Tmr) (x : Tmr) (w : World) (hg : Box w g 86 #[.int .i64 cap, .bool mk, .slice A n c]) (ho : OwnF 35 4 tcell w B A n c ys) (hn : n ≤ 1000) :
    Calls Try.prog 54 #[.pointer (some ⟨g, 0, none⟩), .agg #[.int .i64 x.typ, .int .i64 x.id, .int .i64 x.adv, .int .i64 x.due]] w fun e w' => e = .returned (.int .i64 (fit ys x)) ∧ Below w.heap.size w w' := by
  obtain ⟨V, hV⟩ : ∃ V : World, V = w.alloc (.cells #[.int .i64 x.typ, .int .i64 x.id, .int .i64 x.adv, .int .i64 x.due] 35) := ⟨_, rfl⟩
  have hbV : Below w.heap.size w V := by rw [hV]; exact (Below.refl _ _).alloc (Nat.le_refl _) _
  have HX : Hid (Box V w.heap.size 35 #[.int .i64 x.typ, .int .i64 x.id, .int .i64 x.adv, .int .i64 x.due]) := Lib.hid (by rw [hV]; exact Box.made _ _ _)
  have HG := Lib.hid (hg.below hbV)
  have HO := Lib.hid (ho.below hbV)
  have HB := Lib.hid hbV
  clear hg ho hbV
  by_cases hin : 1 ≤ x.due ∧ x.due ≤ 100000
  · have HI := Lib.hid (allIn_one_yes hin.1 hin.2)
    have HF := Lib.hid (fit_r (ys := ys) hin)
    obtain ⟨ru, hru⟩ : ∃ r, decide (ups (revs ys ++ [x.due])) = r := ⟨_, rfl⟩
    have HRU := Lib.hid hru
    clear hin hru
    have x3 := HX.out.look 3
    have xl := HX.out.lt
    go_enter Try.func54, Try.ntmps54
    go_upto_region 1 with (fail)
    rw [← hV]
    clear hV
    go_wp2_with fail
    refine Calls.name ?_
    intro U hU
    have hbU : Below V.heap.size V U := by rw [hU]; exact (Below.refl _ _).alloc (Nat.le_refl _) _
    have HL : Hid (U.cell? ⟨V.heap.size, 0, none⟩ = some (.int .i64 x.due)) := Lib.hid (by rw [hU]; exact (Box.made V 2 #[.int .i64 x.due]).look 0)
    have HX1 := Lib.hid (HX.out.below hbU)
    have HG1 := Lib.hid (HG.out.below hbU)
    have HO1 := Lib.hid (HO.out.below hbU)
    have HB1 := Lib.hid (below_step HB.out hbU)
    clear hU hbU HX HG HO HB x3 xl
    refine (allWithin_one _ _ _ x.due _ HL.out).mono ?_
    rw [HI.out]
    rintro e w2 ⟨rfl, rfl⟩
    clear HL
    go_wp2
    have x3 := HX1.out.look 3
    have xl := HX1.out.lt
    have g2 := HG1.out.look 2
    have gl := HG1.out.lt
    have hbA : Below w2.heap.size w2 (w2.alloc (.cells #[.int .i64 x.due] 2)).drew := ((Below.refl _ _).alloc (Nat.le_refl _) _).drew
    have VA := Lib.hid hbA
    have V0 : Hid (Below w2.heap.size w2 w2.drew) := (Below.refl _ _).drew
    have HSA := Lib.hid (own_items (HO1.out.below VA.out))
    have HS0 := Lib.hid (own_items (HO1.out.below V0.out))
    have HLA : Hid (Kept w2.heap.size (w2.heap.size + 1) (BoxK w2.heap.size 2 #[.int .i64 x.due]) (w2.alloc (.cells #[.int .i64 x.due] 2)).drew) := Lib.hid (Kept.box (show Box (w2.alloc (.cells #[.int .i64 x.due] 2)).drew w2.heap.size 2 #[.int .i64 x.due] from Box.made _ _ _))
    clear hbA
    go_region_law (first
      | ((show (if Region.wanted (Oper.mk (some 14) _ _ _ _ _) _ = true then _ else _)); go_simp; have PC := revsOf_any true _ _ A n c ys (w2.drew) HS0.out (Nat.le_refl _) (by omega); with_reducible refine PC.mono ?_; clear PC; rintro e u1 ⟨R, d, rfl, hr, hb⟩; have V1 := Lib.hid (below_step V0.out hb); have HR := Lib.hid hr; have HBS := Lib.hid V0.out.size; have k3 := (HX1.out.below V1.out).look 3; have kl := (HX1.out.below V1.out).lt; have HU1 : Hid (Below u1.heap.size u1 (u1.alloc (.cells #[.int .i64 x.due] 2))) := Lib.hid ((Below.refl _ _).alloc (Nat.le_refl _) _); have HRL := Lib.hid (HR.out.below HU1.out); have HE : Hid (InF 1 icell (u1.alloc (.cells #[.int .i64 x.due] 2)) (some ⟨u1.heap.size, 0, none⟩) 1 [x.due]) := Lib.hid ((Box.made u1 2 #[.int .i64 x.due]).inF [x.due] rfl); have VB := Lib.hid (below_step V1.out HU1.out); have HBZ := Lib.hid (Nat.le_trans hb.size HU1.out.size); clear hr hb)
      | ((show (if Region.wanted (Oper.mk (some 14) _ _ _ _ _) _ = true then _ else _)); go_simp; have PC := revsOf_any true _ _ A n c ys ((w2.alloc (.cells #[.int .i64 x.due] 2)).drew) HSA.out (Nat.le_refl _) (by omega); with_reducible refine PC.mono ?_; clear PC; rintro e u1 ⟨R, d, rfl, hr, hb⟩; have VB := Lib.hid (below_step VA.out hb); have HBS := Lib.hid VA.out.size; have HBZ := Lib.hid hb.size; have HRL := Lib.hid hr; have HE : Hid (InF 1 icell u1 (some ⟨w2.heap.size, 0, none⟩) 1 [x.due]) := Lib.hid ((HLA.out.below hb).bx.inF [x.due] rfl); clear hr hb)
      | ((show (if Region.wanted (Oper.mk (some 18) _ _ _ _ _) _ = true then _ else _)); refine step_appI0 icell_len icell_one Try.underlying94 wordInfo rfl (by decide) (by decide) (by rfl) (.tmp 14) (.tmp 17) (by rfl) (by rfl) HRL.out (by rfl) HE.out (by omega) HBZ.out ?_; intro R2 d2 u2 hr2 hgr; have HR2 := Lib.hid hr2; have VC := Lib.hid (VB.out.grown hgr VB.out.size (fun r hr => Nat.le_trans HBS.out (HRL.out.block r hr).1)); clear hr2 hgr)
      | ((show (if Region.wanted (Oper.mk (some 19) _ _ _ _ _) _ = true then _ else _)); go_simp; have PC := isRising_below true _ _ R2 (n + 1) d2 (revs ys ++ [x.due]) u2 (ints_of_own HR2.out) (by omega); rw [HRU.out] at PC; with_reducible refine PC.mono ?_; clear PC; rintro e u3 ⟨rfl, hb⟩; have VD := Lib.hid (below_step VC.out hb); clear hb))
    all_goals
      have HB4 := Lib.hid (below_step HB1.out VD.out)
      clear x3 xl g2 gl
      cases ru with
      | true =>
        have HQ : Hid (fit ys x = 0) := Lib.hid (by rw [HF.out, if_neg (fun h => h (of_decide_eq_true HRU.out))])
        go_wp2
        go_ret
        exact ⟨by rw [HQ.out]; rfl, HB4.out⟩
      | false =>
        have HQ : Hid (fit ys x = 1) := Lib.hid (by rw [HF.out, if_pos (of_decide_eq_false HRU.out)])
        go_wp2
        go_ret
        exact ⟨by rw [HQ.out]; rfl, HB4.out⟩
  · have HI := Lib.hid (allIn_one_no hin)
    have HF := Lib.hid (fit_3 (ys := ys) hin)
    clear hin
    have x3 := HX.out.look 3
    have xl := HX.out.lt
    go_enter Try.func54, Try.ntmps54
    go_upto_region 1 with (fail)
    rw [← hV]
    clear hV
    go_wp2_with fail
    refine Calls.name ?_
    intro U hU
    have hbU : Below V.heap.size V U := by rw [hU]; exact (Below.refl _ _).alloc (Nat.le_refl _) _
    have HL : Hid (U.cell? ⟨V.heap.size, 0, none⟩ = some (.int .i64 x.due)) := Lib.hid (by rw [hU]; exact (Box.made V 2 #[.int .i64 x.due]).look 0)
    have HB1 := Lib.hid (below_step HB.out hbU)
    clear hU hbU x3 xl
    refine (allWithin_one _ _ _ x.due _ HL.out).mono ?_
    rw [HI.out]
    rintro e w2 ⟨rfl, rfl⟩
    go_wp2
    go_ret
    exact ⟨by rw [HF.out]; rfl, HB1.out⟩

set_option maxRecDepth 100000 in
set_option maxHeartbeats 3200000 in
theorem put_any (cap : Int) (mk : Bool) (g B gk : Nat) (A : Option Addr) (n c : Nat) (ys : List Tmr) (x : Tmr) (w : World) (hg : Box w g 86 #[.int .i64 cap, .bool mk, .slice A n c]) (ho : OwnF 35 4 tcell w B A n c ys) (hk : Box w gk 33 #[.int .i64 x.typ, .int .i64 x.id, .int .i64 x.adv]) (hn : n ≤ 100) (hBg : B ≤ g) (hBw : B ≤ w.heap.size) :
    Calls Try.prog 55 #[.pointer (some ⟨g, 0, none⟩), .agg #[.int .i64 x.typ, .int .i64 x.id, .int .i64 x.adv, .int .i64 x.due], ofKeyV gk] w fun e w' => e = .returned (.tuple #[]) ∧ ∃ A' n' c', Box w' g 86 #[.int .i64 cap, .bool (putM cap mk ys x), .slice A' n' c'] ∧ OwnF 35 4 tcell w' B A' n' c' (putY cap ys x) ∧ Below B w w' := by
  obtain ⟨V, hV⟩ : ∃ V : World, V = w.alloc (.cells #[.int .i64 x.typ, .int .i64 x.id, .int .i64 x.adv, .int .i64 x.due] 35) := ⟨_, rfl⟩
  have hbV : Below w.heap.size w V := by rw [hV]; exact (Below.refl _ _).alloc (Nat.le_refl _) _
  have HX : Hid (Box V w.heap.size 35 #[.int .i64 x.typ, .int .i64 x.id, .int .i64 x.adv, .int .i64 x.due]) := Lib.hid (by rw [hV]; exact Box.made _ _ _)
  have HG := Lib.hid (hg.below hbV)
  have HO := Lib.hid (ho.below hbV)
  have HK := Lib.hid (hk.below hbV)
  have HB := Lib.hid (hbV.mono hBw)
  have HBV : Hid (B ≤ V.heap.size) := Lib.hid (Nat.le_trans hBw hbV.size)
  have HGW := Lib.hid hg.lt
  have hne : ∀ r, A.map (·.block) = some r → g ≠ r := fun r hr e => OwnF.ne_box ho hg (by decide) (by rw [hr, e])
  have HNE := Lib.hid hne
  have HAW : Hid (∀ r, A.map (·.block) = some r → r < w.heap.size) := Lib.hid (fun r hr => (ho.block r hr).2)
  have HVS : Hid (w.heap.size + 1 = V.heap.size) := Lib.hid (by rw [hV]; simp)
  clear hg ho hk hbV hne
  have g2 := HG.out.look 2
  have gl := HG.out.lt
  go_enter Try.func55, Try.ntmps55
  go_upto_region 1 with (fail)
  rw [← hV]
  clear hV
  go_wp2_with fail
  clear g2 gl
  refine (deleteOf_any B A n c ys x gk _ HO.out (by omega) HK.out).mono ?_
  rintro e w1 ⟨n', rfl, ho1, hgr⟩
  have hn' : n' ≤ 100 := by have h1 := ho1.1; have h2 := without_le ys x; have h3 := HO.out.1; omega
  have HL1 := Lib.hid ho1.1
  have HO1 := Lib.hid ho1
  have HG1 := Lib.hid (HG.out.grown hgr (fun e => HNE.out g e rfl))
  have HX1 := Lib.hid (HX.out.grown hgr (fun e => by have := HAW.out _ e; omega))
  have HB1 := Lib.hid (HB.out.grown hgr HBV.out (fun r hr => (HO.out.block r hr).1))
  have HSZ1 := Lib.hid hgr.size
  clear ho1 hgr HG HX HO HB
  have g2 := HG1.out.look 2
  have f2 := HG1.out.free 2
  have gl := HG1.out.lt
  go_upto_region 2 with (fail)
  refine Code.wp_name ?_
  intro W1 hW1
  have hgx : w1.grownBy W1 (some g) := by rw [hW1]; exact setCell_grown _ _ _
  have HG2 : Hid (Box W1 g 86 #[.int .i64 cap, .bool mk, .slice A n' c]) := Lib.hid (by rw [hW1]; exact HG1.out.puts 2 (.slice A n' c) rfl)
  have HO2 := Lib.hid (HO1.out.aside hgx (fun r hr e => HNE.out r hr (by injection e)))
  have HX2 := Lib.hid (HX1.out.grown hgx (fun e => by injection e with e; have := HGW.out; omega))
  have HSZ2 : Hid (B ≤ W1.heap.size ∧ w.heap.size + 1 ≤ W1.heap.size ∧ B ≤ w1.heap.size) := Lib.hid (by have h1 := HSZ1.out; have h2 := HVS.out; have h3 := hgx.size; omega)
  have HB2 := Lib.hid (HB1.out.grown hgx HSZ2.out.2.2 (fun r hr => by injection hr with hr; omega))
  clear hW1 hgx g2 f2 gl HG1 HO1 HX1 HB1
  have g0 := HG2.out.look 0
  have g2 := HG2.out.look 2
  have gl := HG2.out.lt
  go_quiet (fail)
  obtain ⟨Wq, hWq⟩ : ∃ W : World, W = W1.drewN nq := ⟨_, rfl⟩
  rw [← hWq]
  have HGq : Hid (Box Wq g 86 #[.int .i64 cap, .bool mk, .slice A n' c]) := Lib.hid (by rw [hWq]; exact HG2.out)
  have HOq : Hid (OwnF 35 4 tcell Wq B A n' c (without ys x)) := Lib.hid (by rw [hWq]; exact HO2.out)
  have HXq : Hid (Box Wq w.heap.size 35 #[.int .i64 x.typ, .int .i64 x.id, .int .i64 x.adv, .int .i64 x.due]) := Lib.hid (by rw [hWq]; exact HX2.out)
  have HBq : Hid (Below B w Wq) := Lib.hid (by rw [hWq]; first | exact below_drewN HB2.out _ | exact HB2.out.drew)
  have HSq : Hid (B ≤ Wq.heap.size ∧ w.heap.size + 1 ≤ Wq.heap.size) := Lib.hid (by rw [hWq]; exact ⟨HSZ2.out.1, HSZ2.out.2.1⟩)
  clear g0 g2 gl hWq HG2 HO2 HX2 HB2 HSZ2
  by_cases hfull : ((without ys x).length : Int) = cap
  · have HPM : Hid (putM cap mk ys x = true ∧ putY cap ys x = [] ++ [x]) := Lib.hid ⟨if_pos hfull, by unfold putY; rw [if_pos hfull]; rfl⟩
    have hc1 : ((n' : Int) == cap) = true := by rw [← hfull, HL1.out]; simp
    clear hfull
    have g1 := HGq.out.look 1
    have g2 := HGq.out.look 2
    have f1 := HGq.out.free 1
    have f2 := HGq.out.free 2
    have gl := HGq.out.lt
    go_upto_region 4 with (fail)
    refine Code.wp_name ?_
    intro W2 hW2
    have ho3 : Only g (g + 1) Wq W2 := by rw [hW2]; exact ((Only.refl _ _ _).set (p := ⟨g, 2, none⟩) (Nat.le_refl _) (Nat.lt_succ_self _) _).set (p := ⟨g, 1, none⟩) (Nat.le_refl _) (Nat.lt_succ_self _) _
    have HG4 : Hid (Box W2 g 86 #[.int .i64 cap, .bool true, .slice none 0 0]) := Lib.hid (by rw [hW2]; exact ((show Box Wq g 86 #[.int .i64 cap, .bool mk, .slice A n' c] from HGq.out).puts 2 (.slice none 0 0) (cs' := #[.int .i64 cap, .bool mk, .slice none 0 0]) rfl).puts 1 (.bool true) (cs' := #[.int .i64 cap, .bool true, .slice none 0 0]) rfl)
    have HO4 : Hid (OwnF 35 4 tcell W2 B none 0 0 []) := Lib.hid (OwnF.nil_ _ _ _ _ _)
    have HX4 := Lib.hid ((show Box Wq w.heap.size 35 #[.int .i64 x.typ, .int .i64 x.id, .int .i64 x.adv, .int .i64 x.due] from HXq.out).only ho3 (.inr HGW.out) )
    have HB4 : Hid (Below B w W2) := Lib.hid (Below.only (HBq.out) ho3 hBg HSq.out.1)
    have HS4 : Hid (B ≤ W2.heap.size ∧ w.heap.size < W2.heap.size) := Lib.hid (by have h1 := HSq.out; have h2 : Wq.heap.size ≤ W2.heap.size := ho3.size; omega)
    clear hW2 ho3
    clear g1 g2 f1 f2 gl HGq HOq HXq HBq
    have x0 := HX4.out.look 0
    have x1 := HX4.out.look 1
    have x2 := HX4.out.look 2
    have x3 := HX4.out.look 3
    have xl := HX4.out.lt
    have g2 := HG4.out.look 2
    have gl := HG4.out.lt
    have hbE : Below W2.heap.size W2 (W2.alloc (.cells #[.int .i64 x.typ, .int .i64 x.id, .int .i64 x.adv, .int .i64 x.due] 35)).drew := ((Below.refl _ _).alloc (Nat.le_refl _) _).drew
    have HOL : Hid (OwnF 35 4 tcell (W2.alloc (.cells #[.int .i64 x.typ, .int .i64 x.id, .int .i64 x.adv, .int .i64 x.due] 35)).drew B none 0 0 []) := Lib.hid (HO4.out.below hbE)
    have HGL : Hid (Box (W2.alloc (.cells #[.int .i64 x.typ, .int .i64 x.id, .int .i64 x.adv, .int .i64 x.due] 35)).drew g 86 #[.int .i64 cap, .bool true, .slice none 0 0]) := Lib.hid (HG4.out.below hbE)
    have HE : Hid (InF 4 tcell (W2.alloc (.cells #[.int .i64 x.typ, .int .i64 x.id, .int .i64 x.adv, .int .i64 x.due] 35)).drew (some ⟨W2.heap.size, 0, none⟩) 1 [x]) := Lib.hid ((show Box (W2.alloc (.cells #[.int .i64 x.typ, .int .i64 x.id, .int .i64 x.adv, .int .i64 x.due] 35)).drew W2.heap.size 35 #[.int .i64 x.typ, .int .i64 x.id, .int .i64 x.adv, .int .i64 x.due] from Box.made _ _ _).inF [x] rfl)
    have HBL : Hid (B ≤ (W2.alloc (.cells #[.int .i64 x.typ, .int .i64 x.id, .int .i64 x.adv, .int .i64 x.due] 35)).drew.heap.size) := Lib.hid (Nat.le_trans HS4.out.1 hbE.size)
    have HBW := Lib.hid ((HB4.out).trans (hbE.mono HS4.out.1))
    have HNL : Hid ((none : Option Addr).map (·.block) ≠ some g) := Lib.hid (by simp)
    clear hbE
    go_region_law (first | ((show (if Region.wanted (Oper.mk (some 38) _ _ _ _ _) _ = true then _ else _)); refine step_appI0 tcell_len tcell_one Try.underlying24 itemInfo rfl (by decide) (by decide) (by rfl) (.tmp 35) (.tmp 37) (by rfl) (B := B) (by rfl) HOL.out (by rfl) HE.out (by omega) HBL.out ?_; intro A3 c3 u3 ho3 hgr; have HO3 := Lib.hid ho3; have HG3 := Lib.hid (HGL.out.grown hgr HNL.out); have HB3 := Lib.hid (HBW.out.grown hgr HBL.out (fun r hr => (HOL.out.block r hr).1)); have k2 := HG3.out.look 2; have kf := HG3.out.free 2; have kl := HG3.out.lt; clear ho3 hgr))
    all_goals
      have HOF : Hid (OwnF 35 4 tcell u3 B A3 (0 + 1) c3 (putY cap ys x)) := Lib.hid (by rw [HPM.out.2]; exact HO3.out)
      obtain ⟨X, hX⟩ : ∃ X : World, X = u3.setCell ⟨g, 2, none⟩ (.slice A3 (0 + 1) c3) := ⟨_, rfl⟩
      have hgx : u3.grownBy X (some g) := by rw [hX]; exact setCell_grown _ _ _
      have HGF : Hid (Box X g 86 #[.int .i64 cap, .bool (putM cap mk ys x), .slice A3 (0 + 1) c3]) := Lib.hid (by rw [hX, HPM.out.1]; exact HG3.out.puts 2 (.slice A3 (0 + 1) c3) rfl)
      have HOX := Lib.hid (HOF.out.aside hgx (fun r hr e => OwnF.ne_box HOF.out HG3.out (by decide) (by rw [hr]; exact e.symm)))
      have HBX := Lib.hid (HB3.out.grown hgx (Nat.le_trans hBw HB3.out.size) (fun r hr => by injection hr with hr; omega))
      clear x0 x1 x2 x3 xl g2 gl k2 kf kl hgx HO3
      go_wp2
      rw [← hX]
      exact ⟨rfl, .tuple #[], by simp [results, Try.results55, go_sem], rfl, A3, 0 + 1, c3, HGF.out, HOX.out, HBX.out⟩
  · have HPM : Hid (putM cap mk ys x = mk ∧ putY cap ys x = (without ys x) ++ [x]) := Lib.hid ⟨if_neg hfull, by unfold putY; rw [if_neg hfull]⟩
    have hc1 : ((n' : Int) == cap) = false := by rw [beq_eq_false_iff_ne]; intro h; exact hfull (by rw [HL1.out]; exact h)
    clear hfull
    have g1 := HGq.out.look 1
    have g2 := HGq.out.look 2
    have f1 := HGq.out.free 1
    have f2 := HGq.out.free 2
    have gl := HGq.out.lt
    go_upto_region 4 with (fail)
    refine Code.wp_name ?_
    intro W2 hW2
    have HG4 : Hid (Box W2 g 86 #[.int .i64 cap, .bool mk, .slice A n' c]) := Lib.hid (by rw [hW2]; exact HGq.out)
    have HO4 : Hid (OwnF 35 4 tcell W2 B A n' c (without ys x)) := Lib.hid (by rw [hW2]; exact HOq.out)
    have HX4 : Hid (Box W2 w.heap.size 35 #[.int .i64 x.typ, .int .i64 x.id, .int .i64 x.adv, .int .i64 x.due]) := Lib.hid (by rw [hW2]; exact HXq.out)
    have HB4 : Hid (Below B w W2) := Lib.hid (by rw [hW2]; exact HBq.out)
    have HS4 : Hid (B ≤ W2.heap.size ∧ w.heap.size < W2.heap.size) := Lib.hid (by rw [hW2]; have h1 := HSq.out; exact ⟨h1.1, h1.2⟩)
    clear hW2
    clear g1 g2 f1 f2 gl HGq HOq HXq HBq
    have x0 := HX4.out.look 0
    have x1 := HX4.out.look 1
    have x2 := HX4.out.look 2
    have x3 := HX4.out.look 3
    have xl := HX4.out.lt
    have g2 := HG4.out.look 2
    have gl := HG4.out.lt
    have hbE : Below W2.heap.size W2 (W2.alloc (.cells #[.int .i64 x.typ, .int .i64 x.id, .int .i64 x.adv, .int .i64 x.due] 35)).drew := ((Below.refl _ _).alloc (Nat.le_refl _) _).drew
    have HOL : Hid (OwnF 35 4 tcell (W2.alloc (.cells #[.int .i64 x.typ, .int .i64 x.id, .int .i64 x.adv, .int .i64 x.due] 35)).drew B A n' c (without ys x)) := Lib.hid (HO4.out.below hbE)
    have HGL : Hid (Box (W2.alloc (.cells #[.int .i64 x.typ, .int .i64 x.id, .int .i64 x.adv, .int .i64 x.due] 35)).drew g 86 #[.int .i64 cap, .bool mk, .slice A n' c]) := Lib.hid (HG4.out.below hbE)
    have HE : Hid (InF 4 tcell (W2.alloc (.cells #[.int .i64 x.typ, .int .i64 x.id, .int .i64 x.adv, .int .i64 x.due] 35)).drew (some ⟨W2.heap.size, 0, none⟩) 1 [x]) := Lib.hid ((show Box (W2.alloc (.cells #[.int .i64 x.typ, .int .i64 x.id, .int .i64 x.adv, .int .i64 x.due] 35)).drew W2.heap.size 35 #[.int .i64 x.typ, .int .i64 x.id, .int .i64 x.adv, .int .i64 x.due] from Box.made _ _ _).inF [x] rfl)
    have HBL : Hid (B ≤ (W2.alloc (.cells #[.int .i64 x.typ, .int .i64 x.id, .int .i64 x.adv, .int .i64 x.due] 35)).drew.heap.size) := Lib.hid (Nat.le_trans HS4.out.1 hbE.size)
    have HBW := Lib.hid ((HB4.out).trans (hbE.mono HS4.out.1))
    have HNL : Hid ((A : Option Addr).map (·.block) ≠ some g) := Lib.hid (fun e => HNE.out g e rfl)
    clear hbE
    go_region_law (first | ((show (if Region.wanted (Oper.mk (some 38) _ _ _ _ _) _ = true then _ else _)); refine step_appI0 tcell_len tcell_one Try.underlying24 itemInfo rfl (by decide) (by decide) (by rfl) (.tmp 35) (.tmp 37) (by rfl) (B := B) (by rfl) HOL.out (by rfl) HE.out (by omega) HBL.out ?_; intro A3 c3 u3 ho3 hgr; have HO3 := Lib.hid ho3; have HG3 := Lib.hid (HGL.out.grown hgr HNL.out); have HB3 := Lib.hid (HBW.out.grown hgr HBL.out (fun r hr => (HOL.out.block r hr).1)); have k2 := HG3.out.look 2; have kf := HG3.out.free 2; have kl := HG3.out.lt; clear ho3 hgr))
    all_goals
      have HOF : Hid (OwnF 35 4 tcell u3 B A3 (n' + 1) c3 (putY cap ys x)) := Lib.hid (by rw [HPM.out.2]; exact HO3.out)
      obtain ⟨X, hX⟩ : ∃ X : World, X = u3.setCell ⟨g, 2, none⟩ (.slice A3 (n' + 1) c3) := ⟨_, rfl⟩
      have hgx : u3.grownBy X (some g) := by rw [hX]; exact setCell_grown _ _ _
      have HGF : Hid (Box X g 86 #[.int .i64 cap, .bool (putM cap mk ys x), .slice A3 (n' + 1) c3]) := Lib.hid (by rw [hX, HPM.out.1]; exact HG3.out.puts 2 (.slice A3 (n' + 1) c3) rfl)
      have HOX := Lib.hid (HOF.out.aside hgx (fun r hr e => OwnF.ne_box HOF.out HG3.out (by decide) (by rw [hr]; exact e.symm)))
      have HBX := Lib.hid (HB3.out.grown hgx (Nat.le_trans hBw HB3.out.size) (fun r hr => by injection hr with hr; omega))
      clear x0 x1 x2 x3 xl g2 gl k2 kf kl hgx HO3
      go_wp2
      rw [← hX]
      exact ⟨rfl, .tuple #[], by simp [results, Try.results55, go_sem], rfl, A3, n' + 1, c3, HGF.out, HOX.out, HBX.out⟩


end Go.Proofs.Ytomkgohhfllpgaa

namespace Go.Proofs.Ytomkgohhfllpgaa
open Go.RowKit
set_option linter.unusedVariables false

theorem ups_snoc {zs : List Int} {v l : Int} {p : Nat} (hu : ups zs) (hl : zs[p]? = some l) (hp : p + 1 = zs.length) : ups (zs ++ [v]) ↔ l < v := by
  have hpl := (List.getElem?_eq_some_iff.1 hl).1
  have hpe := (List.getElem?_eq_some_iff.1 hl).2
  rw [ups_pw, List.pairwise_append]
  constructor
  · intro h
    exact h.2.2 l (List.mem_of_getElem? hl) v (by simp)
  · intro h
    refine ⟨ups_pw.1 hu, by simp, fun a ha b hb => ?_⟩
    simp only [List.mem_singleton] at hb
    subst hb
    obtain ⟨i, hi, rfl⟩ := List.getElem_of_mem ha
    by_cases hip : i = p
    · subst hip; rw [hpe]; exact h
    · have := (List.pairwise_iff_getElem.1 (ups_pw.1 hu)) i p hi hpl (by omega)
      rw [hpe] at this; omega
theorem fit_0 {ys : List Tmr} {x : Tmr} (hy : ys = []) (h : 1 ≤ x.due ∧ x.due ≤ 100000) : fit ys x = 0 := by
  subst hy
  unfold fit
  rw [if_neg (fun h' => h' h), if_neg]
  intro h'
  exact h' (fun i hi => by simp [revs] at hi)
theorem fit_last {ys : List Tmr} {x l : Tmr} {p : Nat} (hu : ups (revs ys)) (hl : ys[p]? = some l) (hp : p + 1 = ys.length) (h : 1 ≤ x.due ∧ x.due ≤ 100000) : fit ys x = if x.due ≤ l.due then 1 else 0 := by
  have e := ups_snoc (v := x.due) hu (show (revs ys)[p]? = some l.due by simp [revs, hl]) (by rw [revs_len]; exact hp)
  unfold fit
  rw [if_neg (fun h' => h' h)]
  by_cases hle : x.due ≤ l.due
  · rw [if_pos hle, if_pos (fun h' => by have := e.1 h'; omega)]
  · rw [if_neg hle, if_neg (fun h' => h' (e.2 (by omega)))]

set_option maxRecDepth 100000 in
set_option maxHeartbeats 1600000 in
theorem l6Fits_any (cap : Int) (mk : Bool) (g b o : Nat) (q : Bool) (lo hi : Nat) (A : Option Addr) (n c : Nat) (ys : List Tmr) (x : Tmr) (w : World) (hg : Box w g 26 #[.int .i64 cap, .bool mk, .slice A n c]) (ha : Rep.timer.Sl q lo hi w A n ys) (hn : n ≤ 1000) (hx : w.cell? ⟨b, o + 3, none⟩ = some (.int .i64 x.due)) (hu : ups (revs ys)) :
    Calls Try.prog 62 #[.pointer (some ⟨g, 0, none⟩), .pointer (some ⟨b, o, none⟩)] w fun e w' => e = .returned (.int .i64 (fit ys x)) ∧ ∃ m, w' = w.drewN m := by
  have hl := ha.1
  have g2 := hg.look 2
  have gl := hg.lt
  have HU := Lib.hid hu
  clear hu
  by_cases hin : 1 ≤ x.due ∧ x.due ≤ 100000
  · have HI := Lib.hid (allIn_one_yes hin.1 hin.2)
    have HIN := Lib.hid hin
    clear hin
    rcases Nat.eq_zero_or_pos n with h0 | h0
    · subst h0
      have HF := Lib.hid (fit_0 (List.eq_nil_of_length_eq_zero hl) HIN.out)
      clear ha hg
      go_enter Try.func62, Try.ntmps62
      go_wp2_with fail
      refine (l1In_any x.due 1 100000 _).mono ?_
      rw [HI.out]
      rintro e w2 ⟨rfl, rfl⟩
      go_wp2
      go_quiet (fail)
      go_wp2
      go_ret
      exact ⟨by rw [HF.out]; rfl, _, rfl⟩
    · obtain ⟨p, hp⟩ : ∃ p, p + 1 = n := ⟨n - 1, by omega⟩
      obtain ⟨b2, o2, l, rfl, hya, l0, l1, l2, l3⟩ := Rep.timer_at ha (show p < n by omega)
      have hw : IntKind.i64.wrap ((n : Int) - 1) = (p : Int) := by rw [IntWalk.i64_in _ (by omega)]; omega
      have hpn : (p : Int) < n := by omega
      have hnp : (0 : Int) < n := by omega
      have HF := Lib.hid (fit_last HU.out hya (by omega) HIN.out)
      clear ha hg hya l0 l1 l2 hp hl
      by_cases hle : x.due ≤ l.due
      · have HR : Hid (fit ys x = 1) := Lib.hid (by rw [HF.out, if_pos hle])
        clear HF
        go_enter Try.func62, Try.ntmps62
        go_wp2_with fail
        refine (l1In_any x.due 1 100000 _).mono ?_
        rw [HI.out]
        rintro e w2 ⟨rfl, rfl⟩
        go_wp2
        go_quiet (fail)
        go_wp2
        go_ret
        exact ⟨by rw [HR.out]; rfl, _, rfl⟩
      · have HR : Hid (fit ys x = 0) := Lib.hid (by rw [HF.out, if_neg hle])
        clear HF
        go_enter Try.func62, Try.ntmps62
        go_wp2_with fail
        refine (l1In_any x.due 1 100000 _).mono ?_
        rw [HI.out]
        rintro e w2 ⟨rfl, rfl⟩
        go_wp2
        go_quiet (fail)
        go_wp2
        go_ret
        exact ⟨by rw [HR.out]; rfl, _, rfl⟩
  · have HI := Lib.hid (allIn_one_no hin)
    have HF : Hid (fit ys x = 3) := Lib.hid (if_pos hin)
    clear hin ha hg
    go_enter Try.func62, Try.ntmps62
    go_wp2_with fail
    refine (l1In_any x.due 1 100000 _).mono ?_
    rw [HI.out]
    rintro e w2 ⟨rfl, rfl⟩
    go_wp2
    go_ret
    exact ⟨by rw [HF.out]; rfl, 0, rfl⟩

end Go.Proofs.Ytomkgohhfllpgaa

namespace Go.Proofs.Ytomkgohhfllpgaa
open Go.RowKit
set_option linter.unusedVariables false

section
attribute [local go_sem high] eql_keyT neq_keyT

set_option maxRecDepth 100000 in
set_option maxHeartbeats 6400000 in
theorem l6Push_any (cap : Int) (mk : Bool) (g : Nat) (q : Bool) (lo hi : Nat) (A : Option Addr) (n c : Nat) (ys : List Tmr) (x : Tmr) (w : World) (hg : Box w g 26 #[.int .i64 cap, .bool mk, .slice A n c]) (ha : Rep.timer.Sl q lo hi w A n ys) (hh : hi ≤ w.heap.size) (hn : n ≤ 1000) (hle : (ys.length : Int) ≤ cap) :
    Calls Try.prog 63 #[.pointer (some ⟨g, 0, none⟩), .agg #[.int .i64 x.typ, .int .i64 x.id, .int .i64 x.adv, .int .i64 x.due]] w fun e w' => ∃ E m d, e = .returned (.agg #[.int .i64 cap, .bool (putM cap mk ys x), .slice E m d]) ∧ Hid (OwnF 35 4 tcell w' w.heap.size E m d (putY cap ys x)) ∧ Below w.heap.size w w' := by
  have hl := ha.1
  obtain ⟨V, hV⟩ : ∃ V : World, V = (w.alloc (.cells #[.int .i64 x.typ, .int .i64 x.id, .int .i64 x.adv, .int .i64 x.due] 35)).alloc (.cells #[.int .i64 0, .bool false, .slice none 0 0] 26) := ⟨_, rfl⟩
  have hbV : Below w.heap.size w V := by rw [hV]; exact ((Below.refl _ _).alloc (Nat.le_refl _) _).alloc (by simp) _
  have HX : Hid (Box V w.heap.size 35 #[.int .i64 x.typ, .int .i64 x.id, .int .i64 x.adv, .int .i64 x.due]) := Lib.hid (by rw [hV]; exact (Box.made _ _ _).over _)
  have HR : Hid (Box V (w.heap.size + 1) 26 #[.int .i64 0, .bool false, .slice none 0 0]) := Lib.hid (by rw [hV]; exact Box.made_at _ _ _ (by simp))
  have HG := Lib.hid (hg.below hbV)
  have HA := (Rep.Sl.kept ha hh).below hbV
  have HB := Lib.hid hbV
  have HZ : Hid (w.heap.size + 2 = V.heap.size ∧ g < w.heap.size) := Lib.hid ⟨by rw [hV]; simp, hg.lt⟩
  have HAV : Hid (hi ≤ V.heap.size) := Lib.hid (Nat.le_trans hh hbV.size)
  clear hg ha hbV
  go_enter Try.func63, Try.ntmps63
  go_upto_region 1 with (fail)
  rw [← hV]
  clear hV
  have SB : Hid (∀ W, Hid (Below V.heap.size V W) → (fun W : World => W.cell? ⟨g, 0, none⟩ = some (.int .i64 cap) ∧ W.cell? ⟨g, 1, none⟩ = some (.bool mk)) W) := fun W h => ⟨(HG.out.below h.out).look 0, (HG.out.below h.out).look 1⟩
  have V0 : Hid (Below V.heap.size V V.drew) := (Below.refl _ _).drew
  have VA : ∀ o, Hid (Below V.heap.size V (V.alloc o).drew) := fun o => ((Below.refl _ _).alloc (Nat.le_refl _) o).drew
  go_cut [5] (fun s5 wx => s5 = .pointer (some ⟨V.heap.size, 0, none⟩) ∧ Hid (Box wx V.heap.size 26 #[.int .i64 cap, .bool mk, .slice none 0 0]) ∧ Hid (Below V.heap.size V wx))
  case first =>
    go_region_held3 (fun W : World => W.cell? ⟨g, 0, none⟩ = some (.int .i64 cap) ∧ W.cell? ⟨g, 1, none⟩ = some (.bool mk)) (first | (with_reducible exact SB.out _ V0) | (with_reducible exact SB.out _ (VA _)))
      (fail)
    all_goals (go_wp2_with fail; go_meet; exact ⟨rfl, Lib.hid (show Box (V.alloc _).drew V.heap.size 26 _ from Box.made _ _ _), VA _⟩)
  obtain ⟨rfl, HQ, HV1⟩ := hcut
  obtain ⟨w1, rfl⟩ : ∃ W : World, W = wc := ⟨_, rfl⟩
  clear SB V0 VA
  go_wp2
  go_loopw [6] (fun i wr => ∃ (k : Nat) (E : Option Addr) (m d : Nat), k ≤ n ∧ i = .int .i64 k ∧ Hid (Box wr V.heap.size 26 #[.int .i64 cap, .bool mk, .slice E m d]) ∧ Hid (OwnF 35 4 tcell wr (V.heap.size + 1) E m d (without (ys.take k) x)) ∧ Hid (Below V.heap.size V wr)) (fun i _ => n - (intOf i).toNat)
  case atStart => exact ⟨0, none, 0, 0, Nat.zero_le _, rfl, HQ, Lib.hid (OwnF.nil_ _ _ _ _ _), HV1⟩
  case round =>
    obtain ⟨k, E, m, d, hk, rfl, HQ, HO, HV1⟩ := hrel
    by_cases hlt : k < n
    · obtain ⟨b, o, a, rfl, hya, a0, a1, a2, a3⟩ := Rep.timer_at (HA.below HV1.out).sl hlt
      have hlt' : (k : Int) < n := by omega
      have hm : m ≤ n := by have h1 := HO.out.1; have h2 := without_le (ys.take k) x; rw [List.length_take] at h2; omega
      have HYA := Lib.hid hya
      have g2 := (HG.out.below HV1.out).look 2
      have gl := (HG.out.below HV1.out).lt
      have x0 := (HX.out.below HV1.out).look 0
      have x1 := (HX.out.below HV1.out).look 1
      have x2 := (HX.out.below HV1.out).look 2
      have xl := (HX.out.below HV1.out).lt
      clear hya
      cases hkt : keyT a x with
      | true =>
        have HW := Lib.hid (without_take_yes HYA.out hkt)
        go_wp2
        go_quiet (fail)
        go_wp2
        go_roundw
        case rel => exact ⟨k + 1, E, m, d, by omega, by go_num, HQ, by rw [HW.out]; exact HO, Lib.hid (below_drewN HV1.out _)⟩
        case measure => simp [intOf]; omega
      | false =>
        have HW := Lib.hid (without_take_no HYA.out hkt)
        go_wp2
        go_quiet (fail)
        go_upto_region 6 with (fail)
        refine Code.wp_name ?_
        intro u hu
        have HVu : Hid (Below V.heap.size V u) := Lib.hid (by rw [hu]; first | exact below_drewN HV1.out _ | exact HV1.out.drew)
        have HQu : Hid (Box u V.heap.size 26 #[.int .i64 cap, .bool mk, .slice E m d]) := Lib.hid (by rw [hu]; exact HQ.out)
        have HOu : Hid (OwnF 35 4 tcell u (V.heap.size + 1) E m d (without (ys.take k) x)) := Lib.hid (by rw [hu]; exact HO.out)
        have b0 : u.cell? ⟨b, o + k * 4, none⟩ = some (.int .i64 a.typ) := by rw [hu]; exact a0
        have b1 : u.cell? ⟨b, o + k * 4 + 1, none⟩ = some (.int .i64 a.id) := by rw [hu]; exact a1
        have b2 : u.cell? ⟨b, o + k * 4 + 2, none⟩ = some (.int .i64 a.adv) := by rw [hu]; exact a2
        have b3 : u.cell? ⟨b, o + k * 4 + 3, none⟩ = some (.int .i64 a.due) := by rw [hu]; exact a3
        have bl := World.block_lt_of_cell? _ _ b0
        clear a0 a1 a2 a3 g2 gl x0 x1 x2 xl hu HQ HO
        have g2 := (HG.out.below HVu.out).look 2
        have gl := (HG.out.below HVu.out).lt
        have q2 := HQu.out.look 2
        have ql := HQu.out.lt
        have hbE : Below u.heap.size u (u.alloc (.cells #[.int .i64 a.typ, .int .i64 a.id, .int .i64 a.adv, .int .i64 a.due] 35)).drew := ((Below.refl _ _).alloc (Nat.le_refl _) _).drew
        have HOL : Hid (OwnF 35 4 tcell (u.alloc (.cells #[.int .i64 a.typ, .int .i64 a.id, .int .i64 a.adv, .int .i64 a.due] 35)).drew (V.heap.size + 1) E m d (without (ys.take k) x)) := Lib.hid (HOu.out.below hbE)
        have HQL : Hid (Box (u.alloc (.cells #[.int .i64 a.typ, .int .i64 a.id, .int .i64 a.adv, .int .i64 a.due] 35)).drew V.heap.size 26 #[.int .i64 cap, .bool mk, .slice E m d]) := Lib.hid (HQu.out.below hbE)
        have HE : Hid (InF 4 tcell (u.alloc (.cells #[.int .i64 a.typ, .int .i64 a.id, .int .i64 a.adv, .int .i64 a.due] 35)).drew (some ⟨u.heap.size, 0, none⟩) 1 [a]) := Lib.hid ((show Box (u.alloc (.cells #[.int .i64 a.typ, .int .i64 a.id, .int .i64 a.adv, .int .i64 a.due] 35)).drew u.heap.size 35 #[.int .i64 a.typ, .int .i64 a.id, .int .i64 a.adv, .int .i64 a.due] from Box.made _ _ _).inF [a] rfl)
        have HBL : Hid (V.heap.size + 1 ≤ (u.alloc (.cells #[.int .i64 a.typ, .int .i64 a.id, .int .i64 a.adv, .int .i64 a.due] 35)).drew.heap.size) := Lib.hid (Nat.le_trans ql hbE.size)
        have HVL := Lib.hid (HVu.out.trans (hbE.mono HVu.out.size))
        have HNE : Hid (E.map (·.block) ≠ some V.heap.size) := Lib.hid (OwnF.ne_box HOu.out HQu.out (by decide))
        clear hbE
        go_region_law (first | ((show (if Region.wanted (Oper.mk (some 46) _ _ _ _ _) _ = true then _ else _)); refine step_appI0 tcell_len tcell_one Try.underlying24 itemInfo rfl (by decide) (by decide) (by rfl) (.tmp 37) (.tmp 45) (by rfl) (B := V.heap.size + 1) (by rfl) HOL.out (by rfl) HE.out (by omega) HBL.out ?_; intro E3 d3 u3 ho3 hgr; have HO3 := Lib.hid ho3; have HQ3 := Lib.hid (HQL.out.grown hgr HNE.out); have HV3 := Lib.hid (HVL.out.grown hgr (Nat.le_of_succ_le HBL.out) (fun r hr => by have := (HOL.out.block r hr).1; omega)); have k2 := HQ3.out.look 2; have kf := HQ3.out.free 2; have kl := HQ3.out.lt; clear ho3 hgr))
        all_goals
          obtain ⟨X, hX⟩ : ∃ X : World, X = u3.setCell ⟨V.heap.size, 2, none⟩ (.slice E3 (m + 1) d3) := ⟨_, rfl⟩
          have hgx : u3.grownBy X (some V.heap.size) := by rw [hX]; exact setCell_grown _ _ _
          have HQX : Hid (Box X V.heap.size 26 #[.int .i64 cap, .bool mk, .slice E3 (m + 1) d3]) := Lib.hid (by rw [hX]; exact HQ3.out.puts 2 (.slice E3 (m + 1) d3) rfl)
          have HOX := Lib.hid (HO3.out.aside hgx (fun r hr e => by injection e with e; have := (HO3.out.block r hr).1; omega))
          have HVX := Lib.hid (HV3.out.grown hgx (Nat.le_of_lt kl) (fun r hr => by injection hr with hr; omega))
          clear b0 b1 b2 b3 bl g2 gl q2 ql k2 kf kl hgx HO3 HQ3 HV3 HVu
          go_wp2
          rw [← hX]
          go_roundw
          case rel => exact ⟨k + 1, E3, m + 1, d3, by omega, by go_num, HQX, by rw [HW.out]; exact HOX, HVX⟩
          case measure => simp [intOf]; omega
    · have HWY : Hid (without (ys.take k) x = without ys x) := Lib.hid (by rw [List.take_of_length_le (by omega)])
      have HOY : Hid (OwnF 35 4 tcell wr (V.heap.size + 1) E m d (without ys x)) := Lib.hid (by rw [← HWY.out]; exact HO.out)
      have hm : m ≤ 1000 := by have h1 := HOY.out.1; have h2 := without_le ys x; omega
      have hmc : (m : Int) ≤ cap := by have h1 := HOY.out.1; have h2 := without_le ys x; omega
      have HML := Lib.hid HOY.out.1
      have g0 := (HG.out.below HV1.out).look 0
      have g2 := (HG.out.below HV1.out).look 2
      have gl := (HG.out.below HV1.out).lt
      have q2 := HQ.out.look 2
      have ql := HQ.out.lt
      clear HO HWY
      go_wp2
      go_quiet (fail)
      obtain ⟨u, hu⟩ : ∃ W : World, W = wr.drewN nq := ⟨_, rfl⟩
      rw [← hu]
      have HVu : Hid (Below V.heap.size V u) := Lib.hid (by rw [hu]; first | exact below_drewN HV1.out _ | exact HV1.out.drew)
      have HQu : Hid (Box u V.heap.size 26 #[.int .i64 cap, .bool mk, .slice E m d]) := Lib.hid (by rw [hu]; exact HQ.out)
      have HOu : Hid (OwnF 35 4 tcell u (V.heap.size + 1) E m d (without ys x)) := Lib.hid (by rw [hu]; exact HOY.out)
      clear hu HQ HOY HV1 g0 g2 gl q2 ql
      by_cases hfull : ((without ys x).length : Int) = cap
      · have HPM : Hid (putM cap mk ys x = true ∧ putY cap ys x = [] ++ [x]) := Lib.hid ⟨if_pos hfull, by unfold putY; rw [if_pos hfull]; rfl⟩
        have hcm : cap ≤ (m : Int) := by rw [HML.out] at hfull; omega
        clear hfull
        have q1 := HQu.out.look 1
        have q2 := HQu.out.look 2
        have f1 := HQu.out.free 1
        have f2 := HQu.out.free 2
        have ql := HQu.out.lt
        go_upto_region 10 with (fail)
        refine Code.wp_name ?_
        intro T hT
        obtain ⟨u', hu'⟩ : ∃ W : World, W = (u.setCell ⟨V.heap.size, 2, none⟩ (.slice (some ⟨u.heap.size, 0, none⟩) 0 0)).setCell ⟨V.heap.size, 1, none⟩ (.bool true) := ⟨_, rfl⟩
        have hT2 : T = u'.alloc (.cells #[] 35) := by rw [hT, hu']
        have hus : u'.heap.size = u.heap.size := by rw [hu']; simp [World.setCell]
        have hgu : u.grownBy u' (some V.heap.size) := by rw [hu']; exact grown_trans (setCell_grown _ _ _) (setCell_grown _ _ _)
        have HQ' : Hid (Box u' V.heap.size 26 #[.int .i64 cap, .bool true, .slice (some ⟨u.heap.size, 0, none⟩) 0 0]) := Lib.hid (by rw [hu']; exact (HQu.out.puts 2 (.slice (some ⟨u.heap.size, 0, none⟩) 0 0) (cs' := #[.int .i64 cap, .bool mk, .slice (some ⟨u.heap.size, 0, none⟩) 0 0]) rfl).puts 1 (.bool true) (cs' := #[.int .i64 cap, .bool true, .slice (some ⟨u.heap.size, 0, none⟩) 0 0]) rfl)
        have hbT : Below u'.heap.size u' T := by rw [hT2]; exact (Below.refl _ _).alloc (Nat.le_refl _) _
        have HQT := Lib.hid (HQ'.out.below hbT)
        have HOT : Hid (OwnF 35 4 tcell T (V.heap.size + 1) (some ⟨u.heap.size, 0, none⟩) 0 0 []) := Lib.hid (by rw [hT2, ← hus]; exact (emptyF 35 4 tcell u').mono (by rw [hus]; exact ql))
        have HVT : Hid (Below V.heap.size V T) := Lib.hid ((HVu.out.grown hgu HVu.out.size (fun r hr => by injection hr with hr; omega)).trans (hbT.mono (by rw [hus]; exact HVu.out.size)))
        clear hT hT2 hu' hus hgu hbT
        clear q1 q2 f1 f2 ql HQu HOu HVu
        have q0 := HQT.out.look 0
        have q1 := HQT.out.look 1
        have q2 := HQT.out.look 2
        have ql := HQT.out.lt
        have x0 := (HX.out.below HVT.out).look 0
        have x1 := (HX.out.below HVT.out).look 1
        have x2 := (HX.out.below HVT.out).look 2
        have x3 := (HX.out.below HVT.out).look 3
        have xl := (HX.out.below HVT.out).lt
        have HNE : Hid ((some ⟨u.heap.size, 0, none⟩ : Option Addr).map (·.block) ≠ some V.heap.size) := Lib.hid (OwnF.ne_box HOT.out HQT.out (by decide))
        have hbE : Below T.heap.size T (T.alloc (.cells #[.int .i64 x.typ, .int .i64 x.id, .int .i64 x.adv, .int .i64 x.due] 35)) := (Below.refl _ _).alloc (Nat.le_refl _) _
        have HOL : Hid (OwnF 35 4 tcell (T.alloc (.cells #[.int .i64 x.typ, .int .i64 x.id, .int .i64 x.adv, .int .i64 x.due] 35)) (V.heap.size + 1) (some ⟨u.heap.size, 0, none⟩) 0 0 []) := Lib.hid (HOT.out.below hbE)
        have HQL : Hid (Box (T.alloc (.cells #[.int .i64 x.typ, .int .i64 x.id, .int .i64 x.adv, .int .i64 x.due] 35)) V.heap.size 26 #[.int .i64 cap, .bool true, .slice (some ⟨u.heap.size, 0, none⟩) 0 0]) := Lib.hid (HQT.out.below hbE)
        have HE : Hid (InF 4 tcell (T.alloc (.cells #[.int .i64 x.typ, .int .i64 x.id, .int .i64 x.adv, .int .i64 x.due] 35)) (some ⟨T.heap.size, 0, none⟩) 1 [x]) := Lib.hid ((Box.made T 35 #[.int .i64 x.typ, .int .i64 x.id, .int .i64 x.adv, .int .i64 x.due]).inF [x] rfl)
        have HBL : Hid (V.heap.size + 1 ≤ (T.alloc (.cells #[.int .i64 x.typ, .int .i64 x.id, .int .i64 x.adv, .int .i64 x.due] 35)).heap.size) := Lib.hid (Nat.le_trans ql hbE.size)
        have HVL := Lib.hid (HVT.out.trans (hbE.mono HVT.out.size))
        clear hbE
        go_wp2_with (at_builtin; refine wpList_appF0 tcell_len tcell_one Try.underlying24 itemInfo rfl (by decide) (by decide) rfl (.tmp 60) (.tmp 62) rfl (B := V.heap.size + 1) rfl HOL.out rfl HE.out (by omega) HBL.out ?_; intro E3 d3 u3 ho3 hgr; have HO3 := Lib.hid ho3; have HQ3 := Lib.hid (HQL.out.grown hgr HNE.out); have HV3 := Lib.hid (HVL.out.grown hgr (Nat.le_of_succ_le HBL.out) (fun r hr => by have := (HOL.out.block r hr).1; omega)); have HR3 := Lib.hid (HR.out.below HV3.out); have k0 := HQ3.out.look 0; have k1 := HQ3.out.look 1; have k2 := HQ3.out.look 2; have kf := HQ3.out.free 2; have kl := HQ3.out.lt; have r0 := HR3.out.look 0; have r1 := HR3.out.look 1; have r2 := HR3.out.look 2; have p0 := HR3.out.free 0; have p1 := HR3.out.free 1; have p2 := HR3.out.free 2; have rl := HR3.out.lt; have hqr : ¬ V.heap.size = w.heap.size + 1 := (by have := HZ.out.1; omega); have hrq : ¬ w.heap.size + 1 = V.heap.size := (by have := HZ.out.1; omega); clear ho3 hgr q0 q1 q2 ql x0 x1 x2 x3 xl)
        obtain ⟨X1, hX1⟩ : ∃ X : World, X = u3.setCell ⟨V.heap.size, 2, none⟩ (.slice E3 (0 + 1) d3) := ⟨_, rfl⟩
        have hg1 : u3.grownBy X1 (some V.heap.size) := by rw [hX1]; exact setCell_grown _ _ _
        have HR4 := Lib.hid (HR3.out.grown hg1 (fun e => by injection e with e; have := HZ.out.1; omega))
        have HO4 := Lib.hid (HO3.out.aside hg1 (fun r hr e => by injection e with e; have := (HO3.out.block r hr).1; omega))
        have HV4 := Lib.hid (HV3.out.grown hg1 (Nat.le_of_lt kl) (fun r hr => by injection hr with hr; omega))
        obtain ⟨X, hX⟩ : ∃ X : World, X = ((X1.setCell ⟨w.heap.size + 1, 0, none⟩ (.int .i64 cap)).setCell ⟨w.heap.size + 1, 1, none⟩ (.bool true)).setCell ⟨w.heap.size + 1, 2, none⟩ (.slice E3 (0 + 1) d3) := ⟨_, rfl⟩
        have ho5 : Only (w.heap.size + 1) (w.heap.size + 1 + 1) X1 X := by rw [hX]; exact (((Only.refl _ _ _).set (p := ⟨w.heap.size + 1, 0, none⟩) (Nat.le_refl _) (Nat.lt_succ_self _) _).set (p := ⟨w.heap.size + 1, 1, none⟩) (Nat.le_refl _) (Nat.lt_succ_self _) _).set (p := ⟨w.heap.size + 1, 2, none⟩) (Nat.le_refl _) (Nat.lt_succ_self _) _
        have HRX : Hid (Box X (w.heap.size + 1) 26 #[.int .i64 cap, .bool true, .slice E3 (0 + 1) d3]) := Lib.hid (by rw [hX]; exact ((HR4.out.puts 0 (.int .i64 cap) (cs' := #[.int .i64 cap, .bool false, .slice none 0 0]) rfl).puts 1 (.bool true) (cs' := #[.int .i64 cap, .bool true, .slice none 0 0]) rfl).puts 2 (.slice E3 (0 + 1) d3) (cs' := #[.int .i64 cap, .bool true, .slice E3 (0 + 1) d3]) rfl)
        have HOX : Hid (OwnF 35 4 tcell X w.heap.size E3 (0 + 1) d3 (putY cap ys x)) := Lib.hid (by rw [HPM.out.2]; exact (HO4.out.aside (Only.grown_ ho5) (fun r hr e => by injection e with e; have := (HO4.out.block r hr).1; have := HZ.out.1; omega)).mono (by have := HZ.out.1; omega))
        have HBX : Hid (Below w.heap.size w X) := Lib.hid (Below.only (HB.out.trans (HV4.out.mono (by have := HZ.out.1; omega))) ho5 (Nat.le_succ _) (by have := HV4.out.size; have := HZ.out.1; omega))
        clear k0 k1 k2 kf kl r0 r1 r2 p0 p1 p2 rl hqr hrq hg1 ho5 HR4 HO4 HV4 HO3 HQ3 HV3 HR3
        try go_wp2
        have y0 := HRX.out.look 0
        have y1 := HRX.out.look 1
        have y2 := HRX.out.look 2
        subst hX hX1
        exact bodyPost_ret (v := .agg #[.int .i64 cap, .bool true, .slice E3 (0 + 1) d3]) (by simp [results, Try.results63, go_sem, y0, y1, y2]) rfl (by rw [HPM.out.1]; exact ⟨E3, 0 + 1, d3, rfl, HOX, HBX.out⟩)
      · have HPM : Hid (putM cap mk ys x = mk ∧ putY cap ys x = (without ys x) ++ [x]) := Lib.hid ⟨if_neg hfull, by unfold putY; rw [if_neg hfull]⟩
        have hcm : ¬ cap ≤ (m : Int) := by rw [HML.out] at hfull; omega
        clear hfull
        have q1 := HQu.out.look 1
        have q2 := HQu.out.look 2
        have f1 := HQu.out.free 1
        have f2 := HQu.out.free 2
        have ql := HQu.out.lt
        go_upto_region 10 with (fail)
        refine Code.wp_name ?_
        intro T hT
        have HQT : Hid (Box T V.heap.size 26 #[.int .i64 cap, .bool mk, .slice E m d]) := Lib.hid (by rw [hT]; exact HQu.out)
        have HOT : Hid (OwnF 35 4 tcell T (V.heap.size + 1) E m d (without ys x)) := Lib.hid (by rw [hT]; exact HOu.out)
        have HVT : Hid (Below V.heap.size V T) := Lib.hid (by rw [hT]; exact HVu.out)
        clear hT
        clear q1 q2 f1 f2 ql HQu HOu HVu
        have q0 := HQT.out.look 0
        have q1 := HQT.out.look 1
        have q2 := HQT.out.look 2
        have ql := HQT.out.lt
        have x0 := (HX.out.below HVT.out).look 0
        have x1 := (HX.out.below HVT.out).look 1
        have x2 := (HX.out.below HVT.out).look 2
        have x3 := (HX.out.below HVT.out).look 3
        have xl := (HX.out.below HVT.out).lt
        have HNE : Hid ((E : Option Addr).map (·.block) ≠ some V.heap.size) := Lib.hid (OwnF.ne_box HOT.out HQT.out (by decide))
        have hbE : Below T.heap.size T (T.alloc (.cells #[.int .i64 x.typ, .int .i64 x.id, .int .i64 x.adv, .int .i64 x.due] 35)) := (Below.refl _ _).alloc (Nat.le_refl _) _
        have HOL : Hid (OwnF 35 4 tcell (T.alloc (.cells #[.int .i64 x.typ, .int .i64 x.id, .int .i64 x.adv, .int .i64 x.due] 35)) (V.heap.size + 1) (E) m d (without ys x)) := Lib.hid (HOT.out.below hbE)
        have HQL : Hid (Box (T.alloc (.cells #[.int .i64 x.typ, .int .i64 x.id, .int .i64 x.adv, .int .i64 x.due] 35)) V.heap.size 26 #[.int .i64 cap, .bool mk, .slice (E) m d]) := Lib.hid (HQT.out.below hbE)
        have HE : Hid (InF 4 tcell (T.alloc (.cells #[.int .i64 x.typ, .int .i64 x.id, .int .i64 x.adv, .int .i64 x.due] 35)) (some ⟨T.heap.size, 0, none⟩) 1 [x]) := Lib.hid ((Box.made T 35 #[.int .i64 x.typ, .int .i64 x.id, .int .i64 x.adv, .int .i64 x.due]).inF [x] rfl)
        have HBL : Hid (V.heap.size + 1 ≤ (T.alloc (.cells #[.int .i64 x.typ, .int .i64 x.id, .int .i64 x.adv, .int .i64 x.due] 35)).heap.size) := Lib.hid (Nat.le_trans ql hbE.size)
        have HVL := Lib.hid (HVT.out.trans (hbE.mono HVT.out.size))
        clear hbE
        go_wp2_with (at_builtin; refine wpList_appF0 tcell_len tcell_one Try.underlying24 itemInfo rfl (by decide) (by decide) rfl (.tmp 60) (.tmp 62) rfl (B := V.heap.size + 1) rfl HOL.out rfl HE.out (by omega) HBL.out ?_; intro E3 d3 u3 ho3 hgr; have HO3 := Lib.hid ho3; have HQ3 := Lib.hid (HQL.out.grown hgr HNE.out); have HV3 := Lib.hid (HVL.out.grown hgr (Nat.le_of_succ_le HBL.out) (fun r hr => by have := (HOL.out.block r hr).1; omega)); have HR3 := Lib.hid (HR.out.below HV3.out); have k0 := HQ3.out.look 0; have k1 := HQ3.out.look 1; have k2 := HQ3.out.look 2; have kf := HQ3.out.free 2; have kl := HQ3.out.lt; have r0 := HR3.out.look 0; have r1 := HR3.out.look 1; have r2 := HR3.out.look 2; have p0 := HR3.out.free 0; have p1 := HR3.out.free 1; have p2 := HR3.out.free 2; have rl := HR3.out.lt; have hqr : ¬ V.heap.size = w.heap.size + 1 := (by have := HZ.out.1; omega); have hrq : ¬ w.heap.size + 1 = V.heap.size := (by have := HZ.out.1; omega); clear ho3 hgr q0 q1 q2 ql x0 x1 x2 x3 xl)
        obtain ⟨X1, hX1⟩ : ∃ X : World, X = u3.setCell ⟨V.heap.size, 2, none⟩ (.slice E3 (m + 1) d3) := ⟨_, rfl⟩
        have hg1 : u3.grownBy X1 (some V.heap.size) := by rw [hX1]; exact setCell_grown _ _ _
        have HR4 := Lib.hid (HR3.out.grown hg1 (fun e => by injection e with e; have := HZ.out.1; omega))
        have HO4 := Lib.hid (HO3.out.aside hg1 (fun r hr e => by injection e with e; have := (HO3.out.block r hr).1; omega))
        have HV4 := Lib.hid (HV3.out.grown hg1 (Nat.le_of_lt kl) (fun r hr => by injection hr with hr; omega))
        obtain ⟨X, hX⟩ : ∃ X : World, X = ((X1.setCell ⟨w.heap.size + 1, 0, none⟩ (.int .i64 cap)).setCell ⟨w.heap.size + 1, 1, none⟩ (.bool mk)).setCell ⟨w.heap.size + 1, 2, none⟩ (.slice E3 (m + 1) d3) := ⟨_, rfl⟩
        have ho5 : Only (w.heap.size + 1) (w.heap.size + 1 + 1) X1 X := by rw [hX]; exact (((Only.refl _ _ _).set (p := ⟨w.heap.size + 1, 0, none⟩) (Nat.le_refl _) (Nat.lt_succ_self _) _).set (p := ⟨w.heap.size + 1, 1, none⟩) (Nat.le_refl _) (Nat.lt_succ_self _) _).set (p := ⟨w.heap.size + 1, 2, none⟩) (Nat.le_refl _) (Nat.lt_succ_self _) _
        have HRX : Hid (Box X (w.heap.size + 1) 26 #[.int .i64 cap, .bool mk, .slice E3 (m + 1) d3]) := Lib.hid (by rw [hX]; exact ((HR4.out.puts 0 (.int .i64 cap) (cs' := #[.int .i64 cap, .bool false, .slice none 0 0]) rfl).puts 1 (.bool mk) (cs' := #[.int .i64 cap, .bool mk, .slice none 0 0]) rfl).puts 2 (.slice E3 (m + 1) d3) (cs' := #[.int .i64 cap, .bool mk, .slice E3 (m + 1) d3]) rfl)
        have HOX : Hid (OwnF 35 4 tcell X w.heap.size E3 (m + 1) d3 (putY cap ys x)) := Lib.hid (by rw [HPM.out.2]; exact (HO4.out.aside (Only.grown_ ho5) (fun r hr e => by injection e with e; have := (HO4.out.block r hr).1; have := HZ.out.1; omega)).mono (by have := HZ.out.1; omega))
        have HBX : Hid (Below w.heap.size w X) := Lib.hid (Below.only (HB.out.trans (HV4.out.mono (by have := HZ.out.1; omega))) ho5 (Nat.le_succ _) (by have := HV4.out.size; have := HZ.out.1; omega))
        clear k0 k1 k2 kf kl r0 r1 r2 p0 p1 p2 rl hqr hrq hg1 ho5 HR4 HO4 HV4 HO3 HQ3 HV3 HR3
        try go_wp2
        have y0 := HRX.out.look 0
        have y1 := HRX.out.look 1
        have y2 := HRX.out.look 2
        subst hX hX1
        exact bodyPost_ret (v := .agg #[.int .i64 cap, .bool mk, .slice E3 (m + 1) d3]) (by simp [results, Try.results63, go_sem, y0, y1, y2]) rfl (by rw [HPM.out.1]; exact ⟨E3, m + 1, d3, rfl, HOX, HBX.out⟩)
end

end Go.Proofs.Ytomkgohhfllpgaa

namespace Go.Proofs.Ytomkgohhfllpgaa
open Go.RowKit
set_option linter.unusedVariables false

set_option maxRecDepth 100000 in
set_option maxHeartbeats 6400000 in
theorem pushAll_any (cap : Int) (mk : Bool) (q : Bool) (lo hi : Nat) (A : Option Addr) (n c : Nat) (ys : List Tmr) (q2 : Bool) (lo2 hi2 : Nat) (A2 : Option Addr) (n2 c2 : Nat) (xs : List Tmr) (w : World) (ha : Rep.timer.Sl q lo hi w A n ys) (hh : hi ≤ w.heap.size) (hn : n ≤ 1048576) (hx : Rep.timer.Sl q2 lo2 hi2 w A2 n2 xs) (hh2 : hi2 ≤ w.heap.size) (hn2 : n2 ≤ 1048576) (hc : n ≤ c) :
    Calls Try.prog 14 #[.agg #[.int .i64 cap, .bool mk, .slice A n c], .slice A2 n2 c2] w fun e w' => ∃ O j k E m d, e = .returned (.agg #[.int .i64 (paC cap mk ys xs), .int .i64 (paX cap mk ys xs), .bool (paP cap mk ys xs), .slice O j k, .bool (paT ys), .slice E m d]) ∧ Kept w.heap.size w'.heap.size (QK w.heap.size w'.heap.size O j (paU cap mk ys xs) E m (paZ ys)) w' ∧ Below w.heap.size w w' := by
  have hl := ha.1
  have hl2 := hx.1
  by_cases h0 : ¬ qf cap ys = 0
  · have HB := Lib.hid (Below.refl w.heap.size w)
    have HA := Rep.Sl.kept ha hh
    have Zh := Lib.hid hh
    have HXS := Rep.Sl.kept hx hh2
    have Zh2 := Lib.hid hh2
    obtain ⟨r, hr⟩ : ∃ z, qf cap ys = z := ⟨_, rfl⟩
    have HR := Lib.hid hr
    have h0r : ¬ r = 0 := by rw [← hr]; exact h0
    have hr0 : (r != 0) = true := by simpa using h0r
    have HV : Hid (paC cap mk ys xs = r ∧ paX cap mk ys xs = 0 ∧ paP cap mk ys xs = false ∧ paU cap mk ys xs = [] ∧ paT ys = false ∧ paZ ys = []) := Lib.hid (by refine ⟨?_, ?_, ?_, ?_, ?_, ?_⟩ <;> simp [paC, paX, paP, paU, paT, paZ, hr, h0r])
    clear h0 hr h0r
    clear ha hl hh hx hl2 hh2
    go_enter Try.func14, Try.ntmps14
    go_wp2_with fail
    refine Calls.name ?_
    intro U1 hU1
    have hb : Below w.heap.size w U1 := by rw [hU1]; exact (((Below.refl _ _).alloc (Nat.le_refl _) _).alloc (by simp <;> omega) _)
    have zz : Hid (w.heap.size + 2 = U1.heap.size) := Lib.hid (by rw [hU1]; simp)
    have HX1 : Kept w.heap.size (w.heap.size + 1) (BoxK w.heap.size 26 #[.int .i64 cap, .bool mk, .slice A n c]) U1 := by rw [hU1]; exact Kept.box ((Box.made_at _ _ _ rfl).over _)
    have HX2 : Kept (w.heap.size + 1) (w.heap.size + 1 + 1) (BoxK (w.heap.size + 1) 30 #[.int .i64 0, .int .i64 0, .bool false, .slice none 0 0, .bool false, .slice none 0 0]) U1 := by rw [hU1]; exact Kept.box (Box.made_at _ _ _ (by simp <;> omega))
    replace HA := HA.below hb
    replace HXS := HXS.below hb
    replace HB := Lib.hid (below_step HB.out hb)
    clear hb
    have Z1 := zz; clear zz
    clear hU1
    refine (queueFault_any cap mk q lo hi A n c ys _ HA.sl HA.le hn hc).mono ?_
    rw [HR.out]
    rintro e w2 ⟨rfl, hb⟩
    have Z2 := Lib.hid hb.size
    replace HA := HA.below hb
    replace HXS := HXS.below hb
    replace HX1 := HX1.below hb
    replace HX2 := HX2.below hb
    replace HB := Lib.hid (below_step HB.out hb)
    clear hb
    have c2_0 := HX2.look 0
    have c2_1 := HX2.look 1
    have c2_2 := HX2.look 2
    have c2_3 := HX2.look 3
    have c2_4 := HX2.look 4
    have c2_5 := HX2.look 5
    have f2_0 := HX2.free 0
    have f2_1 := HX2.free 1
    have f2_2 := HX2.free 2
    have f2_3 := HX2.free 3
    have f2_4 := HX2.free 4
    have f2_5 := HX2.free 5
    have l2_0 := HX1.bx.lt
    have l2_1 := HX2.bx.lt
    go_wp2
    clear c2_0 c2_1 c2_2 c2_3 c2_4 c2_5 f2_0 f2_1 f2_2 f2_3 f2_4 f2_5 l2_0 l2_1
    obtain ⟨U3, hU3⟩ : ∃ W : World, W = ((((((w2.setCell ⟨w.heap.size + 1, 0, none⟩ (.int .i64 r)).setCell ⟨w.heap.size + 1, 1, none⟩ (.int .i64 0)).setCell ⟨w.heap.size + 1, 2, none⟩ (.bool false)).setCell ⟨w.heap.size + 1, 3, none⟩ (.slice none 0 0)).setCell ⟨w.heap.size + 1, 4, none⟩ (.bool false)).setCell ⟨w.heap.size + 1, 5, none⟩ (.slice none 0 0)) := ⟨_, rfl⟩
    have ho : Only (w.heap.size + 1) (w.heap.size + 1 + 1) w2 U3 := by rw [hU3]; exact (((((((Only.refl _ _ _).set (p := ⟨w.heap.size + 1, 0, none⟩) (Nat.le_refl _) (Nat.lt_succ_self _) _).set (p := ⟨w.heap.size + 1, 1, none⟩) (Nat.le_refl _) (Nat.lt_succ_self _) _).set (p := ⟨w.heap.size + 1, 2, none⟩) (Nat.le_refl _) (Nat.lt_succ_self _) _).set (p := ⟨w.heap.size + 1, 3, none⟩) (Nat.le_refl _) (Nat.lt_succ_self _) _).set (p := ⟨w.heap.size + 1, 4, none⟩) (Nat.le_refl _) (Nat.lt_succ_self _) _).set (p := ⟨w.heap.size + 1, 5, none⟩) (Nat.le_refl _) (Nat.lt_succ_self _) _)
    replace HX2 : Kept (w.heap.size + 1) (w.heap.size + 1 + 1) (BoxK (w.heap.size + 1) 30 #[.int .i64 r, .int .i64 0, .bool false, .slice none 0 0, .bool false, .slice none 0 0]) U3 := by rw [hU3]; exact Kept.box ((((((HX2.bx.puts 0 (.int .i64 r) (cs' := #[.int .i64 r, .int .i64 0, .bool false, .slice none 0 0, .bool false, .slice none 0 0]) rfl).puts 1 (.int .i64 0) (cs' := #[.int .i64 r, .int .i64 0, .bool false, .slice none 0 0, .bool false, .slice none 0 0]) rfl).puts 2 (.bool false) (cs' := #[.int .i64 r, .int .i64 0, .bool false, .slice none 0 0, .bool false, .slice none 0 0]) rfl).puts 3 (.slice none 0 0) (cs' := #[.int .i64 r, .int .i64 0, .bool false, .slice none 0 0, .bool false, .slice none 0 0]) rfl).puts 4 (.bool false) (cs' := #[.int .i64 r, .int .i64 0, .bool false, .slice none 0 0, .bool false, .slice none 0 0]) rfl).puts 5 (.slice none 0 0) (cs' := #[.int .i64 r, .int .i64 0, .bool false, .slice none 0 0, .bool false, .slice none 0 0]) rfl)
    replace HA := HA.only ho (by have := Zh.out; have := Zh2.out; have := Z1.out; have := Z2.out; omega)
    replace HXS := HXS.only ho (by have := Zh.out; have := Zh2.out; have := Z1.out; have := Z2.out; omega)
    replace HX1 := HX1.only ho (by have := Zh.out; have := Zh2.out; have := Z1.out; have := Z2.out; omega)
    replace HB := Lib.hid (Below.only HB.out ho (by have := Zh.out; have := Zh2.out; have := Z1.out; have := Z2.out; omega) HB.out.size)
    have Z3 : Hid (U3.heap.size = w2.heap.size) := Lib.hid (by rw [hU3]; simp [World.setCell]); clear ho
    have q_0 := HX2.look 0
    have q_1 := HX2.look 1
    have q_2 := HX2.look 2
    have q_3 := HX2.look 3
    have q_4 := HX2.look 4
    have q_5 := HX2.look 5
    subst hU3
    exact bodyPost_ret (v := .agg #[.int .i64 r, .int .i64 0, .bool false, .slice none 0 0, .bool false, .slice none 0 0]) (by simp [results, Try.results14, go_sem, q_0, q_1, q_2, q_3, q_4, q_5]) rfl ⟨none, 0, 0, none, 0, 0, by rw [HV.out.1, HV.out.2.1, HV.out.2.2.1, HV.out.2.2.2.2.1], by rw [HV.out.2.2.2.1, HV.out.2.2.2.2.2]; exact QK.kept (QK.nil _ _ _ _ _) (Nat.le_refl _), HB.out⟩
  have h0 : qf cap ys = 0 := Classical.byContradiction h0
  by_cases h1 : 100 < xs.length
  · have HB := Lib.hid (Below.refl w.heap.size w)
    have HA := Rep.Sl.kept ha hh
    have Zh := Lib.hid hh
    have HXS := Rep.Sl.kept hx hh2
    have Zh2 := Lib.hid hh2
    have HR := Lib.hid h0
    have hm1 : 100 < n2 := by omega
    have hm2 : (100 : Int) < n2 := by omega
    have HV : Hid (paC cap mk ys xs = 2 ∧ paX cap mk ys xs = 0 ∧ paP cap mk ys xs = false ∧ paU cap mk ys xs = [] ∧ paT ys = false ∧ paZ ys = []) := Lib.hid (by refine ⟨?_, ?_, ?_, ?_, ?_, ?_⟩ <;> simp [paC, paX, paP, paU, paT, paZ, h0, h1])
    clear h0 h1 hm1
    clear ha hl hh hx hl2 hh2
    go_enter Try.func14, Try.ntmps14
    go_wp2_with fail
    refine Calls.name ?_
    intro U1 hU1
    have hb : Below w.heap.size w U1 := by rw [hU1]; exact (((Below.refl _ _).alloc (Nat.le_refl _) _).alloc (by simp <;> omega) _)
    have zz : Hid (w.heap.size + 2 = U1.heap.size) := Lib.hid (by rw [hU1]; simp)
    have HX1 : Kept w.heap.size (w.heap.size + 1) (BoxK w.heap.size 26 #[.int .i64 cap, .bool mk, .slice A n c]) U1 := by rw [hU1]; exact Kept.box ((Box.made_at _ _ _ rfl).over _)
    have HX2 : Kept (w.heap.size + 1) (w.heap.size + 1 + 1) (BoxK (w.heap.size + 1) 30 #[.int .i64 0, .int .i64 0, .bool false, .slice none 0 0, .bool false, .slice none 0 0]) U1 := by rw [hU1]; exact Kept.box (Box.made_at _ _ _ (by simp <;> omega))
    replace HA := HA.below hb
    replace HXS := HXS.below hb
    replace HB := Lib.hid (below_step HB.out hb)
    clear hb
    have Z1 := zz; clear zz
    clear hU1
    refine (queueFault_any cap mk q lo hi A n c ys _ HA.sl HA.le hn hc).mono ?_
    rw [HR.out]
    rintro e w2 ⟨rfl, hb⟩
    have Z2 := Lib.hid hb.size
    replace HA := HA.below hb
    replace HXS := HXS.below hb
    replace HX1 := HX1.below hb
    replace HX2 := HX2.below hb
    replace HB := Lib.hid (below_step HB.out hb)
    clear hb
    have c2_0 := HX2.look 0
    have c2_1 := HX2.look 1
    have c2_2 := HX2.look 2
    have c2_3 := HX2.look 3
    have c2_4 := HX2.look 4
    have c2_5 := HX2.look 5
    have f2_0 := HX2.free 0
    have f2_1 := HX2.free 1
    have f2_2 := HX2.free 2
    have f2_3 := HX2.free 3
    have f2_4 := HX2.free 4
    have f2_5 := HX2.free 5
    have l2_0 := HX1.bx.lt
    have l2_1 := HX2.bx.lt
    go_wp2
    clear c2_0 c2_1 c2_2 c2_3 c2_4 c2_5 f2_0 f2_1 f2_2 f2_3 f2_4 f2_5 l2_0 l2_1
    obtain ⟨U3, hU3⟩ : ∃ W : World, W = ((((((w2.setCell ⟨w.heap.size + 1, 0, none⟩ (.int .i64 2)).setCell ⟨w.heap.size + 1, 1, none⟩ (.int .i64 0)).setCell ⟨w.heap.size + 1, 2, none⟩ (.bool false)).setCell ⟨w.heap.size + 1, 3, none⟩ (.slice none 0 0)).setCell ⟨w.heap.size + 1, 4, none⟩ (.bool false)).setCell ⟨w.heap.size + 1, 5, none⟩ (.slice none 0 0)) := ⟨_, rfl⟩
    have ho : Only (w.heap.size + 1) (w.heap.size + 1 + 1) w2 U3 := by rw [hU3]; exact (((((((Only.refl _ _ _).set (p := ⟨w.heap.size + 1, 0, none⟩) (Nat.le_refl _) (Nat.lt_succ_self _) _).set (p := ⟨w.heap.size + 1, 1, none⟩) (Nat.le_refl _) (Nat.lt_succ_self _) _).set (p := ⟨w.heap.size + 1, 2, none⟩) (Nat.le_refl _) (Nat.lt_succ_self _) _).set (p := ⟨w.heap.size + 1, 3, none⟩) (Nat.le_refl _) (Nat.lt_succ_self _) _).set (p := ⟨w.heap.size + 1, 4, none⟩) (Nat.le_refl _) (Nat.lt_succ_self _) _).set (p := ⟨w.heap.size + 1, 5, none⟩) (Nat.le_refl _) (Nat.lt_succ_self _) _)
    replace HX2 : Kept (w.heap.size + 1) (w.heap.size + 1 + 1) (BoxK (w.heap.size + 1) 30 #[.int .i64 2, .int .i64 0, .bool false, .slice none 0 0, .bool false, .slice none 0 0]) U3 := by rw [hU3]; exact Kept.box ((((((HX2.bx.puts 0 (.int .i64 2) (cs' := #[.int .i64 2, .int .i64 0, .bool false, .slice none 0 0, .bool false, .slice none 0 0]) rfl).puts 1 (.int .i64 0) (cs' := #[.int .i64 2, .int .i64 0, .bool false, .slice none 0 0, .bool false, .slice none 0 0]) rfl).puts 2 (.bool false) (cs' := #[.int .i64 2, .int .i64 0, .bool false, .slice none 0 0, .bool false, .slice none 0 0]) rfl).puts 3 (.slice none 0 0) (cs' := #[.int .i64 2, .int .i64 0, .bool false, .slice none 0 0, .bool false, .slice none 0 0]) rfl).puts 4 (.bool false) (cs' := #[.int .i64 2, .int .i64 0, .bool false, .slice none 0 0, .bool false, .slice none 0 0]) rfl).puts 5 (.slice none 0 0) (cs' := #[.int .i64 2, .int .i64 0, .bool false, .slice none 0 0, .bool false, .slice none 0 0]) rfl)
    replace HA := HA.only ho (by have := Zh.out; have := Zh2.out; have := Z1.out; have := Z2.out; omega)
    replace HXS := HXS.only ho (by have := Zh.out; have := Zh2.out; have := Z1.out; have := Z2.out; omega)
    replace HX1 := HX1.only ho (by have := Zh.out; have := Zh2.out; have := Z1.out; have := Z2.out; omega)
    replace HB := Lib.hid (Below.only HB.out ho (by have := Zh.out; have := Zh2.out; have := Z1.out; have := Z2.out; omega) HB.out.size)
    have Z3 : Hid (U3.heap.size = w2.heap.size) := Lib.hid (by rw [hU3]; simp [World.setCell]); clear ho
    have q_0 := HX2.look 0
    have q_1 := HX2.look 1
    have q_2 := HX2.look 2
    have q_3 := HX2.look 3
    have q_4 := HX2.look 4
    have q_5 := HX2.look 5
    subst hU3
    exact bodyPost_ret (v := .agg #[.int .i64 2, .int .i64 0, .bool false, .slice none 0 0, .bool false, .slice none 0 0]) (by simp [results, Try.results14, go_sem, q_0, q_1, q_2, q_3, q_4, q_5]) rfl ⟨none, 0, 0, none, 0, 0, by rw [HV.out.1, HV.out.2.1, HV.out.2.2.1, HV.out.2.2.2.2.1], by rw [HV.out.2.2.2.1, HV.out.2.2.2.2.2]; exact QK.kept (QK.nil _ _ _ _ _) (Nat.le_refl _), HB.out⟩
  have HB := Lib.hid (Below.refl w.heap.size w)
  have HA := Rep.Sl.kept ha hh
  have Zh := Lib.hid hh
  have HXS := Rep.Sl.kept hx hh2
  have Zh2 := Lib.hid hh2
  have HR := Lib.hid h0
  have hq8 := qf_ok h0
  have hn8 : n ≤ 1000 := by have := hq8.2.2.1; omega
  have HPI := Lib.hid (PInv.of_qf h0)
  have hn100 : n2 ≤ 100 := by omega
  have hm2 : ¬ (100 : Int) < n2 := by omega
  have HLX := Lib.hid hl2
  obtain ⟨pc, hpc⟩ : ∃ z, (pushL cap xs mk ys).1 = z := ⟨_, rfl⟩
  obtain ⟨pm, hpm⟩ : ∃ z, (pushL cap xs mk ys).2.1 = z := ⟨_, rfl⟩
  obtain ⟨pu, hpu⟩ : ∃ z, (pushL cap xs mk ys).2.2 = z := ⟨_, rfl⟩
  have HV : Hid (paC cap mk ys xs = pc ∧ paX cap mk ys xs = (if pc = 0 then cap else 0) ∧ paP cap mk ys xs = pm ∧ paU cap mk ys xs = pu ∧ paT ys = false ∧ paZ ys = []) := Lib.hid (by refine ⟨?_, ?_, ?_, ?_, ?_, ?_⟩ <;> simp [paC, paX, paP, paU, paT, paZ, h0, h1, hpc, hpm, hpu])
  have HPL : Hid (pushL cap xs mk ys = (pc, pm, pu)) := Lib.hid (by rw [← hpc, ← hpm, ← hpu])
  clear h0 h1 hq8 hpc hpm hpu
  clear ha hl hh hx hl2 hh2
  go_enter Try.func14, Try.ntmps14
  go_wp2_with fail
  refine Calls.name ?_
  intro U1 hU1
  have hb : Below w.heap.size w U1 := by rw [hU1]; exact (((Below.refl _ _).alloc (Nat.le_refl _) _).alloc (by simp <;> omega) _)
  have zz : Hid (w.heap.size + 2 = U1.heap.size) := Lib.hid (by rw [hU1]; simp)
  have HX1 : Kept w.heap.size (w.heap.size + 1) (BoxK w.heap.size 26 #[.int .i64 cap, .bool mk, .slice A n c]) U1 := by rw [hU1]; exact Kept.box ((Box.made_at _ _ _ rfl).over _)
  have HX2 : Kept (w.heap.size + 1) (w.heap.size + 1 + 1) (BoxK (w.heap.size + 1) 30 #[.int .i64 0, .int .i64 0, .bool false, .slice none 0 0, .bool false, .slice none 0 0]) U1 := by rw [hU1]; exact Kept.box (Box.made_at _ _ _ (by simp <;> omega))
  replace HA := HA.below hb
  replace HXS := HXS.below hb
  replace HB := Lib.hid (below_step HB.out hb)
  clear hb
  have Z1 := zz; clear zz
  clear hU1
  refine (queueFault_any cap mk q lo hi A n c ys _ HA.sl HA.le hn hc).mono ?_
  rw [HR.out]
  rintro e w2 ⟨rfl, hb⟩
  have Z2 := Lib.hid hb.size
  replace HA := HA.below hb
  replace HXS := HXS.below hb
  replace HX1 := HX1.below hb
  replace HX2 := HX2.below hb
  replace HB := Lib.hid (below_step HB.out hb)
  clear hb
  have c2_0 := HX1.look 0
  have c2_1 := HX1.look 1
  have c2_2 := HX1.look 2
  have l2_0 := HX1.bx.lt
  have l2_1 := HX2.bx.lt
  go_wp2_with fail
  clear c2_0 c2_1 c2_2 l2_0 l2_1
  refine (backlogOf_any cap mk q lo hi A n c ys _ HA.sl HA.le hn8).mono ?_
  rintro e w3 ⟨g, E0, d0, rfl, hg, ho, hle, hb⟩
  have Z3 := Lib.hid hb.size
  replace HA := HA.below hb
  replace HXS := HXS.below hb
  replace HX1 := HX1.below hb
  replace HX2 := HX2.below hb
  replace HB := Lib.hid (below_step HB.out hb)
  clear hb
  have HG := Lib.hid hg.bx; have HO := Lib.hid ho.ownF; have Zg := Lib.hid hle; clear hg ho hle
  have Zg2 := Lib.hid HG.out.lt
  have l3_0 := HX1.bx.lt
  have l3_1 := HX2.bx.lt
  go_wp2
  clear l3_0 l3_1
  go_loopw [24] (fun i wr => ∃ (k : Nat) (E : Option Addr) (m d : Nat) (mk' : Bool) (ys' : List Tmr), k ≤ n2 ∧ i = .int .i64 k ∧ Hid (Box wr g 86 #[.int .i64 cap, .bool mk', .slice E m d]) ∧ Hid (OwnF 35 4 tcell wr (w2.heap.size) E m d ys') ∧ Hid (PInv cap ys') ∧ Hid (pushL cap xs mk ys = pushL cap (xs.drop k) mk' ys') ∧ Hid (Below (w2.heap.size) w3 wr)) (fun i _ => n2 - (intOf i).toNat)
  case atStart => exact ⟨0, E0, n, d0, mk, ys, Nat.zero_le _, rfl, HG, HO, HPI, Lib.hid rfl, Lib.hid (Below.refl _ _)⟩
  case round =>
    obtain ⟨k, E, m, d, mk', ys', hk, rfl, HG, HO, HPI, HPJ, HVB⟩ := hrel
    have ho := Below.only_from HVB.out
    have Z4 := Lib.hid ho.size
    replace HA := HA.only ho (by have := Zh.out; have := Zh2.out; have := Z1.out; have := Z2.out; have := Z3.out; have := Zg.out; have := Zg2.out; have := Z4.out; omega)
    replace HXS := HXS.only ho (by have := Zh.out; have := Zh2.out; have := Z1.out; have := Z2.out; have := Z3.out; have := Zg.out; have := Zg2.out; have := Z4.out; omega)
    replace HX1 := HX1.only ho (by have := Zh.out; have := Zh2.out; have := Z1.out; have := Z2.out; have := Z3.out; have := Zg.out; have := Zg2.out; have := Z4.out; omega)
    replace HX2 := HX2.only ho (by have := Zh.out; have := Zh2.out; have := Z1.out; have := Z2.out; have := Z3.out; have := Zg.out; have := Zg2.out; have := Z4.out; omega)
    replace HB := Lib.hid (Below.only HB.out ho (by have := Zh.out; have := Zh2.out; have := Z1.out; have := Z2.out; have := Z3.out; have := Zg.out; have := Zg2.out; have := Z4.out; omega) HB.out.size)
    clear ho
    have hm : m ≤ 100 := by have h1 := HO.out.1; have h2 := HPI.out.le; omega
    by_cases hlt : k < n2
    · obtain ⟨b, o, x, rfl, hya, x0, x1, x2, x3⟩ := Rep.timer_at HXS.sl hlt
      have hlt' : (k : Int) < n2 := by omega
      have HPK := Lib.hid (pushL_drop (cap := cap) hya mk' ys')
      clear hya
      obtain ⟨f, hf⟩ : ∃ z, fit ys' x = z := ⟨_, rfl⟩
      have HF := Lib.hid hf
      clear hf
      have l4_0 := HX1.bx.lt
      have l4_1 := HX2.bx.lt
      go_wp2_with fail
      clear l4_0 l4_1
      refine Calls.name ?_
      intro U4 hU4
      have hb : Below wr.heap.size wr U4 := by rw [hU4]; exact ((Below.refl _ _).alloc (Nat.le_refl _) _)
      have zz : Hid (wr.heap.size + 1 = U4.heap.size) := Lib.hid (by rw [hU4]; simp)
      have HX3 : Kept wr.heap.size (wr.heap.size + 1) (BoxK wr.heap.size 35 #[.int .i64 x.typ, .int .i64 x.id, .int .i64 x.adv, .int .i64 x.due]) U4 := by rw [hU4]; exact Kept.box (Box.made_at _ _ _ rfl)
      have HBU := Lib.hid hb
      replace HA := HA.below hb
      replace HXS := HXS.below hb
      replace HX1 := HX1.below hb
      replace HX2 := HX2.below hb
      replace HB := Lib.hid (below_step HB.out hb)
      clear hb
      have Z5 := zz; clear zz
      clear hU4
      clear x0 x1 x2 x3
      skip
      replace HG := Lib.hid (HG.out.below HBU.out); replace HO := Lib.hid (HO.out.below HBU.out)
      refine (itemFault_any cap mk' g (w2.heap.size) E m d ys' x _ HG.out HO.out (by omega)).mono ?_
      rw [HF.out]
      rintro e w5 ⟨rfl, hb⟩
      have Z6 := Lib.hid hb.size
      replace HA := HA.below hb
      replace HXS := HXS.below hb
      replace HX1 := HX1.below hb
      replace HX2 := HX2.below hb
      replace HX3 := HX3.below hb
      replace HB := Lib.hid (below_step HB.out hb)
      replace HG := Lib.hid (HG.out.below hb); replace HO := Lib.hid (HO.out.below hb)
      have HVW := Lib.hid ((HVB.out.trans (HBU.out.mono (by have := Zh.out; have := Zh2.out; have := Z1.out; have := Z2.out; have := Z3.out; have := Zg.out; have := Zg2.out; have := Z4.out; have := Z5.out; have := Z6.out; omega))).trans (hb.mono (by have := Zh.out; have := Zh2.out; have := Z1.out; have := Z2.out; have := Z3.out; have := Zg.out; have := Zg2.out; have := Z4.out; have := Z5.out; have := Z6.out; omega)))
      clear hb HBU HVB
      by_cases hfz : ¬ f = 0
      · have hf0 : (f != 0) = true := by simpa using hfz
        have HE : Hid (pc = f ∧ pm = false ∧ pu = []) := Lib.hid (by have h := HPL.out; rw [HPJ.out, HPK.out, HF.out, if_neg hfz] at h; injection h with h1 h2; injection h2 with h2 h3; exact ⟨h1.symm, h2.symm, h3.symm⟩)
        obtain ⟨rfl, rfl, rfl⟩ := HE.out
        have HV2 : Hid ((if pc = 0 then cap else 0) = 0) := Lib.hid (if_neg hfz)
        clear hfz
        have c5_0 := HX2.look 0
        have c5_1 := HX2.look 1
        have c5_2 := HX2.look 2
        have c5_3 := HX2.look 3
        have c5_4 := HX2.look 4
        have c5_5 := HX2.look 5
        have f5_0 := HX2.free 0
        have f5_1 := HX2.free 1
        have f5_2 := HX2.free 2
        have f5_3 := HX2.free 3
        have f5_4 := HX2.free 4
        have f5_5 := HX2.free 5
        have l5_0 := HX1.bx.lt
        have l5_1 := HX2.bx.lt
        have l5_2 := HX3.bx.lt
        go_wp2
        clear c5_0 c5_1 c5_2 c5_3 c5_4 c5_5 f5_0 f5_1 f5_2 f5_3 f5_4 f5_5 l5_0 l5_1 l5_2
        obtain ⟨U6, hU6⟩ : ∃ W : World, W = ((((((w5.setCell ⟨w.heap.size + 1, 0, none⟩ (.int .i64 pc)).setCell ⟨w.heap.size + 1, 1, none⟩ (.int .i64 0)).setCell ⟨w.heap.size + 1, 2, none⟩ (.bool false)).setCell ⟨w.heap.size + 1, 3, none⟩ (.slice none 0 0)).setCell ⟨w.heap.size + 1, 4, none⟩ (.bool false)).setCell ⟨w.heap.size + 1, 5, none⟩ (.slice none 0 0)) := ⟨_, rfl⟩
        have ho : Only (w.heap.size + 1) (w.heap.size + 1 + 1) w5 U6 := by rw [hU6]; exact (((((((Only.refl _ _ _).set (p := ⟨w.heap.size + 1, 0, none⟩) (Nat.le_refl _) (Nat.lt_succ_self _) _).set (p := ⟨w.heap.size + 1, 1, none⟩) (Nat.le_refl _) (Nat.lt_succ_self _) _).set (p := ⟨w.heap.size + 1, 2, none⟩) (Nat.le_refl _) (Nat.lt_succ_self _) _).set (p := ⟨w.heap.size + 1, 3, none⟩) (Nat.le_refl _) (Nat.lt_succ_self _) _).set (p := ⟨w.heap.size + 1, 4, none⟩) (Nat.le_refl _) (Nat.lt_succ_self _) _).set (p := ⟨w.heap.size + 1, 5, none⟩) (Nat.le_refl _) (Nat.lt_succ_self _) _)
        replace HX2 : Kept (w.heap.size + 1) (w.heap.size + 1 + 1) (BoxK (w.heap.size + 1) 30 #[.int .i64 pc, .int .i64 0, .bool false, .slice none 0 0, .bool false, .slice none 0 0]) U6 := by rw [hU6]; exact Kept.box ((((((HX2.bx.puts 0 (.int .i64 pc) (cs' := #[.int .i64 pc, .int .i64 0, .bool false, .slice none 0 0, .bool false, .slice none 0 0]) rfl).puts 1 (.int .i64 0) (cs' := #[.int .i64 pc, .int .i64 0, .bool false, .slice none 0 0, .bool false, .slice none 0 0]) rfl).puts 2 (.bool false) (cs' := #[.int .i64 pc, .int .i64 0, .bool false, .slice none 0 0, .bool false, .slice none 0 0]) rfl).puts 3 (.slice none 0 0) (cs' := #[.int .i64 pc, .int .i64 0, .bool false, .slice none 0 0, .bool false, .slice none 0 0]) rfl).puts 4 (.bool false) (cs' := #[.int .i64 pc, .int .i64 0, .bool false, .slice none 0 0, .bool false, .slice none 0 0]) rfl).puts 5 (.slice none 0 0) (cs' := #[.int .i64 pc, .int .i64 0, .bool false, .slice none 0 0, .bool false, .slice none 0 0]) rfl)
        replace HA := HA.only ho (by have := Zh.out; have := Zh2.out; have := Z1.out; have := Z2.out; have := Z3.out; have := Zg.out; have := Zg2.out; have := Z4.out; have := Z5.out; have := Z6.out; omega)
        replace HXS := HXS.only ho (by have := Zh.out; have := Zh2.out; have := Z1.out; have := Z2.out; have := Z3.out; have := Zg.out; have := Zg2.out; have := Z4.out; have := Z5.out; have := Z6.out; omega)
        replace HX1 := HX1.only ho (by have := Zh.out; have := Zh2.out; have := Z1.out; have := Z2.out; have := Z3.out; have := Zg.out; have := Zg2.out; have := Z4.out; have := Z5.out; have := Z6.out; omega)
        replace HX3 := HX3.only ho (by have := Zh.out; have := Zh2.out; have := Z1.out; have := Z2.out; have := Z3.out; have := Zg.out; have := Zg2.out; have := Z4.out; have := Z5.out; have := Z6.out; omega)
        replace HB := Lib.hid (Below.only HB.out ho (by have := Zh.out; have := Zh2.out; have := Z1.out; have := Z2.out; have := Z3.out; have := Zg.out; have := Zg2.out; have := Z4.out; have := Z5.out; have := Z6.out; omega) HB.out.size)
        have Z7 : Hid (U6.heap.size = w5.heap.size) := Lib.hid (by rw [hU6]; simp [World.setCell]); clear ho
        have q_0 := HX2.look 0
        have q_1 := HX2.look 1
        have q_2 := HX2.look 2
        have q_3 := HX2.look 3
        have q_4 := HX2.look 4
        have q_5 := HX2.look 5
        subst hU6
        exact bodyPost_ret (v := .agg #[.int .i64 pc, .int .i64 0, .bool false, .slice none 0 0, .bool false, .slice none 0 0]) (by simp [results, Try.results14, go_sem, q_0, q_1, q_2, q_3, q_4, q_5]) rfl ⟨none, 0, 0, none, 0, 0, by rw [HV.out.1, HV.out.2.1, HV.out.2.2.1, HV.out.2.2.2.2.1, HV2.out], by rw [HV.out.2.2.2.1, HV.out.2.2.2.2.2]; exact QK.kept (QK.nil _ _ _ _ _) (Nat.le_refl _), HB.out⟩
      · obtain rfl : f = 0 := Classical.byContradiction hfz
        have l5_0 := HX1.bx.lt
        have l5_1 := HX2.bx.lt
        have l5_2 := HX3.bx.lt
        go_wp2
        clear l5_0 l5_1 l5_2
        have V0 : Hid (Below w5.heap.size w5 w5.drew) := (Below.refl _ _).drew
        have t0 := HX3.look 0
        have t1 := HX3.look 1
        have t2 := HX3.look 2
        have t3 := HX3.look 3
        have tl := HX3.bx.lt
        have HBg : Hid (w2.heap.size ≤ g) := Lib.hid (by have := Zh.out; have := Zh2.out; have := Z1.out; have := Z2.out; have := Z3.out; have := Zg.out; have := Zg2.out; have := Z4.out; have := Z5.out; have := Z6.out; omega)
        have HBu : Hid (w2.heap.size ≤ w5.heap.size) := Lib.hid (by have := Zh.out; have := Zh2.out; have := Z1.out; have := Z2.out; have := Z3.out; have := Zg.out; have := Zg2.out; have := Z4.out; have := Z5.out; have := Z6.out; omega)
        have PK : Hid (Calls Try.prog 56 #[.agg #[.int .i64 x.typ, .int .i64 x.id, .int .i64 x.adv]] w5.drew fun e w' => e = .returned (ofKeyV w5.heap.size) ∧ Kept w5.heap.size (w5.heap.size + 1) (BoxK w5.heap.size 33 #[.int .i64 x.typ, .int .i64 x.id, .int .i64 x.adv]) w' ∧ Below w5.drew.heap.size w5.drew w') := Lib.hid (ofKey_any x w5.drew)
        go_region_law (first | ((show (if Region.wanted (Oper.mk (some 39) _ _ _ _ _) _ = true then _ else _)); go_simp; with_reducible refine PK.out.mono ?_; rintro e u1 ⟨rfl, hkb, hb⟩; have V1 := Lib.hid (below_step V0.out hb); have HK1 : Hid (Kept w5.heap.size (w5.heap.size + 1) (BoxK w5.heap.size 33 #[.int .i64 x.typ, .int .i64 x.id, .int .i64 x.adv]) u1) := Lib.hid hkb; have HG1 := Lib.hid (HG.out.below V1.out); have HO1 := Lib.hid (HO.out.below V1.out); have z0 := (HX3.below V1.out).look 0; have z1 := (HX3.below V1.out).look 1; have z2 := (HX3.below V1.out).look 2; have z3 := (HX3.below V1.out).look 3; have zl := (HX3.below V1.out).bx.lt; clear hkb hb) | ((show (if Region.wanted (Oper.mk (some 40) _ _ _ _ _) _ = true then _ else _)); go_simp; have PC := put_any cap mk' g (w2.heap.size) w5.heap.size E m d ys' x u1 HG1.out HO1.out HK1.out.bx hm HBg.out (Nat.le_trans HBu.out V1.out.size); with_reducible refine PC.mono ?_; clear PC; rintro e u2 ⟨rfl, A3, n3, c3, hg3, ho3, hb3⟩; have HG3 := Lib.hid hg3; have HO3 := Lib.hid ho3; have HB3 := Lib.hid hb3; clear hg3 ho3 hb3))
        all_goals
          have HVX := Lib.hid ((HVW.out.trans (V1.out.mono HBu.out)).trans HB3.out)
          have HPX := Lib.hid (PInv.put HPI.out HF.out)
          have HPN : Hid (pushL cap xs mk ys = pushL cap (xs.drop (k + 1)) (putM cap mk' ys' x) (putY cap ys' x)) := Lib.hid (by rw [HPJ.out, HPK.out, if_pos HF.out])
          clear t0 t1 t2 t3 tl z0 z1 z2 z3 zl
          go_wp2
          go_roundw
          case rel => exact ⟨k + 1, A3, n3, c3, putM cap mk' ys' x, putY cap ys' x, by omega, by go_num, HG3, HO3, HPX, HPN, HVX⟩
          case measure => simp [intOf]; omega
    · have HE : Hid (pc = 0 ∧ pm = mk' ∧ pu = ys') := Lib.hid (by have h := HPL.out; rw [HPJ.out, List.drop_of_length_le (by have := HLX.out; omega)] at h; injection h with h1 h2; injection h2 with h2 h3; exact ⟨h1.symm, h2.symm, h3.symm⟩)
      obtain ⟨rfl, rfl, rfl⟩ := HE.out
      have HOK := HO.out.kept rfl
      have HEM : Hid (OwnF 35 4 tcell wr (w2.heap.size) E m d pu) := HO
      have l4_0 := HX1.bx.lt
      have l4_1 := HX2.bx.lt
      go_wp2_with fail
      clear l4_0 l4_1
      refine (queueOf_any cap pm g E m d _ HG.out).mono ?_
      rintro e w4 ⟨rfl, hb⟩
      have Z5 := Lib.hid hb.size
      replace HA := HA.below hb
      replace HXS := HXS.below hb
      replace HX1 := HX1.below hb
      replace HX2 := HX2.below hb
      replace HOK := HOK.below hb
      replace HB := Lib.hid (below_step HB.out hb)
      clear hb
      have c5_0 := HX2.look 0
      have c5_1 := HX2.look 1
      have c5_2 := HX2.look 2
      have c5_3 := HX2.look 3
      have c5_4 := HX2.look 4
      have c5_5 := HX2.look 5
      have f5_0 := HX2.free 0
      have f5_1 := HX2.free 1
      have f5_2 := HX2.free 2
      have f5_3 := HX2.free 3
      have f5_4 := HX2.free 4
      have f5_5 := HX2.free 5
      have l5_0 := HX1.bx.lt
      have l5_1 := HX2.bx.lt
      go_wp2
      clear c5_0 c5_1 c5_2 c5_3 c5_4 c5_5 f5_0 f5_1 f5_2 f5_3 f5_4 f5_5 l5_0 l5_1
      obtain ⟨U5, hU5⟩ : ∃ W : World, W = ((((((w4.setCell ⟨w.heap.size + 1, 0, none⟩ (.int .i64 0)).setCell ⟨w.heap.size + 1, 1, none⟩ (.int .i64 cap)).setCell ⟨w.heap.size + 1, 2, none⟩ (.bool pm)).setCell ⟨w.heap.size + 1, 3, none⟩ (.slice E m d)).setCell ⟨w.heap.size + 1, 4, none⟩ (.bool false)).setCell ⟨w.heap.size + 1, 5, none⟩ (.slice none 0 0)) := ⟨_, rfl⟩
      have ho : Only (w.heap.size + 1) (w.heap.size + 1 + 1) w4 U5 := by rw [hU5]; exact (((((((Only.refl _ _ _).set (p := ⟨w.heap.size + 1, 0, none⟩) (Nat.le_refl _) (Nat.lt_succ_self _) _).set (p := ⟨w.heap.size + 1, 1, none⟩) (Nat.le_refl _) (Nat.lt_succ_self _) _).set (p := ⟨w.heap.size + 1, 2, none⟩) (Nat.le_refl _) (Nat.lt_succ_self _) _).set (p := ⟨w.heap.size + 1, 3, none⟩) (Nat.le_refl _) (Nat.lt_succ_self _) _).set (p := ⟨w.heap.size + 1, 4, none⟩) (Nat.le_refl _) (Nat.lt_succ_self _) _).set (p := ⟨w.heap.size + 1, 5, none⟩) (Nat.le_refl _) (Nat.lt_succ_self _) _)
      replace HX2 : Kept (w.heap.size + 1) (w.heap.size + 1 + 1) (BoxK (w.heap.size + 1) 30 #[.int .i64 0, .int .i64 cap, .bool pm, .slice E m d, .bool false, .slice none 0 0]) U5 := by rw [hU5]; exact Kept.box ((((((HX2.bx.puts 0 (.int .i64 0) (cs' := #[.int .i64 0, .int .i64 0, .bool false, .slice none 0 0, .bool false, .slice none 0 0]) rfl).puts 1 (.int .i64 cap) (cs' := #[.int .i64 0, .int .i64 cap, .bool false, .slice none 0 0, .bool false, .slice none 0 0]) rfl).puts 2 (.bool pm) (cs' := #[.int .i64 0, .int .i64 cap, .bool pm, .slice none 0 0, .bool false, .slice none 0 0]) rfl).puts 3 (.slice E m d) (cs' := #[.int .i64 0, .int .i64 cap, .bool pm, .slice E m d, .bool false, .slice none 0 0]) rfl).puts 4 (.bool false) (cs' := #[.int .i64 0, .int .i64 cap, .bool pm, .slice E m d, .bool false, .slice none 0 0]) rfl).puts 5 (.slice none 0 0) (cs' := #[.int .i64 0, .int .i64 cap, .bool pm, .slice E m d, .bool false, .slice none 0 0]) rfl)
      replace HA := HA.only ho (by have := Zh.out; have := Zh2.out; have := Z1.out; have := Z2.out; have := Z3.out; have := Zg.out; have := Zg2.out; have := Z4.out; have := Z5.out; omega)
      replace HXS := HXS.only ho (by have := Zh.out; have := Zh2.out; have := Z1.out; have := Z2.out; have := Z3.out; have := Zg.out; have := Zg2.out; have := Z4.out; have := Z5.out; omega)
      replace HX1 := HX1.only ho (by have := Zh.out; have := Zh2.out; have := Z1.out; have := Z2.out; have := Z3.out; have := Zg.out; have := Zg2.out; have := Z4.out; have := Z5.out; omega)
      replace HOK := HOK.only ho (by have := Zh.out; have := Zh2.out; have := Z1.out; have := Z2.out; have := Z3.out; have := Zg.out; have := Zg2.out; have := Z4.out; have := Z5.out; omega)
      replace HB := Lib.hid (Below.only HB.out ho (by have := Zh.out; have := Zh2.out; have := Z1.out; have := Z2.out; have := Z3.out; have := Zg.out; have := Zg2.out; have := Z4.out; have := Z5.out; omega) HB.out.size)
      have Z6 : Hid (U5.heap.size = w4.heap.size) := Lib.hid (by rw [hU5]; simp [World.setCell]); clear ho
      have q_0 := HX2.look 0
      have q_1 := HX2.look 1
      have q_2 := HX2.look 2
      have q_3 := HX2.look 3
      have q_4 := HX2.look 4
      have q_5 := HX2.look 5
      subst hU5
      exact bodyPost_ret (v := .agg #[.int .i64 0, .int .i64 cap, .bool pm, .slice E m d, .bool false, .slice none 0 0]) (by simp [results, Try.results14, go_sem, q_0, q_1, q_2, q_3, q_4, q_5]) rfl ⟨E, m, d, none, 0, 0, by rw [HV.out.1, HV.out.2.1, HV.out.2.2.1, HV.out.2.2.2.2.1]; rfl, by rw [HV.out.2.2.2.1, HV.out.2.2.2.2.2]; exact QK.kept (QK.of_own (HOK.ownF.mono (by have := Zh.out; have := Zh2.out; have := Z1.out; have := Z2.out; have := Z3.out; have := Zg.out; have := Zg2.out; have := Z4.out; have := Z5.out; have := Z6.out; omega)) (OwnF.nil_ _ _ _ _ _) (fun r _ h => by cases h)) (Nat.le_refl _), HB.out⟩


end Go.Proofs.Ytomkgohhfllpgaa

namespace Go.Proofs.Ytomkgohhfllpgaa
open Go.RowKit
set_option linter.unusedVariables false

theorem l6Fits_below (cap : Int) (mk : Bool) (g b o : Nat) (q : Bool) (lo hi : Nat) (A : Option Addr) (n c : Nat) (ys : List Tmr) (x : Tmr) (w : World) (hg : Box w g 26 #[.int .i64 cap, .bool mk, .slice A n c]) (ha : Rep.timer.Sl q lo hi w A n ys) (hn : n ≤ 1000) (hx : w.cell? ⟨b, o + 3, none⟩ = some (.int .i64 x.due)) (hu : ups (revs ys)) :
    Calls Try.prog 62 #[.pointer (some ⟨g, 0, none⟩), .pointer (some ⟨b, o, none⟩)] w fun e w' => e = .returned (.int .i64 (fit ys x)) ∧ Below w.heap.size w w' :=
  (l6Fits_any cap mk g b o q lo hi A n c ys x w hg ha hn hx hu).mono fun e w' h => by obtain ⟨h1, m, rfl⟩ := h; exact ⟨h1, below_drewN (Below.refl _ _) _⟩

set_option maxRecDepth 100000 in
set_option maxHeartbeats 6400000 in
theorem specPushAll_any (cap : Int) (mk : Bool) (q : Bool) (lo hi : Nat) (A : Option Addr) (n c : Nat) (ys : List Tmr) (q2 : Bool) (lo2 hi2 : Nat) (A2 : Option Addr) (n2 c2 : Nat) (xs : List Tmr) (w : World) (ha : Rep.timer.Sl q lo hi w A n ys) (hh : hi ≤ w.heap.size) (hn : n ≤ 1048576) (hx : Rep.timer.Sl q2 lo2 hi2 w A2 n2 xs) (hh2 : hi2 ≤ w.heap.size) (hn2 : n2 ≤ 1048576) :
    Calls Try.prog 21 #[.agg #[.int .i64 cap, .bool mk, .slice A n c], .slice A2 n2 c2] w fun e w' => ∃ O j k E m d, e = .returned (.agg #[.int .i64 (paC cap mk ys xs), .int .i64 (paX cap mk ys xs), .bool (paP cap mk ys xs), .slice O j k, .bool (paT ys), .slice E m d]) ∧ Kept w.heap.size w'.heap.size (QK w.heap.size w'.heap.size O j (paU cap mk ys xs) E m (paZ ys)) w' ∧ Below w.heap.size w w' := by
  have hl := ha.1
  have hl2 := hx.1
  by_cases h0 : ¬ qf cap ys = 0
  · have HB := Lib.hid (Below.refl w.heap.size w)
    have HA := Rep.Sl.kept ha hh
    have Zh := Lib.hid hh
    have HXS := Rep.Sl.kept hx hh2
    have Zh2 := Lib.hid hh2
    obtain ⟨r, hr⟩ : ∃ z, qf cap ys = z := ⟨_, rfl⟩
    have HR := Lib.hid hr
    have h0r : ¬ r = 0 := by rw [← hr]; exact h0
    have hr0 : (r != 0) = true := by simpa using h0r
    have HV : Hid (paC cap mk ys xs = r ∧ paX cap mk ys xs = 0 ∧ paP cap mk ys xs = false ∧ paU cap mk ys xs = [] ∧ paT ys = false ∧ paZ ys = []) := Lib.hid (by refine ⟨?_, ?_, ?_, ?_, ?_, ?_⟩ <;> simp [paC, paX, paP, paU, paT, paZ, hr, h0r])
    clear h0 hr h0r
    clear ha hl hh hx hl2 hh2
    go_enter Try.func21, Try.ntmps21
    go_wp2_with fail
    refine Calls.name ?_
    intro U1 hU1
    have hb : Below w.heap.size w U1 := by rw [hU1]; exact (((Below.refl _ _).alloc (Nat.le_refl _) _).alloc (by simp <;> omega) _)
    have zz : Hid (w.heap.size + 2 = U1.heap.size) := Lib.hid (by rw [hU1]; simp)
    have HX1 : Kept w.heap.size (w.heap.size + 1) (BoxK w.heap.size 26 #[.int .i64 cap, .bool mk, .slice A n c]) U1 := by rw [hU1]; exact Kept.box ((Box.made_at _ _ _ rfl).over _)
    have HX2 : Kept (w.heap.size + 1) (w.heap.size + 1 + 1) (BoxK (w.heap.size + 1) 30 #[.int .i64 0, .int .i64 0, .bool false, .slice none 0 0, .bool false, .slice none 0 0]) U1 := by rw [hU1]; exact Kept.box (Box.made_at _ _ _ (by simp <;> omega))
    replace HA := HA.below hb
    replace HXS := HXS.below hb
    replace HB := Lib.hid (below_step HB.out hb)
    clear hb
    have Z1 := zz; clear zz
    clear hU1
    refine (specQueueFault_any cap mk q lo hi A n c ys _ HA.sl HA.le hn).mono ?_
    rw [HR.out]
    rintro e w2 ⟨rfl, hb⟩
    have Z2 := Lib.hid hb.size
    replace HA := HA.below hb
    replace HXS := HXS.below hb
    replace HX1 := HX1.below hb
    replace HX2 := HX2.below hb
    replace HB := Lib.hid (below_step HB.out hb)
    clear hb
    have c2_0 := HX2.look 0
    have c2_1 := HX2.look 1
    have c2_2 := HX2.look 2
    have c2_3 := HX2.look 3
    have c2_4 := HX2.look 4
    have c2_5 := HX2.look 5
    have f2_0 := HX2.free 0
    have f2_1 := HX2.free 1
    have f2_2 := HX2.free 2
    have f2_3 := HX2.free 3
    have f2_4 := HX2.free 4
    have f2_5 := HX2.free 5
    have l2_0 := HX1.bx.lt
    have l2_1 := HX2.bx.lt
    go_wp2
    clear c2_0 c2_1 c2_2 c2_3 c2_4 c2_5 f2_0 f2_1 f2_2 f2_3 f2_4 f2_5 l2_0 l2_1
    obtain ⟨U3, hU3⟩ : ∃ W : World, W = ((((((w2.setCell ⟨w.heap.size + 1, 0, none⟩ (.int .i64 r)).setCell ⟨w.heap.size + 1, 1, none⟩ (.int .i64 0)).setCell ⟨w.heap.size + 1, 2, none⟩ (.bool false)).setCell ⟨w.heap.size + 1, 3, none⟩ (.slice none 0 0)).setCell ⟨w.heap.size + 1, 4, none⟩ (.bool false)).setCell ⟨w.heap.size + 1, 5, none⟩ (.slice none 0 0)) := ⟨_, rfl⟩
    have ho : Only (w.heap.size + 1) (w.heap.size + 1 + 1) w2 U3 := by rw [hU3]; exact (((((((Only.refl _ _ _).set (p := ⟨w.heap.size + 1, 0, none⟩) (Nat.le_refl _) (Nat.lt_succ_self _) _).set (p := ⟨w.heap.size + 1, 1, none⟩) (Nat.le_refl _) (Nat.lt_succ_self _) _).set (p := ⟨w.heap.size + 1, 2, none⟩) (Nat.le_refl _) (Nat.lt_succ_self _) _).set (p := ⟨w.heap.size + 1, 3, none⟩) (Nat.le_refl _) (Nat.lt_succ_self _) _).set (p := ⟨w.heap.size + 1, 4, none⟩) (Nat.le_refl _) (Nat.lt_succ_self _) _).set (p := ⟨w.heap.size + 1, 5, none⟩) (Nat.le_refl _) (Nat.lt_succ_self _) _)
    replace HX2 : Kept (w.heap.size + 1) (w.heap.size + 1 + 1) (BoxK (w.heap.size + 1) 30 #[.int .i64 r, .int .i64 0, .bool false, .slice none 0 0, .bool false, .slice none 0 0]) U3 := by rw [hU3]; exact Kept.box ((((((HX2.bx.puts 0 (.int .i64 r) (cs' := #[.int .i64 r, .int .i64 0, .bool false, .slice none 0 0, .bool false, .slice none 0 0]) rfl).puts 1 (.int .i64 0) (cs' := #[.int .i64 r, .int .i64 0, .bool false, .slice none 0 0, .bool false, .slice none 0 0]) rfl).puts 2 (.bool false) (cs' := #[.int .i64 r, .int .i64 0, .bool false, .slice none 0 0, .bool false, .slice none 0 0]) rfl).puts 3 (.slice none 0 0) (cs' := #[.int .i64 r, .int .i64 0, .bool false, .slice none 0 0, .bool false, .slice none 0 0]) rfl).puts 4 (.bool false) (cs' := #[.int .i64 r, .int .i64 0, .bool false, .slice none 0 0, .bool false, .slice none 0 0]) rfl).puts 5 (.slice none 0 0) (cs' := #[.int .i64 r, .int .i64 0, .bool false, .slice none 0 0, .bool false, .slice none 0 0]) rfl)
    replace HA := HA.only ho (by have := Zh.out; have := Zh2.out; have := Z1.out; have := Z2.out; omega)
    replace HXS := HXS.only ho (by have := Zh.out; have := Zh2.out; have := Z1.out; have := Z2.out; omega)
    replace HX1 := HX1.only ho (by have := Zh.out; have := Zh2.out; have := Z1.out; have := Z2.out; omega)
    replace HB := Lib.hid (Below.only HB.out ho (by have := Zh.out; have := Zh2.out; have := Z1.out; have := Z2.out; omega) HB.out.size)
    have Z3 : Hid (U3.heap.size = w2.heap.size) := Lib.hid (by rw [hU3]; simp [World.setCell]); clear ho
    have q_0 := HX2.look 0
    have q_1 := HX2.look 1
    have q_2 := HX2.look 2
    have q_3 := HX2.look 3
    have q_4 := HX2.look 4
    have q_5 := HX2.look 5
    subst hU3
    exact bodyPost_ret (v := .agg #[.int .i64 r, .int .i64 0, .bool false, .slice none 0 0, .bool false, .slice none 0 0]) (by simp [results, Try.results21, go_sem, q_0, q_1, q_2, q_3, q_4, q_5]) rfl ⟨none, 0, 0, none, 0, 0, by rw [HV.out.1, HV.out.2.1, HV.out.2.2.1, HV.out.2.2.2.2.1], by rw [HV.out.2.2.2.1, HV.out.2.2.2.2.2]; exact QK.kept (QK.nil _ _ _ _ _) (Nat.le_refl _), HB.out⟩
  have h0 : qf cap ys = 0 := Classical.byContradiction h0
  by_cases h1 : 100 < xs.length
  · have HB := Lib.hid (Below.refl w.heap.size w)
    have HA := Rep.Sl.kept ha hh
    have Zh := Lib.hid hh
    have HXS := Rep.Sl.kept hx hh2
    have Zh2 := Lib.hid hh2
    have HR := Lib.hid h0
    have hm1 : 100 < n2 := by omega
    have hm2 : (100 : Int) < n2 := by omega
    have HV : Hid (paC cap mk ys xs = 2 ∧ paX cap mk ys xs = 0 ∧ paP cap mk ys xs = false ∧ paU cap mk ys xs = [] ∧ paT ys = false ∧ paZ ys = []) := Lib.hid (by refine ⟨?_, ?_, ?_, ?_, ?_, ?_⟩ <;> simp [paC, paX, paP, paU, paT, paZ, h0, h1])
    clear h0 h1 hm1
    clear ha hl hh hx hl2 hh2
    go_enter Try.func21, Try.ntmps21
    go_wp2_with fail
    refine Calls.name ?_
    intro U1 hU1
    have hb : Below w.heap.size w U1 := by rw [hU1]; exact (((Below.refl _ _).alloc (Nat.le_refl _) _).alloc (by simp <;> omega) _)
    have zz : Hid (w.heap.size + 2 = U1.heap.size) := Lib.hid (by rw [hU1]; simp)
    have HX1 : Kept w.heap.size (w.heap.size + 1) (BoxK w.heap.size 26 #[.int .i64 cap, .bool mk, .slice A n c]) U1 := by rw [hU1]; exact Kept.box ((Box.made_at _ _ _ rfl).over _)
    have HX2 : Kept (w.heap.size + 1) (w.heap.size + 1 + 1) (BoxK (w.heap.size + 1) 30 #[.int .i64 0, .int .i64 0, .bool false, .slice none 0 0, .bool false, .slice none 0 0]) U1 := by rw [hU1]; exact Kept.box (Box.made_at _ _ _ (by simp <;> omega))
    replace HA := HA.below hb
    replace HXS := HXS.below hb
    replace HB := Lib.hid (below_step HB.out hb)
    clear hb
    have Z1 := zz; clear zz
    clear hU1
    refine (specQueueFault_any cap mk q lo hi A n c ys _ HA.sl HA.le hn).mono ?_
    rw [HR.out]
    rintro e w2 ⟨rfl, hb⟩
    have Z2 := Lib.hid hb.size
    replace HA := HA.below hb
    replace HXS := HXS.below hb
    replace HX1 := HX1.below hb
    replace HX2 := HX2.below hb
    replace HB := Lib.hid (below_step HB.out hb)
    clear hb
    have c2_0 := HX2.look 0
    have c2_1 := HX2.look 1
    have c2_2 := HX2.look 2
    have c2_3 := HX2.look 3
    have c2_4 := HX2.look 4
    have c2_5 := HX2.look 5
    have f2_0 := HX2.free 0
    have f2_1 := HX2.free 1
    have f2_2 := HX2.free 2
    have f2_3 := HX2.free 3
    have f2_4 := HX2.free 4
    have f2_5 := HX2.free 5
    have l2_0 := HX1.bx.lt
    have l2_1 := HX2.bx.lt
    go_wp2
    clear c2_0 c2_1 c2_2 c2_3 c2_4 c2_5 f2_0 f2_1 f2_2 f2_3 f2_4 f2_5 l2_0 l2_1
    obtain ⟨U3, hU3⟩ : ∃ W : World, W = ((((((w2.setCell ⟨w.heap.size + 1, 0, none⟩ (.int .i64 2)).setCell ⟨w.heap.size + 1, 1, none⟩ (.int .i64 0)).setCell ⟨w.heap.size + 1, 2, none⟩ (.bool false)).setCell ⟨w.heap.size + 1, 3, none⟩ (.slice none 0 0)).setCell ⟨w.heap.size + 1, 4, none⟩ (.bool false)).setCell ⟨w.heap.size + 1, 5, none⟩ (.slice none 0 0)) := ⟨_, rfl⟩
    have ho : Only (w.heap.size + 1) (w.heap.size + 1 + 1) w2 U3 := by rw [hU3]; exact (((((((Only.refl _ _ _).set (p := ⟨w.heap.size + 1, 0, none⟩) (Nat.le_refl _) (Nat.lt_succ_self _) _).set (p := ⟨w.heap.size + 1, 1, none⟩) (Nat.le_refl _) (Nat.lt_succ_self _) _).set (p := ⟨w.heap.size + 1, 2, none⟩) (Nat.le_refl _) (Nat.lt_succ_self _) _).set (p := ⟨w.heap.size + 1, 3, none⟩) (Nat.le_refl _) (Nat.lt_succ_self _) _).set (p := ⟨w.heap.size + 1, 4, none⟩) (Nat.le_refl _) (Nat.lt_succ_self _) _).set (p := ⟨w.heap.size + 1, 5, none⟩) (Nat.le_refl _) (Nat.lt_succ_self _) _)
    replace HX2 : Kept (w.heap.size + 1) (w.heap.size + 1 + 1) (BoxK (w.heap.size + 1) 30 #[.int .i64 2, .int .i64 0, .bool false, .slice none 0 0, .bool false, .slice none 0 0]) U3 := by rw [hU3]; exact Kept.box ((((((HX2.bx.puts 0 (.int .i64 2) (cs' := #[.int .i64 2, .int .i64 0, .bool false, .slice none 0 0, .bool false, .slice none 0 0]) rfl).puts 1 (.int .i64 0) (cs' := #[.int .i64 2, .int .i64 0, .bool false, .slice none 0 0, .bool false, .slice none 0 0]) rfl).puts 2 (.bool false) (cs' := #[.int .i64 2, .int .i64 0, .bool false, .slice none 0 0, .bool false, .slice none 0 0]) rfl).puts 3 (.slice none 0 0) (cs' := #[.int .i64 2, .int .i64 0, .bool false, .slice none 0 0, .bool false, .slice none 0 0]) rfl).puts 4 (.bool false) (cs' := #[.int .i64 2, .int .i64 0, .bool false, .slice none 0 0, .bool false, .slice none 0 0]) rfl).puts 5 (.slice none 0 0) (cs' := #[.int .i64 2, .int .i64 0, .bool false, .slice none 0 0, .bool false, .slice none 0 0]) rfl)
    replace HA := HA.only ho (by have := Zh.out; have := Zh2.out; have := Z1.out; have := Z2.out; omega)
    replace HXS := HXS.only ho (by have := Zh.out; have := Zh2.out; have := Z1.out; have := Z2.out; omega)
    replace HX1 := HX1.only ho (by have := Zh.out; have := Zh2.out; have := Z1.out; have := Z2.out; omega)
    replace HB := Lib.hid (Below.only HB.out ho (by have := Zh.out; have := Zh2.out; have := Z1.out; have := Z2.out; omega) HB.out.size)
    have Z3 : Hid (U3.heap.size = w2.heap.size) := Lib.hid (by rw [hU3]; simp [World.setCell]); clear ho
    have q_0 := HX2.look 0
    have q_1 := HX2.look 1
    have q_2 := HX2.look 2
    have q_3 := HX2.look 3
    have q_4 := HX2.look 4
    have q_5 := HX2.look 5
    subst hU3
    exact bodyPost_ret (v := .agg #[.int .i64 2, .int .i64 0, .bool false, .slice none 0 0, .bool false, .slice none 0 0]) (by simp [results, Try.results21, go_sem, q_0, q_1, q_2, q_3, q_4, q_5]) rfl ⟨none, 0, 0, none, 0, 0, by rw [HV.out.1, HV.out.2.1, HV.out.2.2.1, HV.out.2.2.2.2.1], by rw [HV.out.2.2.2.1, HV.out.2.2.2.2.2]; exact QK.kept (QK.nil _ _ _ _ _) (Nat.le_refl _), HB.out⟩
  have HB := Lib.hid (Below.refl w.heap.size w)
  have HA := Rep.Sl.kept ha hh
  have Zh := Lib.hid hh
  have HXS := Rep.Sl.kept hx hh2
  have Zh2 := Lib.hid hh2
  have HR := Lib.hid h0
  have hq8 := qf_ok h0
  have hn8 : n ≤ 1000 := by have := hq8.2.2.1; omega
  have HPI := Lib.hid (PInv.of_qf h0)
  have hn100 : n2 ≤ 100 := by omega
  have hm2 : ¬ (100 : Int) < n2 := by omega
  have HLX := Lib.hid hl2
  obtain ⟨pc, hpc⟩ : ∃ z, (pushL cap xs mk ys).1 = z := ⟨_, rfl⟩
  obtain ⟨pm, hpm⟩ : ∃ z, (pushL cap xs mk ys).2.1 = z := ⟨_, rfl⟩
  obtain ⟨pu, hpu⟩ : ∃ z, (pushL cap xs mk ys).2.2 = z := ⟨_, rfl⟩
  have HV : Hid (paC cap mk ys xs = pc ∧ paX cap mk ys xs = (if pc = 0 then cap else 0) ∧ paP cap mk ys xs = pm ∧ paU cap mk ys xs = pu ∧ paT ys = false ∧ paZ ys = []) := Lib.hid (by refine ⟨?_, ?_, ?_, ?_, ?_, ?_⟩ <;> simp [paC, paX, paP, paU, paT, paZ, h0, h1, hpc, hpm, hpu])
  have HPL : Hid (pushL cap xs mk ys = (pc, pm, pu)) := Lib.hid (by rw [← hpc, ← hpm, ← hpu])
  clear h0 h1 hq8 hpc hpm hpu
  clear ha hl hh hx hl2 hh2
  go_enter Try.func21, Try.ntmps21
  go_wp2_with fail
  refine Calls.name ?_
  intro U1 hU1
  have hb : Below w.heap.size w U1 := by rw [hU1]; exact (((Below.refl _ _).alloc (Nat.le_refl _) _).alloc (by simp <;> omega) _)
  have zz : Hid (w.heap.size + 2 = U1.heap.size) := Lib.hid (by rw [hU1]; simp)
  have HX1 : Kept w.heap.size (w.heap.size + 1) (BoxK w.heap.size 26 #[.int .i64 cap, .bool mk, .slice A n c]) U1 := by rw [hU1]; exact Kept.box ((Box.made_at _ _ _ rfl).over _)
  have HX2 : Kept (w.heap.size + 1) (w.heap.size + 1 + 1) (BoxK (w.heap.size + 1) 30 #[.int .i64 0, .int .i64 0, .bool false, .slice none 0 0, .bool false, .slice none 0 0]) U1 := by rw [hU1]; exact Kept.box (Box.made_at _ _ _ (by simp <;> omega))
  replace HA := HA.below hb
  replace HXS := HXS.below hb
  replace HB := Lib.hid (below_step HB.out hb)
  clear hb
  have Z1 := zz; clear zz
  clear hU1
  refine (specQueueFault_any cap mk q lo hi A n c ys _ HA.sl HA.le hn).mono ?_
  rw [HR.out]
  rintro e w2 ⟨rfl, hb⟩
  have Z2 := Lib.hid hb.size
  replace HA := HA.below hb
  replace HXS := HXS.below hb
  replace HX1 := HX1.below hb
  replace HX2 := HX2.below hb
  replace HB := Lib.hid (below_step HB.out hb)
  clear hb
  have l2_0 := HX1.bx.lt
  have l2_1 := HX2.bx.lt
  go_wp2_with fail
  clear l2_0 l2_1
  refine (l6Copy_any cap mk w.heap.size q lo hi A n c ys _ HX1.bx HA.sl HA.le hn8).mono ?_
  rintro e w3 ⟨E0, d0, rfl, ho, hb⟩
  have Z3 := Lib.hid hb.size
  replace HA := HA.below hb
  replace HXS := HXS.below hb
  replace HX1 := HX1.below hb
  replace HX2 := HX2.below hb
  replace HB := Lib.hid (below_step HB.out hb)
  clear hb
  have HO := ho; clear ho
  have l3_0 := HX1.bx.lt
  have l3_1 := HX2.bx.lt
  go_wp2
  clear l3_0 l3_1
  refine Code.wp_name ?_
  intro U4 hU4
  have hb : Below w3.heap.size w3 U4 := by rw [hU4]; exact ((Below.refl _ _).alloc (Nat.le_refl _) _)
  have zz : Hid (w3.heap.size + 1 = U4.heap.size) := Lib.hid (by rw [hU4]; simp)
  have HX3 : Kept w3.heap.size (w3.heap.size + 1) (BoxK w3.heap.size 26 #[.int .i64 cap, .bool mk, .slice E0 n d0]) U4 := by rw [hU4]; exact Kept.box (Box.made_at _ _ _ rfl)
  replace HA := HA.below hb
  replace HXS := HXS.below hb
  replace HX1 := HX1.below hb
  replace HX2 := HX2.below hb
  replace HO := HO.below hb
  replace HB := Lib.hid (below_step HB.out hb)
  clear hb
  have Z4 := zz; clear zz
  clear hU4
  have HQ0 := Lib.hid HX3.bx; have HO0 := Lib.hid HO.ownF
  have Zq := Lib.hid HX3.le; clear HX3 HO
  go_loopw [7] (fun i wr => ∃ (k : Nat) (E : Option Addr) (m d : Nat) (mk' : Bool) (ys' : List Tmr), k ≤ n2 ∧ i = .int .i64 k ∧ Hid (Box wr (w3.heap.size) 26 #[.int .i64 cap, .bool mk', .slice E m d]) ∧ Hid (OwnF 35 4 tcell wr (w2.heap.size) E m d ys') ∧ Hid (PInv cap ys') ∧ Hid (pushL cap xs mk ys = pushL cap (xs.drop k) mk' ys') ∧ Hid (Only (w3.heap.size) (w3.heap.size + 1) U4 wr)) (fun i _ => n2 - (intOf i).toNat)
  case atStart => exact ⟨0, E0, n, d0, mk, ys, Nat.zero_le _, rfl, HQ0, HO0, HPI, Lib.hid rfl, Lib.hid (Only.refl _ _ _)⟩
  case round =>
    obtain ⟨k, E, m, d, mk', ys', hk, rfl, HQ, HO, HPI, HPJ, HVB⟩ := hrel
    have ho := HVB.out
    have Z5 := Lib.hid ho.size
    replace HA := HA.only ho (by have := Zh.out; have := Zh2.out; have := Z1.out; have := Z2.out; have := Z3.out; have := Z4.out; have := Zq.out; have := Z5.out; omega)
    replace HXS := HXS.only ho (by have := Zh.out; have := Zh2.out; have := Z1.out; have := Z2.out; have := Z3.out; have := Z4.out; have := Zq.out; have := Z5.out; omega)
    replace HX1 := HX1.only ho (by have := Zh.out; have := Zh2.out; have := Z1.out; have := Z2.out; have := Z3.out; have := Z4.out; have := Zq.out; have := Z5.out; omega)
    replace HX2 := HX2.only ho (by have := Zh.out; have := Zh2.out; have := Z1.out; have := Z2.out; have := Z3.out; have := Z4.out; have := Zq.out; have := Z5.out; omega)
    replace HB := Lib.hid (Below.only HB.out ho (by have := Zh.out; have := Zh2.out; have := Z1.out; have := Z2.out; have := Z3.out; have := Z4.out; have := Zq.out; have := Z5.out; omega) HB.out.size)
    clear ho
    replace HQ := Kept.box HQ.out
    have hm : m ≤ 100 := by have h1 := HO.out.1; have h2 := HPI.out.le; omega
    have hmc : (ys'.length : Int) ≤ cap := HPI.out.2.1
    by_cases hlt : k < n2
    · obtain ⟨b, o, x, rfl, hya, x0, x1, x2, x3⟩ := Rep.timer_at HXS.sl hlt
      have hlt' : (k : Int) < n2 := by omega
      have HPK := Lib.hid (pushL_drop (cap := cap) hya mk' ys')
      clear hya
      obtain ⟨f, hf⟩ : ∃ z, fit ys' x = z := ⟨_, rfl⟩
      have HF := Lib.hid hf
      clear hf
      have l4_0 := HX1.bx.lt
      have l4_1 := HX2.bx.lt
      have l4_2 := HQ.bx.lt
      go_wp2_with fail
      clear l4_0 l4_1 l4_2
      refine (l6Fits_below cap mk' (w3.heap.size) b (o + k * 4) true _ _ E m d ys' x _ HQ.bx (own_items HO.out) (by omega) x3 HPI.out.2.2).mono ?_
      rw [HF.out]
      rintro e w5 ⟨rfl, hb⟩
      have Z6 := Lib.hid hb.size
      replace x0 := (hb.cell (World.block_lt_of_cell? _ _ x0)).trans x0
      replace x1 := (hb.cell (World.block_lt_of_cell? _ _ x1)).trans x1
      replace x2 := (hb.cell (World.block_lt_of_cell? _ _ x2)).trans x2
      replace x3 := (hb.cell (World.block_lt_of_cell? _ _ x3)).trans x3
      have xl := World.block_lt_of_cell? _ _ x0
      replace HA := HA.below hb
      replace HXS := HXS.below hb
      replace HX1 := HX1.below hb
      replace HX2 := HX2.below hb
      replace HQ := HQ.below hb
      replace HB := Lib.hid (below_step HB.out hb)
      replace HO := Lib.hid (HO.out.below hb)
      replace HVB := Lib.hid (HVB.out.trans (Only.of_below hb _ _)); clear hb
      by_cases hfz : ¬ f = 0
      · have hf0 : (f != 0) = true := by simpa using hfz
        have HE : Hid (pc = f ∧ pm = false ∧ pu = []) := Lib.hid (by have h := HPL.out; rw [HPJ.out, HPK.out, HF.out, if_neg hfz] at h; injection h with h1 h2; injection h2 with h2 h3; exact ⟨h1.symm, h2.symm, h3.symm⟩)
        obtain ⟨rfl, rfl, rfl⟩ := HE.out
        have HV2 : Hid ((if pc = 0 then cap else 0) = 0) := Lib.hid (if_neg hfz)
        clear hfz x0 x1 x2 x3 xl
        have c5_0 := HX2.look 0
        have c5_1 := HX2.look 1
        have c5_2 := HX2.look 2
        have c5_3 := HX2.look 3
        have c5_4 := HX2.look 4
        have c5_5 := HX2.look 5
        have f5_0 := HX2.free 0
        have f5_1 := HX2.free 1
        have f5_2 := HX2.free 2
        have f5_3 := HX2.free 3
        have f5_4 := HX2.free 4
        have f5_5 := HX2.free 5
        have l5_0 := HX1.bx.lt
        have l5_1 := HX2.bx.lt
        have l5_2 := HQ.bx.lt
        go_wp2
        clear c5_0 c5_1 c5_2 c5_3 c5_4 c5_5 f5_0 f5_1 f5_2 f5_3 f5_4 f5_5 l5_0 l5_1 l5_2
        obtain ⟨U6, hU6⟩ : ∃ W : World, W = ((((((w5.setCell ⟨w.heap.size + 1, 0, none⟩ (.int .i64 pc)).setCell ⟨w.heap.size + 1, 1, none⟩ (.int .i64 0)).setCell ⟨w.heap.size + 1, 2, none⟩ (.bool false)).setCell ⟨w.heap.size + 1, 3, none⟩ (.slice none 0 0)).setCell ⟨w.heap.size + 1, 4, none⟩ (.bool false)).setCell ⟨w.heap.size + 1, 5, none⟩ (.slice none 0 0)) := ⟨_, rfl⟩
        have ho : Only (w.heap.size + 1) (w.heap.size + 1 + 1) w5 U6 := by rw [hU6]; exact (((((((Only.refl _ _ _).set (p := ⟨w.heap.size + 1, 0, none⟩) (Nat.le_refl _) (Nat.lt_succ_self _) _).set (p := ⟨w.heap.size + 1, 1, none⟩) (Nat.le_refl _) (Nat.lt_succ_self _) _).set (p := ⟨w.heap.size + 1, 2, none⟩) (Nat.le_refl _) (Nat.lt_succ_self _) _).set (p := ⟨w.heap.size + 1, 3, none⟩) (Nat.le_refl _) (Nat.lt_succ_self _) _).set (p := ⟨w.heap.size + 1, 4, none⟩) (Nat.le_refl _) (Nat.lt_succ_self _) _).set (p := ⟨w.heap.size + 1, 5, none⟩) (Nat.le_refl _) (Nat.lt_succ_self _) _)
        replace HX2 : Kept (w.heap.size + 1) (w.heap.size + 1 + 1) (BoxK (w.heap.size + 1) 30 #[.int .i64 pc, .int .i64 0, .bool false, .slice none 0 0, .bool false, .slice none 0 0]) U6 := by rw [hU6]; exact Kept.box ((((((HX2.bx.puts 0 (.int .i64 pc) (cs' := #[.int .i64 pc, .int .i64 0, .bool false, .slice none 0 0, .bool false, .slice none 0 0]) rfl).puts 1 (.int .i64 0) (cs' := #[.int .i64 pc, .int .i64 0, .bool false, .slice none 0 0, .bool false, .slice none 0 0]) rfl).puts 2 (.bool false) (cs' := #[.int .i64 pc, .int .i64 0, .bool false, .slice none 0 0, .bool false, .slice none 0 0]) rfl).puts 3 (.slice none 0 0) (cs' := #[.int .i64 pc, .int .i64 0, .bool false, .slice none 0 0, .bool false, .slice none 0 0]) rfl).puts 4 (.bool false) (cs' := #[.int .i64 pc, .int .i64 0, .bool false, .slice none 0 0, .bool false, .slice none 0 0]) rfl).puts 5 (.slice none 0 0) (cs' := #[.int .i64 pc, .int .i64 0, .bool false, .slice none 0 0, .bool false, .slice none 0 0]) rfl)
        replace HA := HA.only ho (by have := Zh.out; have := Zh2.out; have := Z1.out; have := Z2.out; have := Z3.out; have := Z4.out; have := Zq.out; have := Z5.out; have := Z6.out; omega)
        replace HXS := HXS.only ho (by have := Zh.out; have := Zh2.out; have := Z1.out; have := Z2.out; have := Z3.out; have := Z4.out; have := Zq.out; have := Z5.out; have := Z6.out; omega)
        replace HX1 := HX1.only ho (by have := Zh.out; have := Zh2.out; have := Z1.out; have := Z2.out; have := Z3.out; have := Z4.out; have := Zq.out; have := Z5.out; have := Z6.out; omega)
        replace HQ := HQ.only ho (by have := Zh.out; have := Zh2.out; have := Z1.out; have := Z2.out; have := Z3.out; have := Z4.out; have := Zq.out; have := Z5.out; have := Z6.out; omega)
        replace HB := Lib.hid (Below.only HB.out ho (by have := Zh.out; have := Zh2.out; have := Z1.out; have := Z2.out; have := Z3.out; have := Z4.out; have := Zq.out; have := Z5.out; have := Z6.out; omega) HB.out.size)
        have Z7 : Hid (U6.heap.size = w5.heap.size) := Lib.hid (by rw [hU6]; simp [World.setCell]); clear ho
        have q_0 := HX2.look 0
        have q_1 := HX2.look 1
        have q_2 := HX2.look 2
        have q_3 := HX2.look 3
        have q_4 := HX2.look 4
        have q_5 := HX2.look 5
        subst hU6
        exact bodyPost_ret (v := .agg #[.int .i64 pc, .int .i64 0, .bool false, .slice none 0 0, .bool false, .slice none 0 0]) (by simp [results, Try.results21, go_sem, q_0, q_1, q_2, q_3, q_4, q_5]) rfl ⟨none, 0, 0, none, 0, 0, by rw [HV.out.1, HV.out.2.1, HV.out.2.2.1, HV.out.2.2.2.2.1, HV2.out], by rw [HV.out.2.2.2.1, HV.out.2.2.2.2.2]; exact QK.kept (QK.nil _ _ _ _ _) (Nat.le_refl _), HB.out⟩
      · obtain rfl : f = 0 := Classical.byContradiction hfz
        have l5_0 := HX1.bx.lt
        have l5_1 := HX2.bx.lt
        have l5_2 := HQ.bx.lt
        go_wp2_with fail
        clear l5_0 l5_1 l5_2
        clear x0 x1 x2 x3 xl
        refine (l6Push_any cap mk' (w3.heap.size) true _ _ E m d ys' x _ HQ.bx (own_items HO.out) (Nat.le_refl _) (by omega) hmc).mono ?_
        rintro e w6 ⟨E3, m3, d3, rfl, HO3, hb⟩
        have HBL := Lib.hid hb
        have Z7 := Lib.hid hb.size
        replace HA := HA.below hb
        replace HXS := HXS.below hb
        replace HX1 := HX1.below hb
        replace HX2 := HX2.below hb
        replace HQ := HQ.below hb
        replace HB := Lib.hid (below_step HB.out hb)
        clear hb
        have q0 := HQ.look 0; have q1 := HQ.look 1; have q2 := HQ.look 2; have f0 := HQ.free 0; have f1 := HQ.free 1; have f2 := HQ.free 2; have ql := HQ.bx.lt
        obtain ⟨X, hX⟩ : ∃ X : World, X = ((w6.setCell ⟨w3.heap.size, 0, none⟩ (.int .i64 cap)).setCell ⟨w3.heap.size, 1, none⟩ (.bool (putM cap mk' ys' x))).setCell ⟨w3.heap.size, 2, none⟩ (.slice E3 m3 d3) := ⟨_, rfl⟩
        have hoX : Only (w3.heap.size) (w3.heap.size + 1) w6 X := by rw [hX]; exact (((Only.refl _ _ _).set (p := ⟨w3.heap.size, 0, none⟩) (Nat.le_refl _) (Nat.lt_succ_self _) _).set (p := ⟨w3.heap.size, 1, none⟩) (Nat.le_refl _) (Nat.lt_succ_self _) _).set (p := ⟨w3.heap.size, 2, none⟩) (Nat.le_refl _) (Nat.lt_succ_self _) _
        have HQX : Hid (Box X (w3.heap.size) 26 #[.int .i64 cap, .bool (putM cap mk' ys' x), .slice E3 m3 d3]) := Lib.hid (by rw [hX]; exact ((HQ.bx.puts 0 (.int .i64 cap) (cs' := #[.int .i64 cap, .bool mk', .slice E m d]) rfl).puts 1 (.bool (putM cap mk' ys' x)) (cs' := #[.int .i64 cap, .bool (putM cap mk' ys' x), .slice E m d]) rfl).puts 2 (.slice E3 m3 d3) (cs' := #[.int .i64 cap, .bool (putM cap mk' ys' x), .slice E3 m3 d3]) rfl)
        have HOX := Lib.hid ((HO3.out.aside (Only.grown_ hoX) (fun r hr e => by injection e with e; have := (HO3.out.block r hr).1; have := Zh.out; have := Zh2.out; have := Z1.out; have := Z2.out; have := Z3.out; have := Z4.out; have := Zq.out; have := Z5.out; have := Z6.out; have := Z7.out; omega)).mono (B' := w2.heap.size) (by have := Zh.out; have := Zh2.out; have := Z1.out; have := Z2.out; have := Z3.out; have := Z4.out; have := Zq.out; have := Z5.out; have := Z6.out; have := Z7.out; omega))
        have HPX := Lib.hid (PInv.put HPI.out HF.out)
        have HPN : Hid (pushL cap xs mk ys = pushL cap (xs.drop (k + 1)) (putM cap mk' ys' x) (putY cap ys' x)) := Lib.hid (by rw [HPJ.out, HPK.out, if_pos HF.out])
        have HVX := Lib.hid ((HVB.out.trans (Only.of_below HBL.out _ _)).trans hoX)
        clear hoX
        go_wp2
        rw [← hX]
        go_roundw
        case rel => exact ⟨k + 1, E3, m3, d3, putM cap mk' ys' x, putY cap ys' x, by omega, by go_num, HQX, HOX, HPX, HPN, HVX⟩
        case measure => simp [intOf]; omega
    · have HE : Hid (pc = 0 ∧ pm = mk' ∧ pu = ys') := Lib.hid (by have h := HPL.out; rw [HPJ.out, List.drop_of_length_le (by have := HLX.out; omega)] at h; injection h with h1 h2; injection h2 with h2 h3; exact ⟨h1.symm, h2.symm, h3.symm⟩)
      obtain ⟨rfl, rfl, rfl⟩ := HE.out
      have hgo : ∀ r, E.map (·.block) = some r → r ≠ w3.heap.size := fun r hr e => OwnF.ne_box HO.out HQ.bx (by decide) (by rw [hr, e])
      have HNE := Lib.hid hgo; clear hgo
      have c4_0 := HQ.look 0
      have c4_1 := HQ.look 1
      have c4_2 := HQ.look 2
      have c4_3 := HX2.look 0
      have c4_4 := HX2.look 1
      have c4_5 := HX2.look 2
      have c4_6 := HX2.look 3
      have c4_7 := HX2.look 4
      have c4_8 := HX2.look 5
      have f4_0 := HX2.free 0
      have f4_1 := HX2.free 1
      have f4_2 := HX2.free 2
      have f4_3 := HX2.free 3
      have f4_4 := HX2.free 4
      have f4_5 := HX2.free 5
      have l4_0 := HX1.bx.lt
      have l4_1 := HX2.bx.lt
      have l4_2 := HQ.bx.lt
      have n4_0_0 : ¬ (w.heap.size + 1) = w3.heap.size := (by have := Zh.out; have := Zh2.out; have := Z1.out; have := Z2.out; have := Z3.out; have := Z4.out; have := Zq.out; have := Z5.out; omega)
      have m4_0_0 : ¬ w3.heap.size = (w.heap.size + 1) := (by have := Zh.out; have := Zh2.out; have := Z1.out; have := Z2.out; have := Z3.out; have := Z4.out; have := Zq.out; have := Z5.out; omega)
      go_wp2
      clear c4_0 c4_1 c4_2 c4_3 c4_4 c4_5 c4_6 c4_7 c4_8 f4_0 f4_1 f4_2 f4_3 f4_4 f4_5 l4_0 l4_1 l4_2 n4_0_0 m4_0_0
      obtain ⟨U5, hU5⟩ : ∃ W : World, W = ((((((wr.setCell ⟨w.heap.size + 1, 0, none⟩ (.int .i64 0)).setCell ⟨w.heap.size + 1, 1, none⟩ (.int .i64 cap)).setCell ⟨w.heap.size + 1, 2, none⟩ (.bool pm)).setCell ⟨w.heap.size + 1, 3, none⟩ (.slice E m d)).setCell ⟨w.heap.size + 1, 4, none⟩ (.bool false)).setCell ⟨w.heap.size + 1, 5, none⟩ (.slice none 0 0)) := ⟨_, rfl⟩
      have ho : Only (w.heap.size + 1) (w.heap.size + 1 + 1) wr U5 := by rw [hU5]; exact (((((((Only.refl _ _ _).set (p := ⟨w.heap.size + 1, 0, none⟩) (Nat.le_refl _) (Nat.lt_succ_self _) _).set (p := ⟨w.heap.size + 1, 1, none⟩) (Nat.le_refl _) (Nat.lt_succ_self _) _).set (p := ⟨w.heap.size + 1, 2, none⟩) (Nat.le_refl _) (Nat.lt_succ_self _) _).set (p := ⟨w.heap.size + 1, 3, none⟩) (Nat.le_refl _) (Nat.lt_succ_self _) _).set (p := ⟨w.heap.size + 1, 4, none⟩) (Nat.le_refl _) (Nat.lt_succ_self _) _).set (p := ⟨w.heap.size + 1, 5, none⟩) (Nat.le_refl _) (Nat.lt_succ_self _) _)
      have HOF := Lib.hid (HO.out.aside (Only.grown_ ho) (fun r hr e => by injection e with e; have := (HO.out.block r hr).1; have := Zh.out; have := Zh2.out; have := Z1.out; have := Z2.out; have := Z3.out; have := Z4.out; have := Zq.out; have := Z5.out; omega))
      replace HX2 : Kept (w.heap.size + 1) (w.heap.size + 1 + 1) (BoxK (w.heap.size + 1) 30 #[.int .i64 0, .int .i64 cap, .bool pm, .slice E m d, .bool false, .slice none 0 0]) U5 := by rw [hU5]; exact Kept.box ((((((HX2.bx.puts 0 (.int .i64 0) (cs' := #[.int .i64 0, .int .i64 0, .bool false, .slice none 0 0, .bool false, .slice none 0 0]) rfl).puts 1 (.int .i64 cap) (cs' := #[.int .i64 0, .int .i64 cap, .bool false, .slice none 0 0, .bool false, .slice none 0 0]) rfl).puts 2 (.bool pm) (cs' := #[.int .i64 0, .int .i64 cap, .bool pm, .slice none 0 0, .bool false, .slice none 0 0]) rfl).puts 3 (.slice E m d) (cs' := #[.int .i64 0, .int .i64 cap, .bool pm, .slice E m d, .bool false, .slice none 0 0]) rfl).puts 4 (.bool false) (cs' := #[.int .i64 0, .int .i64 cap, .bool pm, .slice E m d, .bool false, .slice none 0 0]) rfl).puts 5 (.slice none 0 0) (cs' := #[.int .i64 0, .int .i64 cap, .bool pm, .slice E m d, .bool false, .slice none 0 0]) rfl)
      replace HA := HA.only ho (by have := Zh.out; have := Zh2.out; have := Z1.out; have := Z2.out; have := Z3.out; have := Z4.out; have := Zq.out; have := Z5.out; omega)
      replace HXS := HXS.only ho (by have := Zh.out; have := Zh2.out; have := Z1.out; have := Z2.out; have := Z3.out; have := Z4.out; have := Zq.out; have := Z5.out; omega)
      replace HX1 := HX1.only ho (by have := Zh.out; have := Zh2.out; have := Z1.out; have := Z2.out; have := Z3.out; have := Z4.out; have := Zq.out; have := Z5.out; omega)
      replace HQ := HQ.only ho (by have := Zh.out; have := Zh2.out; have := Z1.out; have := Z2.out; have := Z3.out; have := Z4.out; have := Zq.out; have := Z5.out; omega)
      replace HB := Lib.hid (Below.only HB.out ho (by have := Zh.out; have := Zh2.out; have := Z1.out; have := Z2.out; have := Z3.out; have := Z4.out; have := Zq.out; have := Z5.out; omega) HB.out.size)
      have Z6 : Hid (U5.heap.size = wr.heap.size) := Lib.hid (by rw [hU5]; simp [World.setCell]); clear ho
      have q_0 := HX2.look 0
      have q_1 := HX2.look 1
      have q_2 := HX2.look 2
      have q_3 := HX2.look 3
      have q_4 := HX2.look 4
      have q_5 := HX2.look 5
      subst hU5
      exact bodyPost_ret (v := .agg #[.int .i64 0, .int .i64 cap, .bool pm, .slice E m d, .bool false, .slice none 0 0]) (by simp [results, Try.results21, go_sem, q_0, q_1, q_2, q_3, q_4, q_5]) rfl ⟨E, m, d, none, 0, ⟨0, by rw [HV.out.1, HV.out.2.1, HV.out.2.2.1, HV.out.2.2.2.2.1]; rfl⟩, by rw [HV.out.2.2.2.1, HV.out.2.2.2.2.2]; exact QK.kept (QK.of_own (HOF.out.mono (by have := Zh.out; have := Zh2.out; have := Z1.out; have := Z2.out; have := Z3.out; have := Z4.out; have := Zq.out; have := Z5.out; have := Z6.out; omega)) (OwnF.nil_ _ _ _ _ _) (fun r _ h => by cases h)) (Nat.le_refl _), HB.out⟩


end Go.Proofs.Ytomkgohhfllpgaa

namespace Go.Proofs.Ytomkgohhfllpgaa
open Go.RowKit
set_option linter.unusedVariables false

set_option maxRecDepth 100000 in
set_option maxHeartbeats 3200000 in
theorem law_PushAll (v0 : Int) (b0 : Bool) (ys0 : List Tmr) (q0 : Bool) (lo0 hi0 : Nat) (A0 : Option Addr) (n0 c0 : Nat) (ys1 : List Tmr) (q1 : Bool) (lo1 hi1 : Nat) (A1 : Option Addr) (n1 c1 : Nat) (w : World) (ha0 : Rep.timer.Sl q0 lo0 hi0 w A0 n0 ys0) (hh0 : hi0 ≤ w.heap.size) (hn0 : n0 ≤ maxLen) (ha1 : Rep.timer.Sl q1 lo1 hi1 w A1 n1 ys1) (hh1 : hi1 ≤ w.heap.size) (hn1 : n1 ≤ maxLen) :
    Calls Try.prog 9 #[.agg #[.int .i64 v0, .bool b0, .slice A0 n0 c0], .slice A1 n1 c1] w fun e w' => e = .returned (.bool true) ∧ Below w.heap.size w w' := by
  by_cases hbig0 : (1048576 : Int) - (n0 : Int) < 0
  · have HB := Lib.hid (Below.refl w.heap.size w)
    have HA0 := Rep.Sl.kept ha0 hh0
    clear ha0
    have HA1 := Rep.Sl.kept ha1 hh1
    clear ha1
    have HR0 : Hid ((if (1048576 : Int) - (n0 : Int) < 0 then -1 else (1048576 : Int) - (n0 : Int)) = -1) := Lib.hid (if_pos hbig0)
    clear hbig0
    go_enter Try.func9, Try.ntmps9
    go_wp2_with fail
    refine Calls.name ?_
    intro U1 hU1
    have hb : Below w.heap.size w U1 := by rw [hU1]; exact ((Below.refl _ _).alloc (Nat.le_refl _) _)
    have zz : Hid (w.heap.size + 1 = U1.heap.size) := Lib.hid (by rw [hU1]; simp)
    have HX1 : Kept w.heap.size (w.heap.size + 1) (BoxK w.heap.size 50 #[.int .i64 v0, .bool b0, .slice A0 n0 c0]) U1 := by rw [hU1]; exact Kept.box (Box.made_at _ _ _ rfl)
    replace HA0 := HA0.below hb
    replace HA1 := HA1.below hb
    replace HB := Lib.hid (below_step HB.out hb)
    clear hb
    have Z1 := zz; clear zz
    clear hU1
    refine (szQueue_any v0 b0 A0 n0 c0 (1048576) _ hn0 (by omega) (by omega)).mono ?_
    rw [HR0.out]
    rintro e w2 ⟨rfl, hb⟩
    have Z2 := Lib.hid hb.size
    replace HA0 := HA0.below hb
    replace HA1 := HA1.below hb
    replace HX1 := HX1.below hb
    replace HB := Lib.hid (below_step HB.out hb)
    clear hb
    have l2_0 := HX1.bx.lt
    go_wp2
    clear l2_0
    go_ret
    exact ⟨rfl, HB.out⟩
  have HR0 : Hid ((if (1048576 : Int) - (n0 : Int) < 0 then -1 else (1048576 : Int) - (n0 : Int)) = (1048576 : Int) - (n0 : Int)) := Lib.hid (if_neg hbig0)
  have hN0 : n0 ≤ 1048576 := by omega
  have hz0 : ¬ ((1048576 : Int) - (n0 : Int) < 0) := hbig0
  clear hbig0
  by_cases hbig1 : (1048576 - n0 : Int) - (n1 : Int) < 0
  · have HB := Lib.hid (Below.refl w.heap.size w)
    have HA0 := Rep.Sl.kept ha0 hh0
    clear ha0
    have HA1 := Rep.Sl.kept ha1 hh1
    clear ha1
    have HR1 : Hid ((if (1048576 - n0 : Int) - (n1 : Int) < 0 then -1 else (1048576 - n0 : Int) - (n1 : Int)) = -1) := Lib.hid (if_pos hbig1)
    clear hbig1
    go_enter Try.func9, Try.ntmps9
    go_wp2_with fail
    refine Calls.name ?_
    intro U1 hU1
    have hb : Below w.heap.size w U1 := by rw [hU1]; exact ((Below.refl _ _).alloc (Nat.le_refl _) _)
    have zz : Hid (w.heap.size + 1 = U1.heap.size) := Lib.hid (by rw [hU1]; simp)
    have HX1 : Kept w.heap.size (w.heap.size + 1) (BoxK w.heap.size 50 #[.int .i64 v0, .bool b0, .slice A0 n0 c0]) U1 := by rw [hU1]; exact Kept.box (Box.made_at _ _ _ rfl)
    replace HA0 := HA0.below hb
    replace HA1 := HA1.below hb
    replace HB := Lib.hid (below_step HB.out hb)
    clear hb
    have Z1 := zz; clear zz
    clear hU1
    refine (szQueue_any v0 b0 A0 n0 c0 (1048576) _ hn0 (by omega) (by omega)).mono ?_
    rw [HR0.out]
    rintro e w2 ⟨rfl, hb⟩
    have Z2 := Lib.hid hb.size
    replace HA0 := HA0.below hb
    replace HA1 := HA1.below hb
    replace HX1 := HX1.below hb
    replace HB := Lib.hid (below_step HB.out hb)
    clear hb
    have l2_0 := HX1.bx.lt
    go_wp2_with fail
    clear l2_0
    refine (szItemS_any A1 n1 c1 (1048576 - n0) _ (by omega) (by omega) hn1).mono ?_
    rw [HR1.out]
    rintro e w3 ⟨rfl, rfl⟩
    have l3_0 := HX1.bx.lt
    go_wp2
    clear l3_0
    go_ret
    exact ⟨rfl, HB.out⟩
  have HR1 : Hid ((if (1048576 - n0 : Int) - (n1 : Int) < 0 then -1 else (1048576 - n0 : Int) - (n1 : Int)) = (1048576 - n0 : Int) - (n1 : Int)) := Lib.hid (if_neg hbig1)
  have hN1 : n1 ≤ 1048576 := by omega
  have hz1 : ¬ ((1048576 - n0 : Int) - (n1 : Int) < 0) := hbig1
  clear hbig1
  have HB := Lib.hid (Below.refl w.heap.size w)
  have HA0 := Rep.Sl.kept ha0 hh0
  clear ha0
  have HA1 := Rep.Sl.kept ha1 hh1
  clear ha1
  have HBD0 := Lib.hid (pa_bd v0 b0 ys0 ys1)
  obtain ⟨r, hr⟩ : ∃ z, paC v0 b0 ys0 ys1 = z := ⟨_, rfl⟩
  have HRr := Lib.hid hr
  clear hr
  obtain ⟨x, hr⟩ : ∃ z, paX v0 b0 ys0 ys1 = z := ⟨_, rfl⟩
  have HRx := Lib.hid hr
  clear hr
  obtain ⟨p, hr⟩ : ∃ z, paP v0 b0 ys0 ys1 = z := ⟨_, rfl⟩
  have HRp := Lib.hid hr
  clear hr
  obtain ⟨us, hr⟩ : ∃ z, paU v0 b0 ys0 ys1 = z := ⟨_, rfl⟩
  have HRus := Lib.hid hr
  clear hr
  obtain ⟨t, hr⟩ : ∃ z, paT ys0 = z := ⟨_, rfl⟩
  have HRt := Lib.hid hr
  clear hr
  obtain ⟨zs, hr⟩ : ∃ z, paZ ys0 = z := ⟨_, rfl⟩
  have HRzs := Lib.hid hr
  clear hr
  have HBD : Hid (us.length ≤ 1048576 ∧ zs.length ≤ 1048576) := Lib.hid (by rw [← HRus.out, ← HRzs.out]; exact HBD0.out)
  clear HBD0
  go_enter Try.func9, Try.ntmps9
  go_wp2_with fail
  refine Calls.name ?_
  intro U1 hU1
  have hb : Below w.heap.size w U1 := by rw [hU1]; exact ((Below.refl _ _).alloc (Nat.le_refl _) _)
  have zz : Hid (w.heap.size + 1 = U1.heap.size) := Lib.hid (by rw [hU1]; simp)
  have HX1 : Kept w.heap.size (w.heap.size + 1) (BoxK w.heap.size 50 #[.int .i64 v0, .bool b0, .slice A0 n0 c0]) U1 := by rw [hU1]; exact Kept.box (Box.made_at _ _ _ rfl)
  replace HA0 := HA0.below hb
  replace HA1 := HA1.below hb
  replace HB := Lib.hid (below_step HB.out hb)
  clear hb
  have Z1 := zz; clear zz
  clear hU1
  refine (szQueue_any v0 b0 A0 n0 c0 (1048576) _ hn0 (by omega) (by omega)).mono ?_
  rw [HR0.out]
  rintro e w2 ⟨rfl, hb⟩
  have Z2 := Lib.hid hb.size
  replace HA0 := HA0.below hb
  replace HA1 := HA1.below hb
  replace HX1 := HX1.below hb
  replace HB := Lib.hid (below_step HB.out hb)
  clear hb
  have l2_0 := HX1.bx.lt
  go_wp2_with fail
  clear l2_0
  refine (szItemS_any A1 n1 c1 (1048576 - n0) _ (by omega) (by omega) hn1).mono ?_
  rw [HR1.out]
  rintro e w3 ⟨rfl, rfl⟩
  have c3_0 := HX1.look 0
  have c3_1 := HX1.look 1
  have c3_2 := HX1.look 2
  have l3_0 := HX1.bx.lt
  go_wp2_with fail
  clear c3_0 c3_1 c3_2 l3_0
  refine (toQueue_any q0 lo0 hi0 v0 b0 A0 n0 c0 ys0 _ HA0.sl HA0.le hN0).mono ?_
  rintro e w4 ⟨Ps0, rfl, hk, hb⟩
  have Z3 := Lib.hid hb.size
  replace HA0 := HA0.below hb
  replace HA1 := HA1.below hb
  replace HX1 := HX1.below hb
  replace HB := Lib.hid (below_step HB.out hb)
  clear hb
  have HS0 := hk; clear hk
  have l4_0 := HX1.bx.lt
  go_wp2_with fail
  clear l4_0
  refine (toItemS_any q1 lo1 hi1 A1 n1 c1 ys1 _ HA1.sl HA1.le hN1).mono ?_
  rintro e w5 ⟨rfl, hs, hlt, hb⟩
  have Z4 := Lib.hid hb.size
  replace HA0 := HA0.below hb
  replace HA1 := HA1.below hb
  replace HX1 := HX1.below hb
  replace HS0 := HS0.below hb
  replace HB := Lib.hid (below_step HB.out hb)
  clear hb
  have Z5 := Lib.hid hlt
  have HT1 := Rep.Sl.kept hs hlt; clear hs hlt
  have l5_0 := HX1.bx.lt
  go_wp2_with fail
  clear l5_0
  refine (specPushAll_any v0 b0 true _ _ Ps0 n0 n0 ys0 true _ _ (some ⟨w4.heap.size, 0, none⟩) n1 n1 ys1 _ HS0.sl HS0.le hN0 HT1.sl HT1.le hN1).mono ?_
  rw [HRr.out, HRx.out, HRp.out, HRus.out, HRt.out, HRzs.out]
  rintro e w6 ⟨O0, j0, k0, E0, m0, d0, rfl, hk, hb⟩
  have Z6 := Lib.hid hb.size
  replace HA0 := HA0.below hb
  replace HA1 := HA1.below hb
  replace HX1 := HX1.below hb
  replace HS0 := HS0.below hb
  replace HT1 := HT1.below hb
  replace HB := Lib.hid (below_step HB.out hb)
  clear hb
  have HO0 := hk; clear hk
  have HQ : Hid (us.length = j0 ∧ zs.length = m0) := Lib.hid ⟨HO0.q_list.1, HO0.q_items.1⟩
  have hj0 : j0 ≤ 1048576 := by have := HQ.out.1; have := HBD.out.1; omega
  have hm0 : m0 ≤ 1048576 := by have := HQ.out.2; have := HBD.out.2; omega
  clear HS0
  clear HT1
  have c6_0 := HX1.look 0
  have c6_1 := HX1.look 1
  have c6_2 := HX1.look 2
  have l6_0 := HX1.bx.lt
  go_wp2_with fail
  clear c6_0 c6_1 c6_2 l6_0
  refine Calls.name ?_
  intro U7 hU7
  have hb : Below w6.heap.size w6 U7 := by rw [hU7]; exact ((Below.refl _ _).alloc (Nat.le_refl _) _)
  have zz : Hid (w6.heap.size + 1 = U7.heap.size) := Lib.hid (by rw [hU7]; simp)
  have HX2 : Kept w6.heap.size (w6.heap.size + 1) (BoxK w6.heap.size 30 #[.int .i64 r, .int .i64 x, .bool p, .slice O0 j0 k0, .bool t, .slice E0 m0 d0]) U7 := by rw [hU7]; exact Kept.box (Box.made_at _ _ _ rfl)
  replace HA0 := HA0.below hb
  replace HA1 := HA1.below hb
  replace HX1 := HX1.below hb
  replace HO0 := HO0.below hb
  replace HB := Lib.hid (below_step HB.out hb)
  clear hb
  have Z7 := zz; clear zz
  clear hU7
  refine (toQueue_any q0 lo0 hi0 v0 b0 A0 n0 c0 ys0 _ HA0.sl HA0.le hN0).mono ?_
  rintro e w8 ⟨Px0, rfl, hk, hb⟩
  have Z8 := Lib.hid hb.size
  replace HA0 := HA0.below hb
  replace HA1 := HA1.below hb
  replace HX1 := HX1.below hb
  replace HO0 := HO0.below hb
  replace HX2 := HX2.below hb
  replace HB := Lib.hid (below_step HB.out hb)
  clear hb
  have HG0 := hk; clear hk
  have l7_0 := HX1.bx.lt
  have l7_1 := HX2.bx.lt
  go_wp2_with fail
  clear l7_0 l7_1
  refine Calls.name ?_
  intro U9 hU9
  have hb : Below w8.heap.size w8 U9 := by rw [hU9]; exact ((Below.refl _ _).alloc (Nat.le_refl _) _)
  have zz : Hid (w8.heap.size + 1 = U9.heap.size) := Lib.hid (by rw [hU9]; simp)
  have HX3 : Kept w8.heap.size (w8.heap.size + 1) (BoxK w8.heap.size 26 #[.int .i64 v0, .bool b0, .slice Px0 n0 n0]) U9 := by rw [hU9]; exact Kept.box (Box.made_at _ _ _ rfl)
  replace HA0 := HA0.below hb
  replace HA1 := HA1.below hb
  replace HX1 := HX1.below hb
  replace HO0 := HO0.below hb
  replace HX2 := HX2.below hb
  replace HG0 := HG0.below hb
  replace HB := Lib.hid (below_step HB.out hb)
  clear hb
  have Z9 := zz; clear zz
  clear hU9
  refine (toItemS_any q1 lo1 hi1 A1 n1 c1 ys1 _ HA1.sl HA1.le hN1).mono ?_
  rintro e w10 ⟨rfl, hs, hlt, hb⟩
  have Z10 := Lib.hid hb.size
  replace HA0 := HA0.below hb
  replace HA1 := HA1.below hb
  replace HX1 := HX1.below hb
  replace HO0 := HO0.below hb
  replace HX2 := HX2.below hb
  replace HG0 := HG0.below hb
  replace HX3 := HX3.below hb
  replace HB := Lib.hid (below_step HB.out hb)
  clear hb
  have Z11 := Lib.hid hlt
  have HG1 := Rep.Sl.kept hs hlt; clear hs hlt
  have c8_0 := HX3.look 0
  have c8_1 := HX3.look 1
  have c8_2 := HX3.look 2
  have l8_0 := HX1.bx.lt
  have l8_1 := HX2.bx.lt
  have l8_2 := HX3.bx.lt
  go_wp2_with fail
  clear c8_0 c8_1 c8_2 l8_0 l8_1 l8_2
  refine (pushAll_any v0 b0 true _ _ Px0 n0 n0 ys0 true _ _ (some ⟨U9.heap.size, 0, none⟩) n1 n1 ys1 _ HG0.sl HG0.le hN0 HG1.sl HG1.le hN1 (Nat.le_refl _)).mono ?_
  rw [HRr.out, HRx.out, HRp.out, HRus.out, HRt.out, HRzs.out]
  rintro e w11 ⟨O1, j1, k1, E1, m1, d1, rfl, hk, hb⟩
  have Z12 := Lib.hid hb.size
  replace HA0 := HA0.below hb
  replace HA1 := HA1.below hb
  replace HX1 := HX1.below hb
  replace HO0 := HO0.below hb
  replace HX2 := HX2.below hb
  replace HG0 := HG0.below hb
  replace HX3 := HX3.below hb
  replace HG1 := HG1.below hb
  replace HB := Lib.hid (below_step HB.out hb)
  clear hb
  have HO1 := hk; clear hk
  obtain rfl : j0 = j1 := by have := HO1.q_list.1; have := HO0.q_list.1; omega
  obtain rfl : m0 = m1 := by have := HO1.q_items.1; have := HO0.q_items.1; omega
  have c9_0 := HX2.look 0
  have c9_1 := HX2.look 1
  have c9_2 := HX2.look 2
  have c9_3 := HX2.look 3
  have c9_4 := HX2.look 4
  have c9_5 := HX2.look 5
  have l9_0 := HX1.bx.lt
  have l9_1 := HX2.bx.lt
  have l9_2 := HX3.bx.lt
  go_wp2_with fail
  clear c9_0 c9_1 c9_2 c9_3 c9_4 c9_5 l9_0 l9_1 l9_2
  refine Calls.name ?_
  intro U12 hU12
  have hb : Below w11.heap.size w11 U12 := by rw [hU12]; exact ((Below.refl _ _).alloc (Nat.le_refl _) _)
  have zz : Hid (w11.heap.size + 1 = U12.heap.size) := Lib.hid (by rw [hU12]; simp)
  have HX4 : Kept w11.heap.size (w11.heap.size + 1) (BoxK w11.heap.size 30 #[.int .i64 r, .int .i64 x, .bool p, .slice O1 j0 k1, .bool t, .slice E1 m0 d1]) U12 := by rw [hU12]; exact Kept.box (Box.made_at _ _ _ rfl)
  replace HA0 := HA0.below hb
  replace HA1 := HA1.below hb
  replace HX1 := HX1.below hb
  replace HO0 := HO0.below hb
  replace HX2 := HX2.below hb
  replace HG0 := HG0.below hb
  replace HX3 := HX3.below hb
  replace HG1 := HG1.below hb
  replace HO1 := HO1.below hb
  replace HB := Lib.hid (below_step HB.out hb)
  clear hb
  have Z13 := zz; clear zz
  clear hU12
  refine (eqQueueResult_yes r x p t true true _ _ _ _ O1 O0 j0 k1 k0 us _ _ _ _ E1 E0 m0 d1 d0 zs _ HO1.q_list HO0.q_list HO1.le HO0.le hj0 HO1.q_items HO0.q_items HO1.le HO0.le hm0).mono ?_
  rintro e w13 ⟨rfl, hb⟩
  have Z14 := Lib.hid hb.size
  replace HA0 := HA0.below hb
  replace HA1 := HA1.below hb
  replace HX1 := HX1.below hb
  replace HO0 := HO0.below hb
  replace HX2 := HX2.below hb
  replace HG0 := HG0.below hb
  replace HX3 := HX3.below hb
  replace HG1 := HG1.below hb
  replace HO1 := HO1.below hb
  replace HX4 := HX4.below hb
  replace HB := Lib.hid (below_step HB.out hb)
  clear hb
  have l10_0 := HX1.bx.lt
  have l10_1 := HX2.bx.lt
  have l10_2 := HX3.bx.lt
  have l10_3 := HX4.bx.lt
  go_wp2
  clear l10_0 l10_1 l10_2 l10_3
  have SB : Hid (∀ W, Hid (Below w13.heap.size w13 W) → (fun W => W.cell? ⟨w.heap.size, 0, none⟩ = some (.int .i64 v0) ∧ W.cell? ⟨w.heap.size, 1, none⟩ = some (.bool b0) ∧ W.cell? ⟨w.heap.size, 2, none⟩ = some (.slice A0 n0 c0) ∧ W.cell? ⟨w8.heap.size, 0, none⟩ = some (.int .i64 v0) ∧ W.cell? ⟨w8.heap.size, 1, none⟩ = some (.bool b0) ∧ W.cell? ⟨w8.heap.size, 2, none⟩ = some (.slice Px0 n0 n0)) W) := fun W h => ⟨(HX1.below h.out).look 0, (HX1.below h.out).look 1, (HX1.below h.out).look 2, (HX3.below h.out).look 0, (HX3.below h.out).look 1, (HX3.below h.out).look 2⟩
  have V0 : Hid (Below w13.heap.size w13 w13.drew) := (Below.refl _ _).drew
  go_region_held3 (fun W => W.cell? ⟨w.heap.size, 0, none⟩ = some (.int .i64 v0) ∧ W.cell? ⟨w.heap.size, 1, none⟩ = some (.bool b0) ∧ W.cell? ⟨w.heap.size, 2, none⟩ = some (.slice A0 n0 c0) ∧ W.cell? ⟨w8.heap.size, 0, none⟩ = some (.int .i64 v0) ∧ W.cell? ⟨w8.heap.size, 1, none⟩ = some (.bool b0) ∧ W.cell? ⟨w8.heap.size, 2, none⟩ = some (.slice Px0 n0 n0)) (exact SB.out _ (by assumption))
    (first | (go_at_call 35; ((with_reducible refine (toQueue_any q0 lo0 hi0 v0 b0 A0 n0 c0 ys0 _ (HA0.below V0.out).sl (HA0.below V0.out).le hN0).mono ?_); rintro e u1_0 ⟨Pz0, rfl, hk, hb⟩; have V1 := Lib.hid (below_step V0.out hb); clear hb; have HZ0 := hk; clear hk)) | (go_at_call 36; ((with_reducible refine (eqQueue_yes v0 b0 true true _ _ _ _ Px0 _ n0 n0 n0 ys0 _ (HG0.below V1.out).sl HZ0.sl (HG0.below V1.out).le HZ0.le hN0).mono ?_); rintro e u1_1 ⟨rfl, hb⟩; have V2 := Lib.hid (below_step V1.out hb); clear hb)))
  have hb := V2.out
  clear SB V0 V1 V2
  have Z15 := Lib.hid hb.size
  replace HA0 := HA0.below hb
  replace HA1 := HA1.below hb
  replace HX1 := HX1.below hb
  replace HO0 := HO0.below hb
  replace HX2 := HX2.below hb
  replace HG0 := HG0.below hb
  replace HX3 := HX3.below hb
  replace HG1 := HG1.below hb
  replace HO1 := HO1.below hb
  replace HX4 := HX4.below hb
  replace HB := Lib.hid (below_step HB.out hb)
  clear hb
  clear HZ0
  have l11_0 := HX1.bx.lt
  have l11_1 := HX2.bx.lt
  have l11_2 := HX3.bx.lt
  have l11_3 := HX4.bx.lt
  go_wp2_with fail
  clear l11_0 l11_1 l11_2 l11_3
  refine (toItemS_any q1 lo1 hi1 A1 n1 c1 ys1 _ HA1.sl HA1.le hN1).mono ?_
  rintro e w14 ⟨rfl, hs, hlt, hb⟩
  have Z16 := Lib.hid hb.size
  replace HA0 := HA0.below hb
  replace HA1 := HA1.below hb
  replace HX1 := HX1.below hb
  replace HO0 := HO0.below hb
  replace HX2 := HX2.below hb
  replace HG0 := HG0.below hb
  replace HX3 := HX3.below hb
  replace HG1 := HG1.below hb
  replace HO1 := HO1.below hb
  replace HX4 := HX4.below hb
  replace HB := Lib.hid (below_step HB.out hb)
  clear hb
  have Z17 := Lib.hid hlt
  have HZ1 := Rep.Sl.kept hs hlt; clear hs hlt
  have l12_0 := HX1.bx.lt
  have l12_1 := HX2.bx.lt
  have l12_2 := HX3.bx.lt
  have l12_3 := HX4.bx.lt
  go_wp2_with fail
  clear l12_0 l12_1 l12_2 l12_3
  refine (eqItemS_yes true true _ _ _ _ (some ⟨U9.heap.size, 0, none⟩) (some ⟨u1_1.heap.size, 0, none⟩) n1 n1 n1 ys1 _ HG1.sl HZ1.sl HG1.le HZ1.le hN1).mono ?_
  rintro e w15 ⟨rfl, hb⟩
  have Z18 := Lib.hid hb.size
  replace HA0 := HA0.below hb
  replace HA1 := HA1.below hb
  replace HX1 := HX1.below hb
  replace HO0 := HO0.below hb
  replace HX2 := HX2.below hb
  replace HG0 := HG0.below hb
  replace HX3 := HX3.below hb
  replace HG1 := HG1.below hb
  replace HO1 := HO1.below hb
  replace HX4 := HX4.below hb
  replace HZ1 := HZ1.below hb
  replace HB := Lib.hid (below_step HB.out hb)
  clear hb
  clear HZ1
  have c13_0 := HX3.look 0
  have c13_1 := HX3.look 1
  have c13_2 := HX3.look 2
  have l13_0 := HX1.bx.lt
  have l13_1 := HX2.bx.lt
  have l13_2 := HX3.bx.lt
  have l13_3 := HX4.bx.lt
  go_wp2_with fail
  clear c13_0 c13_1 c13_2 l13_0 l13_1 l13_2 l13_3
  refine (markQueue_any _ _ v0 b0 Px0 n0 n0 ys0 1 _ HG0.sl HG0.le hN0 (by omega) (by omega)).mono ?_
  rintro e w16 ⟨rfl, ho⟩
  have Z19 := Lib.hid ho.size
  replace HA0 := HA0.only ho (by have := Z1.out; have := Z2.out; have := Z3.out; have := Z4.out; have := Z5.out; have := Z6.out; have := Z7.out; have := Z8.out; have := Z9.out; have := Z10.out; have := Z11.out; have := Z12.out; have := Z13.out; have := Z14.out; have := Z15.out; have := Z16.out; have := Z17.out; have := Z18.out; have := Z19.out; omega)
  replace HA1 := HA1.only ho (by have := Z1.out; have := Z2.out; have := Z3.out; have := Z4.out; have := Z5.out; have := Z6.out; have := Z7.out; have := Z8.out; have := Z9.out; have := Z10.out; have := Z11.out; have := Z12.out; have := Z13.out; have := Z14.out; have := Z15.out; have := Z16.out; have := Z17.out; have := Z18.out; have := Z19.out; omega)
  replace HX1 := HX1.only ho (by have := Z1.out; have := Z2.out; have := Z3.out; have := Z4.out; have := Z5.out; have := Z6.out; have := Z7.out; have := Z8.out; have := Z9.out; have := Z10.out; have := Z11.out; have := Z12.out; have := Z13.out; have := Z14.out; have := Z15.out; have := Z16.out; have := Z17.out; have := Z18.out; have := Z19.out; omega)
  replace HO0 := HO0.only ho (by have := Z1.out; have := Z2.out; have := Z3.out; have := Z4.out; have := Z5.out; have := Z6.out; have := Z7.out; have := Z8.out; have := Z9.out; have := Z10.out; have := Z11.out; have := Z12.out; have := Z13.out; have := Z14.out; have := Z15.out; have := Z16.out; have := Z17.out; have := Z18.out; have := Z19.out; omega)
  replace HX2 := HX2.only ho (by have := Z1.out; have := Z2.out; have := Z3.out; have := Z4.out; have := Z5.out; have := Z6.out; have := Z7.out; have := Z8.out; have := Z9.out; have := Z10.out; have := Z11.out; have := Z12.out; have := Z13.out; have := Z14.out; have := Z15.out; have := Z16.out; have := Z17.out; have := Z18.out; have := Z19.out; omega)
  replace HX3 := HX3.only ho (by have := Z1.out; have := Z2.out; have := Z3.out; have := Z4.out; have := Z5.out; have := Z6.out; have := Z7.out; have := Z8.out; have := Z9.out; have := Z10.out; have := Z11.out; have := Z12.out; have := Z13.out; have := Z14.out; have := Z15.out; have := Z16.out; have := Z17.out; have := Z18.out; have := Z19.out; omega)
  replace HG1 := HG1.only ho (by have := Z1.out; have := Z2.out; have := Z3.out; have := Z4.out; have := Z5.out; have := Z6.out; have := Z7.out; have := Z8.out; have := Z9.out; have := Z10.out; have := Z11.out; have := Z12.out; have := Z13.out; have := Z14.out; have := Z15.out; have := Z16.out; have := Z17.out; have := Z18.out; have := Z19.out; omega)
  replace HO1 := HO1.only ho (by have := Z1.out; have := Z2.out; have := Z3.out; have := Z4.out; have := Z5.out; have := Z6.out; have := Z7.out; have := Z8.out; have := Z9.out; have := Z10.out; have := Z11.out; have := Z12.out; have := Z13.out; have := Z14.out; have := Z15.out; have := Z16.out; have := Z17.out; have := Z18.out; have := Z19.out; omega)
  replace HX4 := HX4.only ho (by have := Z1.out; have := Z2.out; have := Z3.out; have := Z4.out; have := Z5.out; have := Z6.out; have := Z7.out; have := Z8.out; have := Z9.out; have := Z10.out; have := Z11.out; have := Z12.out; have := Z13.out; have := Z14.out; have := Z15.out; have := Z16.out; have := Z17.out; have := Z18.out; have := Z19.out; omega)
  replace HB := Lib.hid (Below.only HB.out ho (by have := Z1.out; have := Z2.out; have := Z3.out; have := Z4.out; have := Z5.out; have := Z6.out; have := Z7.out; have := Z8.out; have := Z9.out; have := Z10.out; have := Z11.out; have := Z12.out; have := Z13.out; have := Z14.out; have := Z15.out; have := Z16.out; have := Z17.out; have := Z18.out; have := Z19.out; omega) HB.out.size)
  clear HG0
  clear ho
  have hq0 : ¬ (1 + 4 * (n0 : Int) < 0) := by omega
  have l14_0 := HX1.bx.lt
  have l14_1 := HX2.bx.lt
  have l14_2 := HX3.bx.lt
  have l14_3 := HX4.bx.lt
  go_wp2_with fail
  clear l14_0 l14_1 l14_2 l14_3
  refine (markItemS_any _ _ (some ⟨U9.heap.size, 0, none⟩) n1 n1 ys1 (1 + 4 * (n0 : Int)) _ HG1.sl hN1 (by omega) (by omega)).mono ?_
  rintro e w17 ⟨rfl, _, ho, _⟩
  have Z20 := Lib.hid ho.size
  replace HA0 := HA0.only ho (by have := Z1.out; have := Z2.out; have := Z3.out; have := Z4.out; have := Z5.out; have := Z6.out; have := Z7.out; have := Z8.out; have := Z9.out; have := Z10.out; have := Z11.out; have := Z12.out; have := Z13.out; have := Z14.out; have := Z15.out; have := Z16.out; have := Z17.out; have := Z18.out; have := Z19.out; have := Z20.out; omega)
  replace HA1 := HA1.only ho (by have := Z1.out; have := Z2.out; have := Z3.out; have := Z4.out; have := Z5.out; have := Z6.out; have := Z7.out; have := Z8.out; have := Z9.out; have := Z10.out; have := Z11.out; have := Z12.out; have := Z13.out; have := Z14.out; have := Z15.out; have := Z16.out; have := Z17.out; have := Z18.out; have := Z19.out; have := Z20.out; omega)
  replace HX1 := HX1.only ho (by have := Z1.out; have := Z2.out; have := Z3.out; have := Z4.out; have := Z5.out; have := Z6.out; have := Z7.out; have := Z8.out; have := Z9.out; have := Z10.out; have := Z11.out; have := Z12.out; have := Z13.out; have := Z14.out; have := Z15.out; have := Z16.out; have := Z17.out; have := Z18.out; have := Z19.out; have := Z20.out; omega)
  replace HO0 := HO0.only ho (by have := Z1.out; have := Z2.out; have := Z3.out; have := Z4.out; have := Z5.out; have := Z6.out; have := Z7.out; have := Z8.out; have := Z9.out; have := Z10.out; have := Z11.out; have := Z12.out; have := Z13.out; have := Z14.out; have := Z15.out; have := Z16.out; have := Z17.out; have := Z18.out; have := Z19.out; have := Z20.out; omega)
  replace HX2 := HX2.only ho (by have := Z1.out; have := Z2.out; have := Z3.out; have := Z4.out; have := Z5.out; have := Z6.out; have := Z7.out; have := Z8.out; have := Z9.out; have := Z10.out; have := Z11.out; have := Z12.out; have := Z13.out; have := Z14.out; have := Z15.out; have := Z16.out; have := Z17.out; have := Z18.out; have := Z19.out; have := Z20.out; omega)
  replace HX3 := HX3.only ho (by have := Z1.out; have := Z2.out; have := Z3.out; have := Z4.out; have := Z5.out; have := Z6.out; have := Z7.out; have := Z8.out; have := Z9.out; have := Z10.out; have := Z11.out; have := Z12.out; have := Z13.out; have := Z14.out; have := Z15.out; have := Z16.out; have := Z17.out; have := Z18.out; have := Z19.out; have := Z20.out; omega)
  replace HO1 := HO1.only ho (by have := Z1.out; have := Z2.out; have := Z3.out; have := Z4.out; have := Z5.out; have := Z6.out; have := Z7.out; have := Z8.out; have := Z9.out; have := Z10.out; have := Z11.out; have := Z12.out; have := Z13.out; have := Z14.out; have := Z15.out; have := Z16.out; have := Z17.out; have := Z18.out; have := Z19.out; have := Z20.out; omega)
  replace HX4 := HX4.only ho (by have := Z1.out; have := Z2.out; have := Z3.out; have := Z4.out; have := Z5.out; have := Z6.out; have := Z7.out; have := Z8.out; have := Z9.out; have := Z10.out; have := Z11.out; have := Z12.out; have := Z13.out; have := Z14.out; have := Z15.out; have := Z16.out; have := Z17.out; have := Z18.out; have := Z19.out; have := Z20.out; omega)
  replace HB := Lib.hid (Below.only HB.out ho (by have := Z1.out; have := Z2.out; have := Z3.out; have := Z4.out; have := Z5.out; have := Z6.out; have := Z7.out; have := Z8.out; have := Z9.out; have := Z10.out; have := Z11.out; have := Z12.out; have := Z13.out; have := Z14.out; have := Z15.out; have := Z16.out; have := Z17.out; have := Z18.out; have := Z19.out; have := Z20.out; omega) HB.out.size)
  clear HG1
  clear ho
  have hq2 : ¬ (1 + 4 * (n0 : Int) + 4 * (n1 : Int) < 0) := by omega
  have c15_0 := HX2.look 0
  have c15_1 := HX2.look 1
  have c15_2 := HX2.look 2
  have c15_3 := HX2.look 3
  have c15_4 := HX2.look 4
  have c15_5 := HX2.look 5
  have c15_6 := HX4.look 0
  have c15_7 := HX4.look 1
  have c15_8 := HX4.look 2
  have c15_9 := HX4.look 3
  have c15_10 := HX4.look 4
  have c15_11 := HX4.look 5
  have l15_0 := HX1.bx.lt
  have l15_1 := HX2.bx.lt
  have l15_2 := HX3.bx.lt
  have l15_3 := HX4.bx.lt
  go_wp2_with fail
  clear c15_0 c15_1 c15_2 c15_3 c15_4 c15_5 c15_6 c15_7 c15_8 c15_9 c15_10 c15_11 l15_0 l15_1 l15_2 l15_3
  refine (eqQueueResult_yes r x p t true true _ _ _ _ O1 O0 j0 k1 k0 us _ _ _ _ E1 E0 m0 d1 d0 zs _ HO1.q_list HO0.q_list HO1.le HO0.le hj0 HO1.q_items HO0.q_items HO1.le HO0.le hm0).mono ?_
  rintro e w18 ⟨rfl, hb⟩
  have Z21 := Lib.hid hb.size
  replace HA0 := HA0.below hb
  replace HA1 := HA1.below hb
  replace HX1 := HX1.below hb
  replace HO0 := HO0.below hb
  replace HX2 := HX2.below hb
  replace HX3 := HX3.below hb
  replace HO1 := HO1.below hb
  replace HX4 := HX4.below hb
  replace HB := Lib.hid (below_step HB.out hb)
  clear hb
  have c16_0 := HX4.look 0
  have c16_1 := HX4.look 1
  have c16_2 := HX4.look 2
  have c16_3 := HX4.look 3
  have c16_4 := HX4.look 4
  have c16_5 := HX4.look 5
  have l16_0 := HX1.bx.lt
  have l16_1 := HX2.bx.lt
  have l16_2 := HX3.bx.lt
  have l16_3 := HX4.bx.lt
  go_wp2_with fail
  clear c16_0 c16_1 c16_2 c16_3 c16_4 c16_5 l16_0 l16_1 l16_2 l16_3
  obtain ⟨bs, cs, hfr, hfs, hnd, hin⟩ := HO1.out
  have HLE := HO1.le
  refine (markQueueResult_F r x p t O1 j0 k1 us E1 m0 d1 zs bs cs 1 _ hfr hfs hnd (fun b hb => Nat.lt_of_lt_of_le (hin b hb).2 HLE) hj0 hm0 (by omega) (by omega)).mono ?_
  rintro e w19 ⟨rfl, hfr2, hfs2, hob⟩
  have ho := hob.only hin
  have Z22 := Lib.hid ho.size
  replace HA0 := HA0.only ho (by have := Z1.out; have := Z2.out; have := Z3.out; have := Z4.out; have := Z5.out; have := Z6.out; have := Z7.out; have := Z8.out; have := Z9.out; have := Z10.out; have := Z11.out; have := Z12.out; have := Z13.out; have := Z14.out; have := Z15.out; have := Z16.out; have := Z17.out; have := Z18.out; have := Z19.out; have := Z20.out; have := Z21.out; have := Z22.out; omega)
  replace HA1 := HA1.only ho (by have := Z1.out; have := Z2.out; have := Z3.out; have := Z4.out; have := Z5.out; have := Z6.out; have := Z7.out; have := Z8.out; have := Z9.out; have := Z10.out; have := Z11.out; have := Z12.out; have := Z13.out; have := Z14.out; have := Z15.out; have := Z16.out; have := Z17.out; have := Z18.out; have := Z19.out; have := Z20.out; have := Z21.out; have := Z22.out; omega)
  replace HX1 := HX1.only ho (by have := Z1.out; have := Z2.out; have := Z3.out; have := Z4.out; have := Z5.out; have := Z6.out; have := Z7.out; have := Z8.out; have := Z9.out; have := Z10.out; have := Z11.out; have := Z12.out; have := Z13.out; have := Z14.out; have := Z15.out; have := Z16.out; have := Z17.out; have := Z18.out; have := Z19.out; have := Z20.out; have := Z21.out; have := Z22.out; omega)
  replace HO0 := HO0.only ho (by have := Z1.out; have := Z2.out; have := Z3.out; have := Z4.out; have := Z5.out; have := Z6.out; have := Z7.out; have := Z8.out; have := Z9.out; have := Z10.out; have := Z11.out; have := Z12.out; have := Z13.out; have := Z14.out; have := Z15.out; have := Z16.out; have := Z17.out; have := Z18.out; have := Z19.out; have := Z20.out; have := Z21.out; have := Z22.out; omega)
  replace HX2 := HX2.only ho (by have := Z1.out; have := Z2.out; have := Z3.out; have := Z4.out; have := Z5.out; have := Z6.out; have := Z7.out; have := Z8.out; have := Z9.out; have := Z10.out; have := Z11.out; have := Z12.out; have := Z13.out; have := Z14.out; have := Z15.out; have := Z16.out; have := Z17.out; have := Z18.out; have := Z19.out; have := Z20.out; have := Z21.out; have := Z22.out; omega)
  replace HX3 := HX3.only ho (by have := Z1.out; have := Z2.out; have := Z3.out; have := Z4.out; have := Z5.out; have := Z6.out; have := Z7.out; have := Z8.out; have := Z9.out; have := Z10.out; have := Z11.out; have := Z12.out; have := Z13.out; have := Z14.out; have := Z15.out; have := Z16.out; have := Z17.out; have := Z18.out; have := Z19.out; have := Z20.out; have := Z21.out; have := Z22.out; omega)
  replace HX4 := HX4.only ho (by have := Z1.out; have := Z2.out; have := Z3.out; have := Z4.out; have := Z5.out; have := Z6.out; have := Z7.out; have := Z8.out; have := Z9.out; have := Z10.out; have := Z11.out; have := Z12.out; have := Z13.out; have := Z14.out; have := Z15.out; have := Z16.out; have := Z17.out; have := Z18.out; have := Z19.out; have := Z20.out; have := Z21.out; have := Z22.out; omega)
  replace HB := Lib.hid (Below.only HB.out ho (by have := Z1.out; have := Z2.out; have := Z3.out; have := Z4.out; have := Z5.out; have := Z6.out; have := Z7.out; have := Z8.out; have := Z9.out; have := Z10.out; have := Z11.out; have := Z12.out; have := Z13.out; have := Z14.out; have := Z15.out; have := Z16.out; have := Z17.out; have := Z18.out; have := Z19.out; have := Z20.out; have := Z21.out; have := Z22.out; omega) HB.out.size)
  have HM := QK.kept (us := mTimers 1 j0) (zs := mTimers (1 + 4 * (j0 : Int)) m0) ⟨bs, cs, hfr2, hfs2, hnd, hin⟩ (Nat.le_trans HLE ho.size); clear HO1 hob ho hfr hfs hnd hin hfr2 hfs2 HLE
  have hq1 : ¬ (1 + 4 * (j0 : Int) + 4 * (m0 : Int) < 0) := by omega
  have c17_0 := HX4.look 0
  have c17_1 := HX4.look 1
  have c17_2 := HX4.look 2
  have c17_3 := HX4.look 3
  have c17_4 := HX4.look 4
  have c17_5 := HX4.look 5
  have l17_0 := HX1.bx.lt
  have l17_1 := HX2.bx.lt
  have l17_2 := HX3.bx.lt
  have l17_3 := HX4.bx.lt
  go_wp2_with fail
  clear c17_0 c17_1 c17_2 c17_3 c17_4 c17_5 l17_0 l17_1 l17_2 l17_3
  refine (heldQueueResult_yes true true _ _ _ _ r x p t O1 j0 k1 E1 m0 d1 1 _ HM.q_list HM.q_items HM.le HM.le hj0 hm0 (by omega) (by omega)).mono ?_
  rintro e w20 ⟨rfl, hb⟩
  have Z23 := Lib.hid hb.size
  replace HA0 := HA0.below hb
  replace HA1 := HA1.below hb
  replace HX1 := HX1.below hb
  replace HO0 := HO0.below hb
  replace HX2 := HX2.below hb
  replace HX3 := HX3.below hb
  replace HX4 := HX4.below hb
  replace HM := HM.below hb
  replace HB := Lib.hid (below_step HB.out hb)
  clear hb
  have c18_0 := HX1.look 0
  have c18_1 := HX1.look 1
  have c18_2 := HX1.look 2
  have l18_0 := HX1.bx.lt
  have l18_1 := HX2.bx.lt
  have l18_2 := HX3.bx.lt
  have l18_3 := HX4.bx.lt
  go_wp2_with fail
  clear c18_0 c18_1 c18_2 l18_0 l18_1 l18_2 l18_3
  refine (toQueue_any q0 lo0 hi0 v0 b0 A0 n0 c0 ys0 _ HA0.sl HA0.le hN0).mono ?_
  rintro e w21 ⟨Py0, rfl, hk, hb⟩
  have Z24 := Lib.hid hb.size
  replace HA0 := HA0.below hb
  replace HA1 := HA1.below hb
  replace HX1 := HX1.below hb
  replace HO0 := HO0.below hb
  replace HX2 := HX2.below hb
  replace HX3 := HX3.below hb
  replace HX4 := HX4.below hb
  replace HM := HM.below hb
  replace HB := Lib.hid (below_step HB.out hb)
  clear hb
  have HH0 := hk; clear hk
  have l19_0 := HX1.bx.lt
  have l19_1 := HX2.bx.lt
  have l19_2 := HX3.bx.lt
  have l19_3 := HX4.bx.lt
  go_wp2_with fail
  clear l19_0 l19_1 l19_2 l19_3
  refine (toItemS_any q1 lo1 hi1 A1 n1 c1 ys1 _ HA1.sl HA1.le hN1).mono ?_
  rintro e w22 ⟨rfl, hs, hlt, hb⟩
  have Z25 := Lib.hid hb.size
  replace HA0 := HA0.below hb
  replace HA1 := HA1.below hb
  replace HX1 := HX1.below hb
  replace HO0 := HO0.below hb
  replace HX2 := HX2.below hb
  replace HX3 := HX3.below hb
  replace HX4 := HX4.below hb
  replace HM := HM.below hb
  replace HH0 := HH0.below hb
  replace HB := Lib.hid (below_step HB.out hb)
  clear hb
  have Z26 := Lib.hid hlt
  have HH1 := Rep.Sl.kept hs hlt; clear hs hlt
  have l20_0 := HX1.bx.lt
  have l20_1 := HX2.bx.lt
  have l20_2 := HX3.bx.lt
  have l20_3 := HX4.bx.lt
  go_wp2_with fail
  clear l20_0 l20_1 l20_2 l20_3
  refine (pushAll_any v0 b0 true _ _ Py0 n0 n0 ys0 true _ _ (some ⟨w21.heap.size, 0, none⟩) n1 n1 ys1 _ HH0.sl HH0.le hN0 HH1.sl HH1.le hN1 (Nat.le_refl _)).mono ?_
  rw [HRr.out, HRx.out, HRp.out, HRus.out, HRt.out, HRzs.out]
  rintro e w23 ⟨O2, j2, k2, E2, m2, d2, rfl, hk, hb⟩
  have Z27 := Lib.hid hb.size
  replace HA0 := HA0.below hb
  replace HA1 := HA1.below hb
  replace HX1 := HX1.below hb
  replace HO0 := HO0.below hb
  replace HX2 := HX2.below hb
  replace HX3 := HX3.below hb
  replace HX4 := HX4.below hb
  replace HM := HM.below hb
  replace HH0 := HH0.below hb
  replace HH1 := HH1.below hb
  replace HB := Lib.hid (below_step HB.out hb)
  clear hb
  have HO2 := hk; clear hk
  obtain rfl : j0 = j2 := by have := HO2.q_list.1; have := HO0.q_list.1; omega
  obtain rfl : m0 = m2 := by have := HO2.q_items.1; have := HO0.q_items.1; omega
  clear HH0
  clear HH1
  have c21_0 := HX2.look 0
  have c21_1 := HX2.look 1
  have c21_2 := HX2.look 2
  have c21_3 := HX2.look 3
  have c21_4 := HX2.look 4
  have c21_5 := HX2.look 5
  have l21_0 := HX1.bx.lt
  have l21_1 := HX2.bx.lt
  have l21_2 := HX3.bx.lt
  have l21_3 := HX4.bx.lt
  go_wp2_with fail
  clear c21_0 c21_1 c21_2 c21_3 c21_4 c21_5 l21_0 l21_1 l21_2 l21_3
  refine Calls.name ?_
  intro U24 hU24
  have hb : Below w23.heap.size w23 U24 := by rw [hU24]; exact ((Below.refl _ _).alloc (Nat.le_refl _) _)
  have zz : Hid (w23.heap.size + 1 = U24.heap.size) := Lib.hid (by rw [hU24]; simp)
  have HX5 : Kept w23.heap.size (w23.heap.size + 1) (BoxK w23.heap.size 30 #[.int .i64 r, .int .i64 x, .bool p, .slice O2 j0 k2, .bool t, .slice E2 m0 d2]) U24 := by rw [hU24]; exact Kept.box (Box.made_at _ _ _ rfl)
  replace HA0 := HA0.below hb
  replace HA1 := HA1.below hb
  replace HX1 := HX1.below hb
  replace HO0 := HO0.below hb
  replace HX2 := HX2.below hb
  replace HX3 := HX3.below hb
  replace HX4 := HX4.below hb
  replace HM := HM.below hb
  replace HO2 := HO2.below hb
  replace HB := Lib.hid (below_step HB.out hb)
  clear hb
  have Z28 := zz; clear zz
  clear hU24
  refine (eqQueueResult_yes r x p t true true _ _ _ _ O2 O0 j0 k2 k0 us _ _ _ _ E2 E0 m0 d2 d0 zs _ HO2.q_list HO0.q_list HO2.le HO0.le hj0 HO2.q_items HO0.q_items HO2.le HO0.le hm0).mono ?_
  rintro e w25 ⟨rfl, hb⟩
  have Z29 := Lib.hid hb.size
  replace HA0 := HA0.below hb
  replace HA1 := HA1.below hb
  replace HX1 := HX1.below hb
  replace HO0 := HO0.below hb
  replace HX2 := HX2.below hb
  replace HX3 := HX3.below hb
  replace HX4 := HX4.below hb
  replace HM := HM.below hb
  replace HO2 := HO2.below hb
  replace HX5 := HX5.below hb
  replace HB := Lib.hid (below_step HB.out hb)
  clear hb
  have c22_0 := HX4.look 0
  have c22_1 := HX4.look 1
  have c22_2 := HX4.look 2
  have c22_3 := HX4.look 3
  have c22_4 := HX4.look 4
  have c22_5 := HX4.look 5
  have l22_0 := HX1.bx.lt
  have l22_1 := HX2.bx.lt
  have l22_2 := HX3.bx.lt
  have l22_3 := HX4.bx.lt
  have l22_4 := HX5.bx.lt
  go_wp2_with fail
  clear c22_0 c22_1 c22_2 c22_3 c22_4 c22_5 l22_0 l22_1 l22_2 l22_3 l22_4
  refine (heldQueueResult_yes true true _ _ _ _ r x p t O1 j0 k1 E1 m0 d1 1 _ HM.q_list HM.q_items HM.le HM.le hj0 hm0 (by omega) (by omega)).mono ?_
  rintro e w26 ⟨rfl, hb⟩
  have Z30 := Lib.hid hb.size
  replace HA0 := HA0.below hb
  replace HA1 := HA1.below hb
  replace HX1 := HX1.below hb
  replace HO0 := HO0.below hb
  replace HX2 := HX2.below hb
  replace HX3 := HX3.below hb
  replace HX4 := HX4.below hb
  replace HM := HM.below hb
  replace HO2 := HO2.below hb
  replace HX5 := HX5.below hb
  replace HB := Lib.hid (below_step HB.out hb)
  clear hb
  have l23_0 := HX1.bx.lt
  have l23_1 := HX2.bx.lt
  have l23_2 := HX3.bx.lt
  have l23_3 := HX4.bx.lt
  have l23_4 := HX5.bx.lt
  go_wp2
  clear l23_0 l23_1 l23_2 l23_3 l23_4
  go_ret
  exact ⟨rfl, HB.out⟩

end Go.Proofs.Ytomkgohhfllpgaa

namespace Go.Proofs.Ytomkgohhfllpgaa.fnExactPushAll
open Go.ChangeShapes Go.WideShapes Go.ChangeAt Go.RowKit
open Go.ChangeMaps (open_string shut_string)
set_option linter.unusedVariables false

theorem own : ownKnob Try.prog.godebug = none := by kernel_rfl
theorem laidOut : laidOutB Try.prog = true := by kernel_rfl

theorem walk (v0 : Int) (b0 : Bool) (A0 : Option Addr) (n0 c0 : Nat) (ys0 : List Tmr) (A1 : Option Addr) (n1 c1 : Nat) (ys1 : List Tmr) (w : World) (hl0 : Rep.timer.Sl false 0 w.heap.size w A0 n0 ys0) (hn0 : n0 ≤ maxLen) (hl1 : Rep.timer.Sl false 0 w.heap.size w A1 n1 ys1) (hn1 : n1 ≤ maxLen) :
    Calls Try.prog 9 #[.agg (#[.int .i64 v0, .bool b0, .slice A0 n0 c0]), .slice A1 n1 c1] w fun e w' => e = .returned (.bool true) ∧ Below w.heap.size w w' := by
  exact law_PushAll v0 b0 ys0 false 0 w.heap.size A0 n0 c0 ys1 false 0 w.heap.size A1 n1 c1 w hl0 (Nat.le_refl _) hn0 hl1 (Nat.le_refl _) hn1

set_option maxRecDepth 100000 in
theorem lifted (os : Os) (started : os.Started) (H : Type) (enc : TypeId × Value → H) :
    ReturnsInHanded {} Try.checked os 9 .any (Rows.fnExactPushAllSpec.pre6 enc Try.prog Try.f9 Rows.fnExactPushAllRow.domain false) (Rows.fnExactPushAllSpec.post enc Try.prog Try.f9 false true false false) := by
  refine returnsInHanded_of_change (C := Try.checked) own started (by kernel_rfl) Try.func9
    (ChangeSpec.witness6 (enc := enc) (C := Try.checked) false ⟨#[], #[.agg #[.int .i64 0, .bool false, .slice none 0 0], .slice none 0 0], []⟩ 8 (by kernel_rfl) (by kernel_rfl) (by kernel_rfl) (by kernel_rfl)) ?_
  intro W base args ds gs before hval0 hW hcnd _
  have hval : ∀ (j : Nat) t v, Try.f9.params[j]? = some t → args[j]? = some v → Value.okWide Try.prog W .any base t v := hval0
  have hW' := hW
  obtain ⟨p, q, hA0, hV, rfl, hfz, hnd⟩ := hW
  have hA : DataW.TrodAll enc Try.prog W 0 (fun _ => true) true Try.f9.params.toList args.toList ds p := hA0
  rw [Try.params9] at hA hval
  obtain ⟨v0, vs0, d0, ds0, p0, q0, hargs, rfl, rfl, h0, r0⟩ := trodAll_cons hA
  obtain ⟨v1, vs1, d1, ds1, p1, q1, rfl, rfl, rfl, h1, r1⟩ := trodAll_cons r0
  obtain ⟨rfl, rfl, rfl⟩ := trodAll_nil r1
  obtain rfl : args = #[v0, v1] := by cases args; simp_all
  obtain ⟨rfl, rfl⟩ := trodVars_none hV
  obtain ⟨cs0, rfl, hsz0⟩ := okWide_struct Try.underlying50 (hval 0 50 v0 rfl rfl)
  have k0 := h0
  have lt0 : ∀ x ∈ p0, x.block < W.heap.size := by obtain ⟨m, hm⟩ := k0; exact DataW.trod_lt m _ _ _ hm
  obtain ⟨fuel0, hf0⟩ := h0
  obtain ⟨v0, b0, A0, n0, c0, ys0, he0, hl0, hn0⟩ := open_queue hf0
  obtain rfl : cs0 = #[.int .i64 v0, .bool b0, .slice A0 n0 c0] := by cases cs0; simp [Value.cells] at he0; simp [he0]
  obtain ⟨A1, n1, c1, rfl⟩ := okWide_slice Try.underlying48 (hval 1 48 v1 rfl rfl)
  have k1 := h1
  have lt1 : ∀ x ∈ p1, x.block < W.heap.size := by obtain ⟨m, hm⟩ := k1; exact DataW.trod_lt m _ _ _ hm
  obtain ⟨fuel1, hf1⟩ := h1
  obtain ⟨ys1, hl1, hn1⟩ := open_items (by simpa [Value.cells] using hf1)
  clear hA0 hval0
  refine (walk v0 b0 A0 n0 c0 ys0 A1 n1 c1 ys1 W hl0 hn0 hl1 hn1).mono fun e W' ⟨he, bel⟩ => ?_
  subst he
  exact ⟨_, rfl, _, _, _, [], _, [], hW', trodAll_mk1 (shut_bool Try.underlying4 _), (trodAll_cons_mk (Below.trod laidOut (by kernel_rfl) (of_decide_eq_true (by kernel_rfl)) k0 bel lt0) (trodAll_cons_mk (Below.trod laidOut (by kernel_rfl) (of_decide_eq_true (by kernel_rfl)) k1 bel lt1) trodAll_mk0)), rfl, bel.frame _, fun h => by cases h⟩

theorem over : Rows.fnExactPushAllRow.holds Try.pinned (OpenSpec.ofChange Rows.fnExactPushAllSpec) :=
  OpenClaim.holds_of_wide 9 Try.f9 rfl rfl rfl rfl rfl rfl rfl ⟨rfl, rfl, rfl, rfl, rfl⟩ rfl rfl rfl rfl rfl (by kernel_rfl) Try.func9 (by kernel_rfl)
    (of_decide_eq_true (by kernel_rfl)) (by unfold Func.isWrapper; first | (rw [if_pos (by decide +kernel)]; kernel_rfl) | (rw [if_neg (by decide +kernel)]; exact ⟨rfl, rfl⟩))
    (fun os started H enc _ => lifted os started H enc)

theorem proved : Rows.FnExactPushAllSaid := over
#print axioms proved
end Go.Proofs.Ytomkgohhfllpgaa.fnExactPushAll
