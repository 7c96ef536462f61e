/-
  The program's LsaFault: its parts. No statement is proved here.
-/
import Derived.Test.YtooogjfnnmacjaaBody
import Derived.Test.YtooogjfnnmacjaaFault
import Derived.Test.YtooogjfnnmacjaaSum
import Derived.Test.YtooogjfnnmacjaaSameLsa
namespace Go.Proofs.Ytooogjfnnmacjaa
open Go.RowKit

attribute [local go_sem] as_R_R as_R_N as_R_S as_N_R as_N_N as_N_S as_S_R as_S_N as_S_S as_nil_R as_nil_N as_nil_S

/-- The numbers of an advertisement lie within their bounds. -/
def numsB (l : LsaM) : Bool := allIn 0 3600 [l.age] && allIn 0 255 [l.options] && allIn 0 4294967295 [l.id, l.adv, l.mask] && allIn (-2147483647) 2147483647 [l.seq] && allIn 0 16777215 [l.cost]

theorem three_cells {W : World} {b : Nat} {x y z : Int} (h0 : W.cell? ⟨b, 0, none⟩ = some (.int .i64 x)) (h1 : W.cell? ⟨b, 1, none⟩ = some (.int .i64 y)) (h2 : W.cell? ⟨b, 2, none⟩ = some (.int .i64 z)) : ∀ i, i < 3 → W.cell? ⟨b, 0 + i, none⟩ = some (.int .i64 ([x, y, z].getD i 0)) := by
  intro i hi
  rw [Nat.zero_add]
  rcases (show i = 0 ∨ i = 1 ∨ i = 2 by omega) with rfl | rfl | rfl
  · exact h0
  · exact h1
  · exact h2
theorem two_cells {W : World} {b : Nat} {x y : Int} (h0 : W.cell? ⟨b, 0, none⟩ = some (.int .i64 x)) (h1 : W.cell? ⟨b, 1, none⟩ = some (.int .i64 y)) : ∀ i, i < 2 → W.cell? ⟨b, 0 + i, none⟩ = some (.int .i64 ([x, y].getD i 0)) := by
  intro i hi
  rw [Nat.zero_add]
  rcases (show i = 0 ∨ i = 1 by omega) with rfl | rfl
  · exact h0
  · exact h1

set_option maxRecDepth 100000 in
set_option maxHeartbeats 1600000 in
theorem numbersFit_any (l : LsaM) (A B : Option Addr) (n c m d : Nat) (w : World) :
    Calls Try.prog 202 #[.agg (lsaCells l A B n c m d)] w fun e w' => e = .returned (.bool (numsB l)) ∧ Below w.heap.size w w' := by
  go_enter Try.func202, Try.ntmps202
  go_wp2_with fail
  refine (allWithin_one _ _ _ l.age _ (by simp [go_sem])).mono ?_
  rintro e w1 ⟨rfl, rfl⟩
  by_cases h0 : allIn 0 3600 [l.age] = true
  rotate_left
  · have h0 : allIn 0 3600 [l.age] = false := by simpa using h0
    have HN : Hid (numsB l = false) := Lib.hid (by simp [numsB, h0])
    rw [h0]
    go_wp2
    go_ret
    exact ⟨ret_bool HN.out.symm, ((Below.refl _ _).alloc (Nat.le_refl _) _).alloc (by simp; try omega) _⟩
  rw [h0]
  have H0 := Lib.hid h0
  clear h0
  go_wp2_with fail
  refine (allWithin_one _ _ _ l.options _ (by simp [go_sem])).mono ?_
  rintro e w1 ⟨rfl, rfl⟩
  by_cases h1 : allIn 0 255 [l.options] = true
  rotate_left
  · have h1 : allIn 0 255 [l.options] = false := by simpa using h1
    have HN : Hid (numsB l = false) := Lib.hid (by simp [numsB, h1])
    rw [h1]
    go_wp2
    go_ret
    exact ⟨ret_bool HN.out.symm, (((Below.refl _ _).alloc (Nat.le_refl _) _).alloc (by simp; try omega) _).alloc (by simp; try omega) _⟩
  rw [h1]
  have H1 := Lib.hid h1
  clear h1
  go_wp2_with fail
  refine (allWithin_any 0 4294967295 _ 0 3 3 [l.id, l.adv, l.mask] _ rfl (by omega) (three_cells (by simp [go_sem]) (by simp [go_sem]) (by simp [go_sem]))).mono ?_
  rintro e w1 ⟨rfl, rfl⟩
  by_cases h2 : allIn 0 4294967295 [l.id, l.adv, l.mask] = true
  rotate_left
  · have h2 : allIn 0 4294967295 [l.id, l.adv, l.mask] = false := by simpa using h2
    have HN : Hid (numsB l = false) := Lib.hid (by simp [numsB, h2])
    rw [h2]
    go_wp2
    go_ret
    exact ⟨ret_bool HN.out.symm, ((((Below.refl _ _).alloc (Nat.le_refl _) _).alloc (by simp; try omega) _).alloc (by simp; try omega) _).alloc (by simp; try omega) _⟩
  rw [h2]
  have H2 := Lib.hid h2
  clear h2
  go_wp2_with fail
  refine (allWithin_one _ _ _ l.seq _ (by simp [go_sem])).mono ?_
  rintro e w1 ⟨rfl, rfl⟩
  by_cases h3 : allIn (-2147483647) 2147483647 [l.seq] = true
  rotate_left
  · have h3 : allIn (-2147483647) 2147483647 [l.seq] = false := by simpa using h3
    have HN : Hid (numsB l = false) := Lib.hid (by simp [numsB, h3])
    rw [h3]
    go_wp2
    go_ret
    exact ⟨ret_bool HN.out.symm, (((((Below.refl _ _).alloc (Nat.le_refl _) _).alloc (by simp; try omega) _).alloc (by simp; try omega) _).alloc (by simp; try omega) _).alloc (by simp; try omega) _⟩
  rw [h3]
  have H3 := Lib.hid h3
  clear h3
  go_wp2_with fail
  refine (allWithin_one _ _ _ l.cost _ (by simp [go_sem])).mono ?_
  rintro e w1 ⟨rfl, rfl⟩
  by_cases h4 : allIn 0 16777215 [l.cost] = true
  rotate_left
  · have h4 : allIn 0 16777215 [l.cost] = false := by simpa using h4
    have HN : Hid (numsB l = false) := Lib.hid (by simp [numsB, h4])
    rw [h4]
    go_wp2
    go_ret
    exact ⟨ret_bool HN.out.symm, ((((((Below.refl _ _).alloc (Nat.le_refl _) _).alloc (by simp; try omega) _).alloc (by simp; try omega) _).alloc (by simp; try omega) _).alloc (by simp; try omega) _).alloc (by simp; try omega) _⟩
  have HN : Hid (numsB l = true) := Lib.hid (by simp [numsB, h4, H0.out, H1.out, H2.out, H3.out])
  rw [h4]
  have H4 := Lib.hid h4
  clear h4
  go_wp2
  go_ret
  exact ⟨ret_bool HN.out.symm, ((((((Below.refl _ _).alloc (Nat.le_refl _) _).alloc (by simp; try omega) _).alloc (by simp; try omega) _).alloc (by simp; try omega) _).alloc (by simp; try omega) _).alloc (by simp; try omega) _⟩

set_option maxRecDepth 100000 in
set_option maxHeartbeats 1600000 in
theorem isNoLink_any (a : Lnk) (w : World) :
    Calls Try.prog 217 #[.agg #[.int .i64 a.kind, .int .i64 a.to_, .int .i64 a.own, .int .i64 a.cost]] w fun e w' => e = .returned (.bool (!linkOk a)) ∧ Below w.heap.size w w' := by
  have HL : Hid (linkOk a = (allIn 1 2 [a.kind] && allIn 0 4294967295 [a.to_, a.own] && allIn 0 65535 [a.cost])) := Lib.hid (by simp [linkOk, idIn, allIn, Bool.and_assoc])
  go_enter Try.func217, Try.ntmps217
  go_wp2_with fail
  refine (allWithin_one _ _ _ a.kind _ (by simp [go_sem])).mono ?_
  rintro e w1 ⟨rfl, rfl⟩
  by_cases h0 : allIn 1 2 [a.kind] = true
  rotate_left
  · have h0 : allIn 1 2 [a.kind] = false := by simpa using h0
    have HN : Hid ((!linkOk a) = true) := Lib.hid (by rw [HL.out]; simp [h0])
    rw [h0]
    go_wp2
    go_ret
    exact ⟨ret_bool HN.out.symm, ((Below.refl _ _).alloc (Nat.le_refl _) _).alloc (by simp; try omega) _⟩
  rw [h0]
  have H0 := Lib.hid h0
  clear h0
  go_wp2_with fail
  refine (allWithin_any 0 4294967295 _ 0 2 2 [a.to_, a.own] _ rfl (by omega) (two_cells (by simp [go_sem]) (by simp [go_sem]))).mono ?_
  rintro e w1 ⟨rfl, rfl⟩
  by_cases h1 : allIn 0 4294967295 [a.to_, a.own] = true
  rotate_left
  · have h1 : allIn 0 4294967295 [a.to_, a.own] = false := by simpa using h1
    have HN : Hid ((!linkOk a) = true) := Lib.hid (by rw [HL.out]; simp [h1])
    rw [h1]
    go_wp2
    go_ret
    exact ⟨ret_bool HN.out.symm, (((Below.refl _ _).alloc (Nat.le_refl _) _).alloc (by simp; try omega) _).alloc (by simp; try omega) _⟩
  rw [h1]
  have H1 := Lib.hid h1
  clear h1
  go_wp2_with fail
  refine (allWithin_one _ _ _ a.cost _ (by simp [go_sem])).mono ?_
  rintro e w1 ⟨rfl, rfl⟩
  by_cases h2 : allIn 0 65535 [a.cost] = true
  rotate_left
  · have h2 : allIn 0 65535 [a.cost] = false := by simpa using h2
    have HN : Hid ((!linkOk a) = true) := Lib.hid (by rw [HL.out]; simp [h2])
    rw [h2]
    go_wp2
    go_ret
    exact ⟨ret_bool HN.out.symm, ((((Below.refl _ _).alloc (Nat.le_refl _) _).alloc (by simp; try omega) _).alloc (by simp; try omega) _).alloc (by simp; try omega) _⟩
  have HN : Hid ((!linkOk a) = false) := Lib.hid (by rw [HL.out]; simp [h2, H0.out, H1.out])
  rw [h2]
  have H2 := Lib.hid h2
  clear h2
  go_wp2
  go_ret
  exact ⟨ret_bool HN.out.symm, ((((Below.refl _ _).alloc (Nat.le_refl _) _).alloc (by simp; try omega) _).alloc (by simp; try omega) _).alloc (by simp; try omega) _⟩

/-- The place of a link that is none, or a number below 0. -/
def FoundBad (ys : List Lnk) (e : Ending) : Prop := ∃ i : Int, e = .returned (.int .i64 i) ∧ (0 ≤ i ↔ ys.all linkOk = false)

set_option maxHeartbeats 1600000 in
theorem indexFunc_any (q : Bool) (lo hi : Nat) (A : Option Addr) (n c : Nat) (ys : List Lnk) (w : World) (ha : Rep.link.Sl q lo hi w A n ys) (hh : hi ≤ w.heap.size) (hn : n ≤ 1048576) :
    Calls Try.prog 219 #[.slice A n c, .func (.func 217) #[] #[]] w fun e w' => FoundBad ys e ∧ Below w.heap.size w w' := by
  go_enter Try.func219, Try.ntmps219
  go_wp2
  go_loopw [8] (fun i wr => ∃ k : Nat, k ≤ n ∧ i = .int .i64 k ∧ Hid (∀ j a, j < k → ys[j]? = some a → linkOk a = true) ∧ Hid (Below w.heap.size w wr)) (fun i _ => n - (intOf i).toNat)
  case atStart => exact ⟨0, Nat.zero_le _, rfl, Lib.hid (fun j a h => absurd h (by omega)), Below.refl _ _⟩
  case round =>
    obtain ⟨k, hk, rfl, HI, HB⟩ := hrel
    by_cases hlt : k < n
    · obtain ⟨b, o, a, rfl, hya, a0, a1, a2, a3⟩ := Rep.link_at (ha.below HB.out hh) hlt
      have hlt' : (k : Int) < n := by omega
      have HYA := Lib.hid hya
      clear hya
      by_cases hK : linkOk a = true
      · have HK := Lib.hid hK
        have HR : Hid ((!linkOk a) = false) := Lib.hid (by rw [hK]; rfl)
        clear hK
        go_wp2_with fail
        refine (isNoLink_any a _).mono ?_
        rw [HR.out]
        rintro e w2 ⟨rfl, hb⟩
        have HB2 := Lib.hid (below_step HB.out hb)
        clear hb
        go_wp2
        go_roundw
        case rel => exact ⟨k + 1, by omega, by go_num, Lib.hid (fun j a' hj ha => by
          rcases Nat.lt_succ_iff_lt_or_eq.1 hj with h | rfl
          · exact HI.out j a' h ha
          · obtain rfl : a' = a := by have := HYA.out; rw [this] at ha; injection ha with e; exact e.symm
            exact HK.out), HB2⟩
        case measure => simp [intOf]; omega
      · have HN : Hid (ys.all linkOk = false) := Lib.hid (all_no HYA.out (by simpa using hK))
        have HR : Hid ((!linkOk a) = true) := Lib.hid (by simp [hK])
        clear hK
        go_wp2_with fail
        refine (isNoLink_any a _).mono ?_
        rw [HR.out]
        rintro e w2 ⟨rfl, hb⟩
        have HB2 := Lib.hid (below_step HB.out hb)
        clear hb
        go_wp2
        go_ret
        exact ⟨⟨k, rfl, fun _ => HN.out, fun _ => by omega⟩, HB2.out⟩
    · have HY : Hid (ys.all linkOk = true) := Lib.hid (all_yes ha.1 (fun j a' hj ha => HI.out j a' (by omega) ha))
      clear HI
      go_wp2
      go_ret
      exact ⟨⟨-1, rfl, fun h => by omega, fun h => by rw [HY.out] at h; cases h⟩, HB.out⟩

theorem containsFunc_any (q : Bool) (lo hi : Nat) (A : Option Addr) (n c : Nat) (ys : List Lnk) (w : World) (ha : Rep.link.Sl q lo hi w A n ys) (hh : hi ≤ w.heap.size) (hn : n ≤ 1048576) :
    Calls Try.prog 216 #[.slice A n c, .func (.func 217) #[] #[]] w fun e w' => e = .returned (.bool (!ys.all linkOk)) ∧ Below w.heap.size w w' := by
  go_enter Try.func216, Try.ntmps216
  go_wp2_with fail
  refine (indexFunc_any q lo hi A n c ys _ ha hh hn).mono ?_
  rintro e w1 ⟨⟨i, rfl, hi⟩, hb⟩
  have HI := Lib.hid hi
  have HB := Lib.hid hb
  clear hi hb
  by_cases h0 : 0 ≤ i
  · have HN : Hid ((!ys.all linkOk) = true) := Lib.hid (by simp [HI.out.1 h0])
    go_wp2
    go_ret
    exact ⟨ret_bool HN.out.symm, HB.out⟩
  · have HN : Hid ((!ys.all linkOk) = false) := Lib.hid (by
      cases h : ys.all linkOk with
      | true => rfl
      | false => exact absurd (HI.out.2 h) h0)
    go_wp2
    go_ret
    exact ⟨ret_bool (by rw [HN.out]; exact decide_eq_false (by omega)), HB.out⟩

/-- The fault of links. -/
def linksB (id adv : Int) (ys : List Lnk) : Int := if 8 < ys.length then 2 else if ys.all linkOk = false then 3 else if id ≠ adv then 1 else 0

set_option maxHeartbeats 1600000 in
theorem linksFault_any (t id adv : Int) (q : Bool) (lo hi : Nat) (A : Option Addr) (n c : Nat) (ys : List Lnk) (w : World) (ha : Rep.link.Sl q lo hi w A n ys) (hh : hi ≤ w.heap.size) (hn : n ≤ 1048576) :
    Calls Try.prog 211 #[.agg #[.int .i64 t, .int .i64 id, .int .i64 adv], .slice A n c] w fun e w' => e = .returned (.int .i64 (linksB id adv ys)) ∧ Below w.heap.size w w' := by
  have hV : Below w.heap.size w (w.alloc (.cells #[.int .i64 t, .int .i64 id, .int .i64 adv] 34)) := (Below.refl _ _).alloc (Nat.le_refl _) _
  have HA := Lib.hid (ha.below hV hh)
  have HB := Lib.hid hV
  have HS := Lib.hid (Nat.le_trans hh hV.size)
  have HQ := Lib.hid ha.1
  clear ha hV
  by_cases h8 : 8 < n
  · have h8' : (8 : Int) < n := by omega
    have HN : Hid (linksB id adv ys = 2) := Lib.hid (by unfold linksB; rw [HQ.out, if_pos h8])
    go_enter Try.func211, Try.ntmps211
    go_wp2
    go_ret
    exact ⟨by rw [HN.out]; rfl, HB.out⟩
  · have h8' : ¬ (8 : Int) < n := by omega
    go_enter Try.func211, Try.ntmps211
    go_wp2_with fail
    obtain ⟨V, hV⟩ : ∃ W : World, W = w.alloc (.cells #[.int .i64 t, .int .i64 id, .int .i64 adv] 34) := ⟨_, rfl⟩
    have HX : Hid (Box V w.heap.size 34 #[.int .i64 t, .int .i64 id, .int .i64 adv]) := by rw [hV]; exact Lib.hid (Box.made _ _ _)
    rw [← hV] at HA HB HS ⊢
    clear hV
    refine (containsFunc_any q lo hi A n c ys _ HA.out HS.out hn).mono ?_
    rintro e w1 ⟨rfl, hb⟩
    have HX1 := Lib.hid (HX.out.below hb)
    have HB1 := Lib.hid (below_step HB.out hb)
    clear hb HX HB HA HS
    by_cases hL : ys.all linkOk = true
    · rw [hL]
      have x1 := HX1.out.look 1
      have x2 := HX1.out.look 2
      by_cases hid : id = adv
      · have HN : Hid (linksB id adv ys = 0) := Lib.hid (by unfold linksB; rw [HQ.out, if_neg h8, if_neg (by simp [hL]), if_neg (by simp [hid])])
        clear hL
        subst hid
        go_wp2
        go_ret
        exact ⟨by rw [HN.out]; rfl, HB1.out⟩
      · have HN : Hid (linksB id adv ys = 1) := Lib.hid (by unfold linksB; rw [HQ.out, if_neg h8, if_neg (by simp [hL]), if_pos hid])
        clear hL
        go_wp2
        go_ret
        exact ⟨by rw [HN.out]; rfl, HB1.out⟩
    · have hL : ys.all linkOk = false := by simpa using hL
      have HN : Hid (linksB id adv ys = 3) := Lib.hid (by unfold linksB; rw [HQ.out, if_neg h8, if_pos hL])
      rw [hL]
      clear hL
      go_wp2
      go_ret
      exact ⟨by rw [HN.out]; rfl, HB1.out⟩


set_option maxHeartbeats 1600000 in
theorem isRising_any (q : Bool) (lo hi : Nat) (A : Option Addr) (n c : Nat) (ys : List Int) (w : World) (ha : Rep.int.Sl q lo hi w A n ys) (hn : n ≤ 1048576) :
    Calls Try.prog 127 #[.slice A n c] w fun e w' => e = .returned (.bool (decide (ups ys))) ∧ ∃ q, w' = w.drewN q := by
  go_enter Try.func127, Try.ntmps127
  go_wp2
  go_loopw [3] (fun i wr => ∃ k : Nat, (k ≤ n - 1) ∧ i = .int .i64 ((k : Int) + 1) ∧ (∃ q, wr = w.drewN q) ∧ Hid (∀ j, j < k → ys.getD j 0 < ys.getD (j + 1) 0)) (fun i _ => n - (intOf i).toNat)
  case atStart => exact ⟨0, Nat.zero_le _, rfl, ⟨0, rfl⟩, fun j h => absurd h (by omega)⟩
  case round =>
    obtain ⟨k3, hk3, rfl, ⟨q3, rfl⟩, HI⟩ := hrel
    by_cases hlt3 : k3 < n - 1
    · obtain ⟨b, o, rfl, a0⟩ := Rep.int_at ha (show k3 < n by omega)
      obtain ⟨b', o', e, a1⟩ := Rep.int_at ha (show k3 + 1 < n by omega)
      injection e with e
      injection e with e1 e2 _
      subst e1 e2
      have hlt' : (k3 : Int) + 1 < n := by omega
      obtain ⟨y0, hy0⟩ : ∃ y, ys.getD k3 0 = y := ⟨_, rfl⟩
      obtain ⟨y1, hy1⟩ : ∃ y, ys.getD (k3 + 1) 0 = y := ⟨_, rfl⟩
      rw [hy0] at a0
      rw [hy1] at a1
      have HY0 := Lib.hid hy0
      have HY1 := Lib.hid hy1
      clear hy0 hy1
      by_cases hle : y0 < y1
      · have HUP := Lib.hid hle
        go_wp2
        go_quiet (fail)
        go_wp2
        go_roundw
        case rel => exact ⟨k3 + 1, by omega, by go_num, ⟨_, rfl⟩, Lib.hid (fun j hj => by
          rcases Nat.lt_succ_iff_lt_or_eq.1 hj with h | rfl
          · exact HI.out j h
          · rw [HY0.out, HY1.out]; exact HUP.out)⟩
        case measure => simp [intOf]; omega
      · have HN : Hid (¬ ups ys) := Lib.hid (fun h => hle (by have := h k3 (by have := ha.1; omega); rw [HY0.out, HY1.out] at this; exact this))
        go_wp2
        go_quiet (fail)
        go_wp2
        go_ret
        exact ⟨ret_bool (decide_eq_false HN.out).symm, _, World.drewN_drewN _ _ _⟩
    · have HY3 : Hid (ups ys) := Lib.hid (fun i hi => HI.out i (by have := ha.1; omega))
      clear HI
      go_wp2
      go_ret
      exact ⟨ret_bool (decide_eq_true HY3.out).symm, _, rfl⟩

/-- The fault of routers. -/
def routersB (ys : List Int) : Int := if ¬ (1 ≤ ys.length ∧ ys.length ≤ 8) then 2 else if ys.all idIn = false then 3 else if ¬ ups ys then 1 else 0

theorem allIn_ids (ys : List Int) : allIn 0 4294967295 ys = ys.all idIn := by
  unfold allIn idIn allIn
  simp

set_option maxHeartbeats 1600000 in
theorem routersFault_any (q : Bool) (lo hi : Nat) (A : Option Addr) (n c : Nat) (ys : List Int) (w : World) (ha : Rep.int.Sl q lo hi w A n ys) (hh : hi ≤ w.heap.size) (hn : n ≤ 1048576) :
    Calls Try.prog 212 #[.slice A n c] w fun e w' => e = .returned (.int .i64 (routersB ys)) ∧ Below w.heap.size w w' := by
  have HQ := Lib.hid ha.1
  by_cases h8 : 1 ≤ n ∧ n ≤ 8
  rotate_left
  · have HN : Hid (routersB ys = 2) := Lib.hid (by unfold routersB; rw [HQ.out, if_pos h8])
    have hF := allIn_one_no (lo := 1) (hi := 8) (v := (n : Int)) (by omega)
    have HF := Lib.hid hF
    clear hF
    go_enter Try.func212, Try.ntmps212
    go_wp2_with fail
    refine (allWithin_one _ _ _ (n : Int) _ (by simp [go_sem])).mono ?_
    rintro e w1 ⟨rfl, rfl⟩
    rw [HF.out]
    go_wp2
    go_ret
    exact ⟨by rw [HN.out]; rfl, (Below.refl _ _).alloc (Nat.le_refl _) _⟩
  have HF := Lib.hid (allIn_one_yes (lo := 1) (hi := 8) (v := (n : Int)) (by omega) (by omega))
  obtain ⟨b, o, hA, _, _, _, _⟩ := ha.2 (by omega)
  subst hA
  have hV : Below w.heap.size w (w.alloc (.cells #[.int .i64 (n : Int)] 2)) := (Below.refl _ _).alloc (Nat.le_refl _) _
  have HA := Lib.hid (ha.below hV hh)
  have HB := Lib.hid hV
  clear ha hV
  have hc : ∀ i, i < n → (w.alloc (.cells #[.int .i64 (n : Int)] 2)).cell? ⟨b, o + i, none⟩ = some (.int .i64 (ys.getD i 0)) := fun i hi => by
    obtain ⟨b', o', e, h⟩ := Rep.int_at HA.out hi
    injection e with e
    injection e with e1 e2 _
    rw [e1, e2]; exact h
  have HC := Lib.hid hc
  clear hc
  by_cases hI : allIn 0 4294967295 ys = true
  rotate_left
  · have hI : allIn 0 4294967295 ys = false := by simpa using hI
    have HN : Hid (routersB ys = 3) := Lib.hid (by unfold routersB; rw [HQ.out, if_neg (by omega), ← allIn_ids, if_pos hI])
    have HI := Lib.hid hI
    clear hI
    go_enter Try.func212, Try.ntmps212
    go_wp2_with fail
    refine (allWithin_one _ _ _ (n : Int) _ (by simp [go_sem])).mono ?_
    rintro e w1 ⟨rfl, rfl⟩
    rw [HF.out]
    go_wp2_with fail
    refine (allWithin_any _ _ b o n _ ys _ HQ.out hn HC.out).mono ?_
    rintro e w1 ⟨rfl, rfl⟩
    rw [HI.out]
    go_wp2
    go_ret
    exact ⟨by rw [HN.out]; rfl, HB.out⟩
  have HI := Lib.hid hI
  clear hI
  by_cases hU : ups ys
  · have HN : Hid (routersB ys = 0) := Lib.hid (by unfold routersB; rw [HQ.out, if_neg (by omega), ← allIn_ids, if_neg (by simp [HI.out]), if_neg (by simpa using hU)])
    have HU : Hid (decide (ups ys) = true) := Lib.hid (decide_eq_true hU)
    clear hU
    go_enter Try.func212, Try.ntmps212
    go_wp2_with fail
    refine (allWithin_one _ _ _ (n : Int) _ (by simp [go_sem])).mono ?_
    rintro e w1 ⟨rfl, rfl⟩
    rw [HF.out]
    go_wp2_with fail
    refine (allWithin_any _ _ b o n _ ys _ HQ.out hn HC.out).mono ?_
    rintro e w1 ⟨rfl, rfl⟩
    rw [HI.out]
    go_wp2_with fail
    refine (isRising_any _ _ _ _ _ _ ys _ HA.out hn).mono ?_
    rintro e w1 ⟨rfl, p, rfl⟩
    rw [HU.out]
    go_wp2
    go_ret
    exact ⟨by rw [HN.out]; rfl, below_drewN HB.out _⟩
  · have HN : Hid (routersB ys = 1) := Lib.hid (by unfold routersB; rw [HQ.out, if_neg (by omega), ← allIn_ids, if_neg (by simp [HI.out]), if_pos hU])
    have HU : Hid (decide (ups ys) = false) := Lib.hid (decide_eq_false hU)
    clear hU
    go_enter Try.func212, Try.ntmps212
    go_wp2_with fail
    refine (allWithin_one _ _ _ (n : Int) _ (by simp [go_sem])).mono ?_
    rintro e w1 ⟨rfl, rfl⟩
    rw [HF.out]
    go_wp2_with fail
    refine (allWithin_any _ _ b o n _ ys _ HQ.out hn HC.out).mono ?_
    rintro e w1 ⟨rfl, rfl⟩
    rw [HI.out]
    go_wp2_with fail
    refine (isRising_any _ _ _ _ _ _ ys _ HA.out hn).mono ?_
    rintro e w1 ⟨rfl, p, rfl⟩
    rw [HU.out]
    go_wp2
    go_ret
    exact ⟨by rw [HN.out]; rfl, below_drewN HB.out _⟩

set_option maxHeartbeats 800000 in
theorem bodyFault_1 (t id adv : Int) (q : Bool) (lo hi : Nat) (A : Option Addr) (n c : Nat) (ys : List Lnk) (w : World) (ha : Rep.link.Sl q lo hi w A n ys) (hh : hi ≤ w.heap.size) (hn : n ≤ 1048576) :
    Calls Try.prog 203 #[.agg #[.int .i64 t, .int .i64 id, .int .i64 adv], .iface 284 (.agg #[.slice A n c])] w fun e w' => e = .returned (.int .i64 (linksB id adv ys)) ∧ Below w.heap.size w w' := by
  have hV : Below w.heap.size w ((w.alloc (.cells #[.int .i64 t, .int .i64 id, .int .i64 adv] 34)).alloc (.cells #[.slice A n c] 284)) := ((Below.refl _ _).alloc (Nat.le_refl _) _).alloc (by simp) _
  have HA := Lib.hid (ha.below hV hh)
  have HB := Lib.hid hV
  have HS := Lib.hid (Nat.le_trans hh hV.size)
  clear ha hV
  go_enter Try.func203, Try.ntmps203
  go_wp2_with fail
  refine (linksFault_any t id adv q lo hi A n c ys _ HA.out HS.out hn).mono ?_
  rintro e w1 ⟨rfl, hb⟩
  have HB1 := Lib.hid (below_step HB.out hb)
  clear hb
  go_wp2
  go_ret
  exact ⟨rfl, HB1.out⟩

set_option maxHeartbeats 800000 in
theorem bodyFault_2 (t id adv x : Int) (q : Bool) (lo hi : Nat) (A : Option Addr) (n c : Nat) (ys : List Int) (w : World) (ha : Rep.int.Sl q lo hi w A n ys) (hh : hi ≤ w.heap.size) (hn : n ≤ 1048576) :
    Calls Try.prog 203 #[.agg #[.int .i64 t, .int .i64 id, .int .i64 adv], .iface 286 (.agg #[.int .i64 x, .slice A n c])] w fun e w' => e = .returned (.int .i64 (routersB ys)) ∧ Below w.heap.size w w' := by
  have hV : Below w.heap.size w ((w.alloc (.cells #[.int .i64 t, .int .i64 id, .int .i64 adv] 34)).alloc (.cells #[.int .i64 x, .slice A n c] 286)) := ((Below.refl _ _).alloc (Nat.le_refl _) _).alloc (by simp) _
  have HA := Lib.hid (ha.below hV hh)
  have HB := Lib.hid hV
  have HS := Lib.hid (Nat.le_trans hh hV.size)
  clear ha hV
  go_enter Try.func203, Try.ntmps203
  go_wp2_with fail
  refine (routersFault_any q lo hi A n c ys _ HA.out HS.out hn).mono ?_
  rintro e w1 ⟨rfl, hb⟩
  have HB1 := Lib.hid (below_step HB.out hb)
  clear hb
  go_wp2
  go_ret
  exact ⟨rfl, HB1.out⟩

theorem bodyFault_3 (t id adv x y : Int) (w : World) :
    Calls Try.prog 203 #[.agg #[.int .i64 t, .int .i64 id, .int .i64 adv], .iface 288 (.agg #[.int .i64 x, .int .i64 y])] w fun e w' => e = .returned (.int .i64 0) ∧ Below w.heap.size w w' := by
  go_enter Try.func203, Try.ntmps203
  go_wp2
  go_ret
  exact ⟨rfl, (Below.refl _ _).alloc (Nat.le_refl _) _⟩

end Go.Proofs.Ytooogjfnnmacjaa
