/-
  Keys in their order: cmp.Compare, cmp.Or, compareKeys, compareEntries, keysRise, and the model's l5Less. No statement is proved here.
-/
import Derived.Test.YtooogjfnnmacjaaEntSz
import Derived.Deep.DeepCutAuto
namespace Go.Proofs.Ytooogjfnnmacjaa
open Go.RowKit
set_option linter.unusedVariables false

def cmp1 (a b : Int) : Int := if a < b then -1 else if b < a then 1 else 0
def orI : List Int → Int
  | [] => 0
  | z :: zs => if z = 0 then orI zs else z
/-- How two entries' Keys stand. -/
def cmpE (a b : LsaM) : Int := orI [cmp1 a.typ b.typ, cmp1 a.id b.id, cmp1 a.adv b.adv]
def ltK (s t u s' t' u' : Int) : Bool := decide (s < s') || (decide (s = s') && (decide (t < t') || (decide (t = t') && decide (u < u'))))
def ltE (a b : LsaM) : Bool := ltK a.typ a.id a.adv b.typ b.id b.adv
theorem cmp1_lt {a b : Int} (h : a < b) : cmp1 a b = -1 := by unfold cmp1; rw [if_pos h]
theorem cmp1_eq {a b : Int} (h : a = b) : cmp1 a b = 0 := by unfold cmp1; rw [if_neg (by omega), if_neg (by omega)]
theorem cmp1_gt {a b : Int} (h : b < a) : cmp1 a b = 1 := by unfold cmp1; rw [if_neg (by omega), if_pos h]
theorem cmpE_lt (a b : LsaM) : (cmpE a b < 0) ↔ ltE a b = true := by
  unfold cmpE ltE ltK
  simp only [Bool.or_eq_true, Bool.and_eq_true, decide_eq_true_eq]
  rcases Int.lt_trichotomy a.typ b.typ with h | h | h
  · rw [cmp1_lt h, show orI (-1 :: [cmp1 a.id b.id, cmp1 a.adv b.adv]) = -1 from rfl]; omega
  · rw [cmp1_eq h, show orI (0 :: [cmp1 a.id b.id, cmp1 a.adv b.adv]) = orI [cmp1 a.id b.id, cmp1 a.adv b.adv] from rfl]
    rcases Int.lt_trichotomy a.id b.id with h2 | h2 | h2
    · rw [cmp1_lt h2, show orI (-1 :: [cmp1 a.adv b.adv]) = -1 from rfl]; omega
    · rw [cmp1_eq h2, show orI (0 :: [cmp1 a.adv b.adv]) = orI [cmp1 a.adv b.adv] from rfl]
      rcases Int.lt_trichotomy a.adv b.adv with h3 | h3 | h3
      · rw [cmp1_lt h3, show orI [-1] = -1 from rfl]; omega
      · rw [cmp1_eq h3, show orI [0] = 0 from rfl]; omega
      · rw [cmp1_gt h3, show orI [1] = 1 from rfl]; omega
    · rw [cmp1_gt h2, show orI (1 :: [cmp1 a.adv b.adv]) = 1 from rfl]; omega
  · rw [cmp1_gt h, show orI (1 :: [cmp1 a.id b.id, cmp1 a.adv b.adv]) = 1 from rfl]; omega

theorem isNaN_any (a : Int) (w : World) : Calls Try.prog 218 #[.int .i64 a] w fun e w' => e = .returned (.bool false) ∧ w' = w := by
  go_enter Try.func218, Try.ntmps218
  go_wp2
  go_ret
  exact ⟨by simp, rfl⟩
theorem compare_any (a b : Int) (w : World) : Calls Try.prog 214 #[.int .i64 a, .int .i64 b] w fun e w' => e = .returned (.int .i64 (cmp1 a b)) ∧ w' = w := by
  have HR := Lib.hid (show cmp1 a b = if a < b then -1 else if b < a then 1 else 0 from rfl)
  by_cases h1 : a < b
  · rw [HR.out, if_pos h1]
    go_enter Try.func214, Try.ntmps214
    go_wp2_with (go_at_call 218; refine (isNaN_any _ _).mono ?_; rintro e w1 ⟨rfl, rfl⟩)
    go_ret
    exact ⟨rfl, rfl⟩
  · by_cases h2 : b < a
    · rw [HR.out, if_neg h1, if_pos h2]
      go_enter Try.func214, Try.ntmps214
      go_wp2_with (go_at_call 218; refine (isNaN_any _ _).mono ?_; rintro e w1 ⟨rfl, rfl⟩)
      go_ret
      exact ⟨rfl, rfl⟩
    · rw [HR.out, if_neg h1, if_neg h2]
      go_enter Try.func214, Try.ntmps214
      go_wp2_with (go_at_call 218; refine (isNaN_any _ _).mono ?_; rintro e w1 ⟨rfl, rfl⟩)
      go_ret
      exact ⟨rfl, rfl⟩

set_option maxHeartbeats 800000 in
theorem or_any (g n : Nat) (zs : List Int) (w : World) (hl : zs.length = n) (hn : n ≤ 1048576) (hc : ∀ i, i < n → w.cell? ⟨g, i, none⟩ = some (.int .i64 (zs.getD i 0))) :
    Calls Try.prog 213 #[.slice (some ⟨g, 0, none⟩) n n] w fun e w' => e = .returned (.int .i64 (orI zs)) ∧ w' = w := by
  have HC := Lib.hid hc
  have HL := Lib.hid hl
  clear hc hl
  go_enter Try.func213, Try.ntmps213
  go_wp2
  go_loop [8] (fun i => ∃ k : Nat, k ≤ n ∧ i = .int .i64 k ∧ Hid (orI zs = orI (zs.drop k))) (fun i => n - (intOf i).toNat)
  case atStart => exact ⟨0, Nat.zero_le _, rfl, rfl⟩
  case round =>
    obtain ⟨k, hk, rfl, HS⟩ := hrel
    by_cases hlt : k < n
    · have hck := HC.out k hlt
      have hlt' : (k : Int) < n := by omega
      obtain ⟨z, hz⟩ : ∃ z, zs.getD k 0 = z := ⟨_, rfl⟩
      rw [hz] at hck
      have hd : zs.drop k = z :: zs.drop (k + 1) := by
        have hkl : k < zs.length := by rw [HL.out]; exact hlt
        rw [List.drop_eq_getElem_cons hkl, ← hz]; simp [List.getD, hkl]
      have HD := Lib.hid hd
      clear hd hz
      by_cases h0 : z = 0
      · subst h0
        have HE : Hid (orI (zs.drop k) = orI (zs.drop (k + 1))) := Lib.hid (by rw [HD.out]; rfl)
        go_wp2
        go_round
        case rel => exact ⟨k + 1, by omega, by go_num, Lib.hid (HS.out.trans HE.out)⟩
        case measure => simp [intOf]; omega
      · have HE : Hid (orI (zs.drop k) = z) := Lib.hid (by rw [HD.out]; unfold orI; rw [if_neg h0])
        have hne : (z != 0) = true := by rw [bne_iff_ne]; exact h0
        have hne0 : (z == 0) = false := by rw [beq_eq_false_iff_ne]; exact h0
        clear h0
        go_wp2
        go_ret
        exact ⟨by rw [HS.out, HE.out]; rfl, rfl⟩
    · have HE : Hid (orI (zs.drop k) = 0) := Lib.hid (by rw [List.drop_eq_nil_of_le (by rw [HL.out]; omega)]; rfl)
      go_wp2
      go_ret
      exact ⟨by rw [HS.out, HE.out]; rfl, rfl⟩

set_option maxHeartbeats 1600000 in
theorem compareKeys_any (s t u s' t' u' : Int) (w : World) :
    Calls Try.prog 204 #[.agg #[.int .i64 s, .int .i64 t, .int .i64 u], .agg #[.int .i64 s', .int .i64 t', .int .i64 u']] w fun e w' => e = .returned (.int .i64 (orI [cmp1 s s', cmp1 t t', cmp1 u u'])) ∧ Below w.heap.size w w' := by
  obtain ⟨c1, hc1⟩ : ∃ c, cmp1 s s' = c := ⟨_, rfl⟩
  obtain ⟨c2, hc2⟩ : ∃ c, cmp1 t t' = c := ⟨_, rfl⟩
  obtain ⟨c3, hc3⟩ : ∃ c, cmp1 u u' = c := ⟨_, rfl⟩
  obtain ⟨r, hr⟩ : ∃ r, orI [c1, c2, c3] = r := ⟨_, rfl⟩
  rw [hc1, hc2, hc3, hr]
  have H1 := Lib.hid hc1
  have H2 := Lib.hid hc2
  have H3 := Lib.hid hc3
  have HR := Lib.hid hr
  clear hc1 hc2 hc3 hr
  go_enter Try.func204, Try.ntmps204
  go_upto_region 1 with (fail)
  refine Code.wp_name ?_
  intro V hV
  have HB : Hid (Below w.heap.size w V) := Lib.hid (by rw [hV]; exact ((Below.refl _ _).alloc (Nat.le_refl _) _).alloc (by simp) _)
  have HX : Hid (Box V w.heap.size 34 #[.int .i64 s, .int .i64 t, .int .i64 u]) := Lib.hid (by rw [hV]; exact (Box.made _ _ _).over _)
  have HY : Hid (Box V (w.heap.size + 1) 34 #[.int .i64 s', .int .i64 t', .int .i64 u']) := Lib.hid (by rw [hV]; exact Box.made_at _ _ _ (by simp))
  clear hV
  have SB : Hid (∀ W, Hid (Below V.heap.size V W) → (fun W : World => W.cell? ⟨w.heap.size, 0, none⟩ = some (.int .i64 s) ∧ W.cell? ⟨w.heap.size, 1, none⟩ = some (.int .i64 t) ∧ W.cell? ⟨w.heap.size, 2, none⟩ = some (.int .i64 u) ∧ W.cell? ⟨w.heap.size + 1, 0, none⟩ = some (.int .i64 s') ∧ W.cell? ⟨w.heap.size + 1, 1, none⟩ = some (.int .i64 t') ∧ W.cell? ⟨w.heap.size + 1, 2, none⟩ = some (.int .i64 u')) W) := fun W h =>
    ⟨(HX.out.below h.out).look 0, (HX.out.below h.out).look 1, (HX.out.below h.out).look 2, (HY.out.below h.out).look 0, (HY.out.below h.out).look 1, (HY.out.below h.out).look 2⟩
  have V0 : Hid (Below V.heap.size V V.drew) := (Below.refl _ _).drew
  have V1 : Hid (Below V.heap.size V (V.alloc (.cells #[.int .i64 c1, .int .i64 c2, .int .i64 c3] 3)).drew) := Below.drew ((Below.refl _ _).alloc (Nat.le_refl _) _)
  have HBX : Hid (Box (V.alloc (.cells #[.int .i64 c1, .int .i64 c2, .int .i64 c3] 3)).drew V.heap.size 3 #[.int .i64 c1, .int .i64 c2, .int .i64 c3]) := Box.drew (Box.made V _ _)
  have HCC : Hid (∀ i, i < 3 → (V.alloc (.cells #[.int .i64 c1, .int .i64 c2, .int .i64 c3] 3)).drew.cell? ⟨V.heap.size, i, none⟩ = some (.int .i64 ([c1, c2, c3].getD i 0))) := Lib.hid (fun i hi => by
    rcases (show i = 0 ∨ i = 1 ∨ i = 2 by omega) with rfl | rfl | rfl
    · exact (HBX.out.look 0).trans rfl
    · exact (HBX.out.look 1).trans rfl
    · exact (HBX.out.look 2).trans rfl)
  go_region_held3 (fun W : World => W.cell? ⟨w.heap.size, 0, none⟩ = some (.int .i64 s) ∧ W.cell? ⟨w.heap.size, 1, none⟩ = some (.int .i64 t) ∧ W.cell? ⟨w.heap.size, 2, none⟩ = some (.int .i64 u) ∧ W.cell? ⟨w.heap.size + 1, 0, none⟩ = some (.int .i64 s') ∧ W.cell? ⟨w.heap.size + 1, 1, none⟩ = some (.int .i64 t') ∧ W.cell? ⟨w.heap.size + 1, 2, none⟩ = some (.int .i64 u'))
    (first | (with_reducible exact SB.out _ V0) | (with_reducible exact SB.out _ V1))
    (first | (go_at_call 213; ((with_reducible refine (or_any V.heap.size 3 [c1, c2, c3] _ rfl (by omega) HCC.out).mono ?_); rw [HR.out]; rintro e u ⟨rfl, rfl⟩))
           | (go_at_call 214; first | ((with_reducible refine (compare_any s s' _).mono ?_); rw [H1.out]; rintro e u ⟨rfl, rfl⟩) | ((with_reducible refine (compare_any t t' _).mono ?_); rw [H2.out]; rintro e u ⟨rfl, rfl⟩) | ((with_reducible refine (compare_any u u' _).mono ?_); rw [H3.out]; rintro e u ⟨rfl, rfl⟩)))
  go_wp2
  go_ret
  exact ⟨rfl, HB.out.trans (V1.out.mono HB.out.size)⟩

theorem compareEntries_any (l k : LsaM) (t s : Int) (A B A2 B2 : Option Addr) (n c m d n2 c2 m2 d2 : Nat) (w : World) :
    Calls Try.prog 191 #[.agg (entCells l t A B n c m d), .agg (entCells k s A2 B2 n2 c2 m2 d2)] w fun e w' => e = .returned (.int .i64 (cmpE l k)) ∧ Below w.heap.size w w' := by
  go_enter Try.func191, Try.ntmps191
  go_wp2_with fail
  refine (compareKeys_any l.typ l.id l.adv k.typ k.id k.adv _).mono ?_
  rintro e w1 ⟨rfl, hb⟩
  have HB := Lib.hid (below_step (((Below.refl _ _).alloc (Nat.le_refl _) _).alloc (by simp) _) hb)
  clear hb
  go_wp2
  go_ret
  exact ⟨rfl, HB.out⟩

end Go.Proofs.Ytooogjfnnmacjaa
