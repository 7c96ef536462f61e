/-
  The program's LsaFault answers as the model's. No statement is proved here.
-/
import Derived.Test.YtooogjfnnmacjaaOwnFault
namespace Go.Proofs.Ytooogjfnnmacjaa
open Go.RowKit

theorem nn_R (v : Value) (W : World) : (binOp .eql 271 (.iface 284 v) .nilIface).run Try.prog W = .ok (.bool false) W := by kernel_rfl
theorem nn_N (v : Value) (W : World) : (binOp .eql 271 (.iface 286 v) .nilIface).run Try.prog W = .ok (.bool false) W := by kernel_rfl
theorem nn_S (v : Value) (W : World) : (binOp .eql 271 (.iface 288 v) .nilIface).run Try.prog W = .ok (.bool false) W := by kernel_rfl
theorem nn_0 (W : World) : (binOp .eql 271 .nilIface .nilIface).run Try.prog W = .ok (.bool true) W := by kernel_rfl
attribute [local go_sem] nn_R nn_N nn_S nn_0

/-- What an advertisement is, its head and what its type needs taken alone. -/
def reduce1 (l : LsaM) : LsaM := { headM l with links := l.links }
def reduce2 (l : LsaM) : LsaM := { headM l with mask := l.mask, routers := l.routers }
def reduce3 (l : LsaM) : LsaM := { headM l with mask := l.mask, cost := l.cost }

theorem form_1 (l : LsaM) (h : l.typ = 1) : decide (l = reduce1 l) = formOf l.typ l.links.length l.routers.length l.mask l.cost := by
  obtain ⟨a, b, t, i, d, s, ls, rs, m, c⟩ := l
  simp only at h
  subst h
  simp only [formOf, reduce1, headM, LsaM.mk.injEq, if_pos, List.length_eq_zero_iff]
  rw [Bool.eq_iff_iff]
  simp [and_assoc]
theorem form_2 (l : LsaM) (h : l.typ = 2) : decide (l = reduce2 l) = formOf l.typ l.links.length l.routers.length l.mask l.cost := by
  obtain ⟨a, b, t, i, d, s, ls, rs, m, c⟩ := l
  simp only at h
  subst h
  simp only [formOf, reduce2, headM, LsaM.mk.injEq, if_pos, List.length_eq_zero_iff]
  rw [Bool.eq_iff_iff]
  simp
theorem form_3 (l : LsaM) (h : l.typ = 3) : decide (l = reduce3 l) = formOf l.typ l.links.length l.routers.length l.mask l.cost := by
  obtain ⟨a, b, t, i, d, s, ls, rs, m, c⟩ := l
  simp only at h
  subst h
  simp only [formOf, reduce3, headM, LsaM.mk.injEq, if_pos, List.length_eq_zero_iff]
  rw [Bool.eq_iff_iff]
  simp

theorem nums_eq (l : LsaM) : numsB l = (allIn 0 3600 [l.age] && allIn 0 255 [l.options] && idIn l.id && idIn l.adv && allIn (-2147483647) 2147483647 [l.seq] && idIn l.mask && allIn 0 16777215 [l.cost]) := by
  have e : allIn 0 4294967295 [l.id, l.adv, l.mask] = (idIn l.id && idIn l.adv && idIn l.mask) := by simp [allIn, idIn, Bool.and_assoc]
  unfold numsB
  rw [e]
  cases allIn 0 3600 [l.age] <;> cases allIn 0 255 [l.options] <;> cases idIn l.id <;> cases idIn l.adv <;> cases allIn (-2147483647) 2147483647 [l.seq] <;> cases idIn l.mask <;> cases allIn 0 16777215 [l.cost] <;> rfl

theorem fault_form (l : LsaM) (h : formOf l.typ l.links.length l.routers.length l.mask l.cost = false) : faultOf l = 1 := by unfold faultOf; rw [if_pos h]
theorem fault_nums (l : LsaM) (h : formOf l.typ l.links.length l.routers.length l.mask l.cost = true) (h2 : numsB l = false) : faultOf l = 3 := by
  unfold faultOf; rw [if_neg (by simp [h]), ← nums_eq, if_pos h2]
theorem fault_0 (l : LsaM) (h1 : ¬ l.typ = 1) (h2 : ¬ l.typ = 2) (h3 : ¬ l.typ = 3) : faultOf l = 1 := fault_form l (by simp [formOf, h1, h2, h3])
theorem fault_1 (l : LsaM) (ht : l.typ = 1) (h : formOf l.typ l.links.length l.routers.length l.mask l.cost = true) (h2 : numsB l = true) : faultOf l = linksB l.id l.adv l.links := by
  have hr : l.routers = [] := by rw [ht] at h; simp [formOf] at h; exact h.1.1
  unfold faultOf
  rw [if_neg (by simp [h]), ← nums_eq, if_neg (by simp [h2])]
  unfold linksB partsOf
  by_cases h8 : 8 < l.links.length
  · rw [if_pos (.inl h8), if_pos h8]
  · rw [if_neg (by simp [hr, ht]; omega), if_neg h8]
    by_cases hL : l.links.all linkOk = false
    · rw [if_pos hL, if_pos hL]
    · rw [if_neg hL, if_neg hL, if_neg (by simp [hr]), if_neg (by simp [hr, ups])]
      by_cases hi : l.id = l.adv
      · rw [if_neg (by simp [hi]), if_neg (by simp [hi])]
      · rw [if_pos ⟨ht, hi⟩, if_pos hi]
theorem fault_2 (l : LsaM) (ht : l.typ = 2) (h : formOf l.typ l.links.length l.routers.length l.mask l.cost = true) (h2 : numsB l = true) : faultOf l = routersB l.routers := by
  have hr : l.links = [] := by rw [ht] at h; simp [formOf] at h; exact h.1
  unfold faultOf
  rw [if_neg (by simp [h]), ← nums_eq, if_neg (by simp [h2])]
  unfold routersB partsOf
  by_cases h8 : 1 ≤ l.routers.length ∧ l.routers.length ≤ 8
  · have hc : ¬ (8 < l.links.length ∨ 8 < l.routers.length ∨ l.typ = 2 ∧ l.routers.length = 0) := by rw [hr]; simp only [List.length_nil]; omega
    have hl : ¬ l.links.all linkOk = false := by rw [hr]; simp
    have hcr : ¬ ¬ (1 ≤ l.routers.length ∧ l.routers.length ≤ 8) := fun h => h h8
    rw [if_neg hc, if_neg hl, if_neg hcr]
    by_cases hL : l.routers.all idIn = false
    · rw [if_pos hL, if_pos hL]
    · rw [if_neg hL, if_neg hL]
      by_cases hu : ups l.routers
      · have hur : ¬ ¬ ups l.routers := fun h => h hu
        rw [if_neg hur, if_neg hur, if_neg (by simp [ht])]
      · rw [if_pos hu, if_pos hu]
  · have hc : 8 < l.links.length ∨ 8 < l.routers.length ∨ l.typ = 2 ∧ l.routers.length = 0 := by omega
    rw [if_pos hc, if_pos h8]
theorem fault_3 (l : LsaM) (ht : l.typ = 3) (h : formOf l.typ l.links.length l.routers.length l.mask l.cost = true) (h2 : numsB l = true) : faultOf l = 0 := by
  have hr : l.links = [] ∧ l.routers = [] := by rw [ht] at h; simpa [formOf] using h
  unfold faultOf
  rw [if_neg (by simp [h]), ← nums_eq, if_neg (by simp [h2]), if_neg (by simp [hr, ht])]
  unfold partsOf
  rw [if_neg (by simp [hr]), if_neg (by simp [hr]), if_neg (by simp [hr, ups]), if_neg (by simp [ht])]

theorem lsaFault_0 (l : LsaM) (A B : Option Addr) (n c m d : Nat) (w : World) (h1 : ¬ l.typ = 1) (h2 : ¬ l.typ = 2) (h3 : ¬ l.typ = 3) :
    Calls Try.prog 189 #[.agg (lsaCells l A B n c m d)] w fun e w' => e = .returned (.int .i64 (faultOf l)) ∧ Below w.heap.size w w' := by
  have HN := Lib.hid (fault_0 l h1 h2 h3)
  have hV : Below w.heap.size w (w.alloc (.cells (lsaCells l A B n c m d) 182)) := (Below.refl _ _).alloc (Nat.le_refl _) _
  have HB := Lib.hid hV
  clear hV
  go_enter Try.func189, Try.ntmps189
  go_wp2_with fail
  refine (bodyOf_0 l A B n c m d _ h1 h2 h3).mono ?_
  rintro e w1 ⟨rfl, hb⟩
  have HB1 := Lib.hid (below_step HB.out hb)
  clear hb h1 h2 h3
  go_wp2
  go_quiet (fail)
  go_wp2
  go_ret
  exact ⟨by rw [HN.out]; rfl, below_drewN HB1.out _⟩

set_option maxRecDepth 100000 in
set_option maxHeartbeats 3200000 in
theorem lsaFault_1 (l : LsaM) (q : Bool) (lo hi : Nat) (A B : Option Addr) (n c m d : Nat) (w : World) (hl : LsaAt q lo hi w A n B m l) (hn : n ≤ 1048576) (hm : m ≤ 1048576) (ht : l.typ = 1) :
    Calls Try.prog 189 #[.agg (lsaCells l A B n c m d)] w fun e w' => e = .returned (.int .i64 (faultOf l)) ∧ Below w.heap.size w w' := by
  have hV : Below w.heap.size w (w.alloc (.cells (lsaCells l A B n c m d) 182)) := (Below.refl _ _).alloc (Nat.le_refl _) _
  have HB0 := Lib.hid hV
  have HL0 := Lib.hid (hl.below hV)
  have HT := Lib.hid ht
  clear hV hl ht
  go_enter Try.func189, Try.ntmps189
  go_wp2_with fail
  obtain ⟨V, hV⟩ : ∃ W : World, W = w.alloc (.cells (lsaCells l A B n c m d) 182) := ⟨_, rfl⟩
  have HX0 : Hid (Box V w.heap.size 182 (lsaCells l A B n c m d)) := by rw [hV]; exact Lib.hid (Box.made _ _ _)
  rw [← hV] at HB0 HL0 ⊢
  clear hV
  refine (bodyOf_1 l A B n c m d _ HT.out).mono ?_
  rintro e w1 ⟨rfl, hb⟩
  have HB1 := Lib.hid (below_step HB0.out hb)
  have HL1 := Lib.hid (HL0.out.below hb)
  have HX1 := Lib.hid (HX0.out.below hb)
  clear hb HB0 HL0 HX0
  have SB : Hid (∀ W, Hid (Below w1.heap.size w1 W) → (fun W => W.cell? ⟨w.heap.size, 0, none⟩ = (lsaCells l A B n c m d)[0]? ∧ W.cell? ⟨w.heap.size, 1, none⟩ = (lsaCells l A B n c m d)[1]? ∧ W.cell? ⟨w.heap.size, 2, none⟩ = (lsaCells l A B n c m d)[2]? ∧ W.cell? ⟨w.heap.size, 3, none⟩ = (lsaCells l A B n c m d)[3]? ∧ W.cell? ⟨w.heap.size, 4, none⟩ = (lsaCells l A B n c m d)[4]? ∧ W.cell? ⟨w.heap.size, 5, none⟩ = (lsaCells l A B n c m d)[5]? ∧ W.cell? ⟨w.heap.size, 6, none⟩ = (lsaCells l A B n c m d)[6]? ∧ W.cell? ⟨w.heap.size, 7, none⟩ = (lsaCells l A B n c m d)[7]? ∧ W.cell? ⟨w.heap.size, 8, none⟩ = (lsaCells l A B n c m d)[8]? ∧ W.cell? ⟨w.heap.size, 9, none⟩ = (lsaCells l A B n c m d)[9]?) W) := fun W h => ⟨(HX1.out.below h.out).look 0, (HX1.out.below h.out).look 1, (HX1.out.below h.out).look 2, (HX1.out.below h.out).look 3, (HX1.out.below h.out).look 4, (HX1.out.below h.out).look 5, (HX1.out.below h.out).look 6, (HX1.out.below h.out).look 7, (HX1.out.below h.out).look 8, (HX1.out.below h.out).look 9⟩
  have V0 : Hid (Below w1.heap.size w1 w1.drew) := (Below.refl _ _).drew
  go_wp2_with fail
  go_region_held3 (fun W => W.cell? ⟨w.heap.size, 0, none⟩ = (lsaCells l A B n c m d)[0]? ∧ W.cell? ⟨w.heap.size, 1, none⟩ = (lsaCells l A B n c m d)[1]? ∧ W.cell? ⟨w.heap.size, 2, none⟩ = (lsaCells l A B n c m d)[2]? ∧ W.cell? ⟨w.heap.size, 3, none⟩ = (lsaCells l A B n c m d)[3]? ∧ W.cell? ⟨w.heap.size, 4, none⟩ = (lsaCells l A B n c m d)[4]? ∧ W.cell? ⟨w.heap.size, 5, none⟩ = (lsaCells l A B n c m d)[5]? ∧ W.cell? ⟨w.heap.size, 6, none⟩ = (lsaCells l A B n c m d)[6]? ∧ W.cell? ⟨w.heap.size, 7, none⟩ = (lsaCells l A B n c m d)[7]? ∧ W.cell? ⟨w.heap.size, 8, none⟩ = (lsaCells l A B n c m d)[8]? ∧ W.cell? ⟨w.heap.size, 9, none⟩ = (lsaCells l A B n c m d)[9]?) (exact SB.out _ (by assumption))
    (first
      | (go_at_call 201; refine (headOf_any l A B n c m d _).mono ?_; rintro e u0 ⟨rfl, hb⟩; have V1 := Lib.hid (below_step V0.out hb); clear hb)
      | (go_at_call 200; refine (withBody_1 (headM l) none none 0 0 0 0 A n c _).mono ?_; rintro e u1 ⟨rfl, hb⟩; have V2 := Lib.hid (below_step V1.out hb); clear hb)
      | (go_at_call 199; refine (sameLsas_any l (reduce1 l) q q lo hi lo hi A B A none n c m d n c 0 0 _ (HL1.out.below V2.out).in_ ⟨(HL1.out.below V2.out).in_.links, Rep.Sl_nil _ _ _ _ _ _⟩ (HL1.out.below V2.out).le (HL1.out.below V2.out).le hn hm hn (by omega)).mono ?_; rintro e u2 ⟨rfl, hb⟩; have V3 := Lib.hid (below_step V2.out hb); clear hb))
  have HB3 := Lib.hid (below_step HB1.out V3.out)
  have HL3 := Lib.hid (HL1.out.below V3.out)
  have HX3 := Lib.hid (HX1.out.below V3.out)
  clear SB V0 V1 V2 V3 HB1 HL1 HX1
  have HQ : Hid (l.links.length = n ∧ l.routers.length = m) := Lib.hid ⟨HL3.out.in_.links.1, HL3.out.in_.routers.1⟩
  by_cases hF : formOf l.typ l.links.length l.routers.length l.mask l.cost = true
  rotate_left
  · have hF : formOf l.typ l.links.length l.routers.length l.mask l.cost = false := by simpa using hF
    have HN := Lib.hid (fault_form l hF)
    have HF : Hid (decide (l = reduce1 l) = false) := Lib.hid ((form_1 l HT.out).trans hF)
    clear hF
    rw [HF.out]
    go_wp2
    go_ret
    exact ⟨by rw [HN.out]; rfl, HB3.out⟩
  have HFF := Lib.hid hF
  have HF : Hid (decide (l = reduce1 l) = true) := Lib.hid ((form_1 l HT.out).trans hF)
  clear hF
  rw [HF.out]
  have x0 := HX3.out.look 0
  have x1 := HX3.out.look 1
  have x2 := HX3.out.look 2
  have x3 := HX3.out.look 3
  have x4 := HX3.out.look 4
  have x5 := HX3.out.look 5
  have x6 := HX3.out.look 6
  have x7 := HX3.out.look 7
  have x8 := HX3.out.look 8
  have x9 := HX3.out.look 9
  go_wp2_with fail
  clear x0 x1 x2 x3 x4 x5 x6 x7 x8 x9
  refine (numbersFit_any l A B n c m d _).mono ?_
  rintro e w4 ⟨rfl, hb⟩
  have HB5 := Lib.hid (below_step HB3.out hb)
  have HL5 := Lib.hid (HL3.out.below hb)
  have HX5 := Lib.hid (HX3.out.below hb)
  clear hb HB3 HL3 HX3
  by_cases hN : numsB l = true
  rotate_left
  · have hN : numsB l = false := by simpa using hN
    have HN := Lib.hid (fault_nums l HFF.out hN)
    rw [hN]
    clear hN
    go_wp2
    go_ret
    exact ⟨by rw [HN.out]; rfl, HB5.out⟩
  have HN := Lib.hid (fault_1 l HT.out HFF.out hN)
  rw [hN]
  clear hN
  have x2 := HX5.out.look 2
  have x3 := HX5.out.look 3
  have x4 := HX5.out.look 4
  go_wp2_with fail
  clear x2 x3 x4
  refine (bodyFault_1 l.typ l.id l.adv q lo hi A n c l.links _ HL5.out.in_.links HL5.out.le hn).mono ?_
  rintro e w5 ⟨rfl, hb⟩
  have HB6 := Lib.hid (below_step HB5.out hb)
  clear hb
  go_wp2
  go_ret
  exact ⟨by rw [HN.out]; rfl, HB6.out⟩

set_option maxRecDepth 100000 in
set_option maxHeartbeats 3200000 in
theorem lsaFault_2 (l : LsaM) (q : Bool) (lo hi : Nat) (A B : Option Addr) (n c m d : Nat) (w : World) (hl : LsaAt q lo hi w A n B m l) (hn : n ≤ 1048576) (hm : m ≤ 1048576) (ht : l.typ = 2) :
    Calls Try.prog 189 #[.agg (lsaCells l A B n c m d)] w fun e w' => e = .returned (.int .i64 (faultOf l)) ∧ Below w.heap.size w w' := by
  have hV : Below w.heap.size w (w.alloc (.cells (lsaCells l A B n c m d) 182)) := (Below.refl _ _).alloc (Nat.le_refl _) _
  have HB0 := Lib.hid hV
  have HL0 := Lib.hid (hl.below hV)
  have HT := Lib.hid ht
  clear hV hl ht
  go_enter Try.func189, Try.ntmps189
  go_wp2_with fail
  obtain ⟨V, hV⟩ : ∃ W : World, W = w.alloc (.cells (lsaCells l A B n c m d) 182) := ⟨_, rfl⟩
  have HX0 : Hid (Box V w.heap.size 182 (lsaCells l A B n c m d)) := by rw [hV]; exact Lib.hid (Box.made _ _ _)
  rw [← hV] at HB0 HL0 ⊢
  clear hV
  refine (bodyOf_2 l A B n c m d _ HT.out).mono ?_
  rintro e w1 ⟨rfl, hb⟩
  have HB1 := Lib.hid (below_step HB0.out hb)
  have HL1 := Lib.hid (HL0.out.below hb)
  have HX1 := Lib.hid (HX0.out.below hb)
  clear hb HB0 HL0 HX0
  have SB : Hid (∀ W, Hid (Below w1.heap.size w1 W) → (fun W => W.cell? ⟨w.heap.size, 0, none⟩ = (lsaCells l A B n c m d)[0]? ∧ W.cell? ⟨w.heap.size, 1, none⟩ = (lsaCells l A B n c m d)[1]? ∧ W.cell? ⟨w.heap.size, 2, none⟩ = (lsaCells l A B n c m d)[2]? ∧ W.cell? ⟨w.heap.size, 3, none⟩ = (lsaCells l A B n c m d)[3]? ∧ W.cell? ⟨w.heap.size, 4, none⟩ = (lsaCells l A B n c m d)[4]? ∧ W.cell? ⟨w.heap.size, 5, none⟩ = (lsaCells l A B n c m d)[5]? ∧ W.cell? ⟨w.heap.size, 6, none⟩ = (lsaCells l A B n c m d)[6]? ∧ W.cell? ⟨w.heap.size, 7, none⟩ = (lsaCells l A B n c m d)[7]? ∧ W.cell? ⟨w.heap.size, 8, none⟩ = (lsaCells l A B n c m d)[8]? ∧ W.cell? ⟨w.heap.size, 9, none⟩ = (lsaCells l A B n c m d)[9]?) W) := fun W h => ⟨(HX1.out.below h.out).look 0, (HX1.out.below h.out).look 1, (HX1.out.below h.out).look 2, (HX1.out.below h.out).look 3, (HX1.out.below h.out).look 4, (HX1.out.below h.out).look 5, (HX1.out.below h.out).look 6, (HX1.out.below h.out).look 7, (HX1.out.below h.out).look 8, (HX1.out.below h.out).look 9⟩
  have V0 : Hid (Below w1.heap.size w1 w1.drew) := (Below.refl _ _).drew
  go_wp2_with fail
  go_region_held3 (fun W => W.cell? ⟨w.heap.size, 0, none⟩ = (lsaCells l A B n c m d)[0]? ∧ W.cell? ⟨w.heap.size, 1, none⟩ = (lsaCells l A B n c m d)[1]? ∧ W.cell? ⟨w.heap.size, 2, none⟩ = (lsaCells l A B n c m d)[2]? ∧ W.cell? ⟨w.heap.size, 3, none⟩ = (lsaCells l A B n c m d)[3]? ∧ W.cell? ⟨w.heap.size, 4, none⟩ = (lsaCells l A B n c m d)[4]? ∧ W.cell? ⟨w.heap.size, 5, none⟩ = (lsaCells l A B n c m d)[5]? ∧ W.cell? ⟨w.heap.size, 6, none⟩ = (lsaCells l A B n c m d)[6]? ∧ W.cell? ⟨w.heap.size, 7, none⟩ = (lsaCells l A B n c m d)[7]? ∧ W.cell? ⟨w.heap.size, 8, none⟩ = (lsaCells l A B n c m d)[8]? ∧ W.cell? ⟨w.heap.size, 9, none⟩ = (lsaCells l A B n c m d)[9]?) (exact SB.out _ (by assumption))
    (first
      | (go_at_call 201; refine (headOf_any l A B n c m d _).mono ?_; rintro e u0 ⟨rfl, hb⟩; have V1 := Lib.hid (below_step V0.out hb); clear hb)
      | (go_at_call 200; refine (withBody_2 (headM l) none none 0 0 0 0 l.mask B m d _).mono ?_; rintro e u1 ⟨rfl, hb⟩; have V2 := Lib.hid (below_step V1.out hb); clear hb)
      | (go_at_call 199; refine (sameLsas_any l (reduce2 l) q q lo hi lo hi A B none B n c m d 0 0 m d _ (HL1.out.below V2.out).in_ ⟨Rep.Sl_nil _ _ _ _ _ _, (HL1.out.below V2.out).in_.routers⟩ (HL1.out.below V2.out).le (HL1.out.below V2.out).le hn hm (by omega) hm).mono ?_; rintro e u2 ⟨rfl, hb⟩; have V3 := Lib.hid (below_step V2.out hb); clear hb))
  have HB3 := Lib.hid (below_step HB1.out V3.out)
  have HL3 := Lib.hid (HL1.out.below V3.out)
  have HX3 := Lib.hid (HX1.out.below V3.out)
  clear SB V0 V1 V2 V3 HB1 HL1 HX1
  have HQ : Hid (l.links.length = n ∧ l.routers.length = m) := Lib.hid ⟨HL3.out.in_.links.1, HL3.out.in_.routers.1⟩
  by_cases hF : formOf l.typ l.links.length l.routers.length l.mask l.cost = true
  rotate_left
  · have hF : formOf l.typ l.links.length l.routers.length l.mask l.cost = false := by simpa using hF
    have HN := Lib.hid (fault_form l hF)
    have HF : Hid (decide (l = reduce2 l) = false) := Lib.hid ((form_2 l HT.out).trans hF)
    clear hF
    rw [HF.out]
    go_wp2
    go_ret
    exact ⟨by rw [HN.out]; rfl, HB3.out⟩
  have HFF := Lib.hid hF
  have HF : Hid (decide (l = reduce2 l) = true) := Lib.hid ((form_2 l HT.out).trans hF)
  clear hF
  rw [HF.out]
  have x0 := HX3.out.look 0
  have x1 := HX3.out.look 1
  have x2 := HX3.out.look 2
  have x3 := HX3.out.look 3
  have x4 := HX3.out.look 4
  have x5 := HX3.out.look 5
  have x6 := HX3.out.look 6
  have x7 := HX3.out.look 7
  have x8 := HX3.out.look 8
  have x9 := HX3.out.look 9
  go_wp2_with fail
  clear x0 x1 x2 x3 x4 x5 x6 x7 x8 x9
  refine (numbersFit_any l A B n c m d _).mono ?_
  rintro e w4 ⟨rfl, hb⟩
  have HB5 := Lib.hid (below_step HB3.out hb)
  have HL5 := Lib.hid (HL3.out.below hb)
  have HX5 := Lib.hid (HX3.out.below hb)
  clear hb HB3 HL3 HX3
  by_cases hN : numsB l = true
  rotate_left
  · have hN : numsB l = false := by simpa using hN
    have HN := Lib.hid (fault_nums l HFF.out hN)
    rw [hN]
    clear hN
    go_wp2
    go_ret
    exact ⟨by rw [HN.out]; rfl, HB5.out⟩
  have HN := Lib.hid (fault_2 l HT.out HFF.out hN)
  rw [hN]
  clear hN
  have x2 := HX5.out.look 2
  have x3 := HX5.out.look 3
  have x4 := HX5.out.look 4
  go_wp2_with fail
  clear x2 x3 x4
  refine (bodyFault_2 l.typ l.id l.adv l.mask q lo hi B m d l.routers _ HL5.out.in_.routers HL5.out.le hm).mono ?_
  rintro e w5 ⟨rfl, hb⟩
  have HB6 := Lib.hid (below_step HB5.out hb)
  clear hb
  go_wp2
  go_ret
  exact ⟨by rw [HN.out]; rfl, HB6.out⟩

set_option maxRecDepth 100000 in
set_option maxHeartbeats 3200000 in
theorem lsaFault_3 (l : LsaM) (q : Bool) (lo hi : Nat) (A B : Option Addr) (n c m d : Nat) (w : World) (hl : LsaAt q lo hi w A n B m l) (hn : n ≤ 1048576) (hm : m ≤ 1048576) (ht : l.typ = 3) :
    Calls Try.prog 189 #[.agg (lsaCells l A B n c m d)] w fun e w' => e = .returned (.int .i64 (faultOf l)) ∧ Below w.heap.size w w' := by
  have hV : Below w.heap.size w (w.alloc (.cells (lsaCells l A B n c m d) 182)) := (Below.refl _ _).alloc (Nat.le_refl _) _
  have HB0 := Lib.hid hV
  have HL0 := Lib.hid (hl.below hV)
  have HT := Lib.hid ht
  clear hV hl ht
  go_enter Try.func189, Try.ntmps189
  go_wp2_with fail
  obtain ⟨V, hV⟩ : ∃ W : World, W = w.alloc (.cells (lsaCells l A B n c m d) 182) := ⟨_, rfl⟩
  have HX0 : Hid (Box V w.heap.size 182 (lsaCells l A B n c m d)) := by rw [hV]; exact Lib.hid (Box.made _ _ _)
  rw [← hV] at HB0 HL0 ⊢
  clear hV
  refine (bodyOf_3 l A B n c m d _ HT.out).mono ?_
  rintro e w1 ⟨rfl, hb⟩
  have HB1 := Lib.hid (below_step HB0.out hb)
  have HL1 := Lib.hid (HL0.out.below hb)
  have HX1 := Lib.hid (HX0.out.below hb)
  clear hb HB0 HL0 HX0
  have SB : Hid (∀ W, Hid (Below w1.heap.size w1 W) → (fun W => W.cell? ⟨w.heap.size, 0, none⟩ = (lsaCells l A B n c m d)[0]? ∧ W.cell? ⟨w.heap.size, 1, none⟩ = (lsaCells l A B n c m d)[1]? ∧ W.cell? ⟨w.heap.size, 2, none⟩ = (lsaCells l A B n c m d)[2]? ∧ W.cell? ⟨w.heap.size, 3, none⟩ = (lsaCells l A B n c m d)[3]? ∧ W.cell? ⟨w.heap.size, 4, none⟩ = (lsaCells l A B n c m d)[4]? ∧ W.cell? ⟨w.heap.size, 5, none⟩ = (lsaCells l A B n c m d)[5]? ∧ W.cell? ⟨w.heap.size, 6, none⟩ = (lsaCells l A B n c m d)[6]? ∧ W.cell? ⟨w.heap.size, 7, none⟩ = (lsaCells l A B n c m d)[7]? ∧ W.cell? ⟨w.heap.size, 8, none⟩ = (lsaCells l A B n c m d)[8]? ∧ W.cell? ⟨w.heap.size, 9, none⟩ = (lsaCells l A B n c m d)[9]?) W) := fun W h => ⟨(HX1.out.below h.out).look 0, (HX1.out.below h.out).look 1, (HX1.out.below h.out).look 2, (HX1.out.below h.out).look 3, (HX1.out.below h.out).look 4, (HX1.out.below h.out).look 5, (HX1.out.below h.out).look 6, (HX1.out.below h.out).look 7, (HX1.out.below h.out).look 8, (HX1.out.below h.out).look 9⟩
  have V0 : Hid (Below w1.heap.size w1 w1.drew) := (Below.refl _ _).drew
  go_wp2_with fail
  go_region_held3 (fun W => W.cell? ⟨w.heap.size, 0, none⟩ = (lsaCells l A B n c m d)[0]? ∧ W.cell? ⟨w.heap.size, 1, none⟩ = (lsaCells l A B n c m d)[1]? ∧ W.cell? ⟨w.heap.size, 2, none⟩ = (lsaCells l A B n c m d)[2]? ∧ W.cell? ⟨w.heap.size, 3, none⟩ = (lsaCells l A B n c m d)[3]? ∧ W.cell? ⟨w.heap.size, 4, none⟩ = (lsaCells l A B n c m d)[4]? ∧ W.cell? ⟨w.heap.size, 5, none⟩ = (lsaCells l A B n c m d)[5]? ∧ W.cell? ⟨w.heap.size, 6, none⟩ = (lsaCells l A B n c m d)[6]? ∧ W.cell? ⟨w.heap.size, 7, none⟩ = (lsaCells l A B n c m d)[7]? ∧ W.cell? ⟨w.heap.size, 8, none⟩ = (lsaCells l A B n c m d)[8]? ∧ W.cell? ⟨w.heap.size, 9, none⟩ = (lsaCells l A B n c m d)[9]?) (exact SB.out _ (by assumption))
    (first
      | (go_at_call 201; refine (headOf_any l A B n c m d _).mono ?_; rintro e u0 ⟨rfl, hb⟩; have V1 := Lib.hid (below_step V0.out hb); clear hb)
      | (go_at_call 200; refine (withBody_3 (headM l) none none 0 0 0 0 l.mask l.cost _).mono ?_; rintro e u1 ⟨rfl, hb⟩; have V2 := Lib.hid (below_step V1.out hb); clear hb)
      | (go_at_call 199; refine (sameLsas_any l (reduce3 l) q q lo hi lo hi A B none none n c m d 0 0 0 0 _ (HL1.out.below V2.out).in_ ⟨Rep.Sl_nil _ _ _ _ _ _, Rep.Sl_nil _ _ _ _ _ _⟩ (HL1.out.below V2.out).le (HL1.out.below V2.out).le hn hm (by omega) (by omega)).mono ?_; rintro e u2 ⟨rfl, hb⟩; have V3 := Lib.hid (below_step V2.out hb); clear hb))
  have HB3 := Lib.hid (below_step HB1.out V3.out)
  have HL3 := Lib.hid (HL1.out.below V3.out)
  have HX3 := Lib.hid (HX1.out.below V3.out)
  clear SB V0 V1 V2 V3 HB1 HL1 HX1
  have HQ : Hid (l.links.length = n ∧ l.routers.length = m) := Lib.hid ⟨HL3.out.in_.links.1, HL3.out.in_.routers.1⟩
  by_cases hF : formOf l.typ l.links.length l.routers.length l.mask l.cost = true
  rotate_left
  · have hF : formOf l.typ l.links.length l.routers.length l.mask l.cost = false := by simpa using hF
    have HN := Lib.hid (fault_form l hF)
    have HF : Hid (decide (l = reduce3 l) = false) := Lib.hid ((form_3 l HT.out).trans hF)
    clear hF
    rw [HF.out]
    go_wp2
    go_ret
    exact ⟨by rw [HN.out]; rfl, HB3.out⟩
  have HFF := Lib.hid hF
  have HF : Hid (decide (l = reduce3 l) = true) := Lib.hid ((form_3 l HT.out).trans hF)
  clear hF
  rw [HF.out]
  have x0 := HX3.out.look 0
  have x1 := HX3.out.look 1
  have x2 := HX3.out.look 2
  have x3 := HX3.out.look 3
  have x4 := HX3.out.look 4
  have x5 := HX3.out.look 5
  have x6 := HX3.out.look 6
  have x7 := HX3.out.look 7
  have x8 := HX3.out.look 8
  have x9 := HX3.out.look 9
  go_wp2_with fail
  clear x0 x1 x2 x3 x4 x5 x6 x7 x8 x9
  refine (numbersFit_any l A B n c m d _).mono ?_
  rintro e w4 ⟨rfl, hb⟩
  have HB5 := Lib.hid (below_step HB3.out hb)
  have HL5 := Lib.hid (HL3.out.below hb)
  have HX5 := Lib.hid (HX3.out.below hb)
  clear hb HB3 HL3 HX3
  by_cases hN : numsB l = true
  rotate_left
  · have hN : numsB l = false := by simpa using hN
    have HN := Lib.hid (fault_nums l HFF.out hN)
    rw [hN]
    clear hN
    go_wp2
    go_ret
    exact ⟨by rw [HN.out]; rfl, HB5.out⟩
  have HN := Lib.hid (fault_3 l HT.out HFF.out hN)
  rw [hN]
  clear hN
  have x2 := HX5.out.look 2
  have x3 := HX5.out.look 3
  have x4 := HX5.out.look 4
  go_wp2_with fail
  clear x2 x3 x4
  refine (bodyFault_3 l.typ l.id l.adv l.mask l.cost _).mono ?_
  rintro e w5 ⟨rfl, hb⟩
  have HB6 := Lib.hid (below_step HB5.out hb)
  clear hb
  go_wp2
  go_ret
  exact ⟨by rw [HN.out]; rfl, HB6.out⟩

theorem lsaFault_any (l : LsaM) (q : Bool) (lo hi : Nat) (A B : Option Addr) (n c m d : Nat) (w : World) (hl : LsaAt q lo hi w A n B m l) (hn : n ≤ 1048576) (hm : m ≤ 1048576) :
    Calls Try.prog 189 #[.agg (lsaCells l A B n c m d)] w fun e w' => e = .returned (.int .i64 (faultOf l)) ∧ Below w.heap.size w w' := by
  by_cases h1 : l.typ = 1
  · exact lsaFault_1 l q lo hi A B n c m d w hl hn hm h1
  by_cases h2 : l.typ = 2
  · exact lsaFault_2 l q lo hi A B n c m d w hl hn hm h2
  by_cases h3 : l.typ = 3
  · exact lsaFault_3 l q lo hi A B n c m d w hl hn hm h3
  exact lsaFault_0 l A B n c m d w h1 h2 h3

end Go.Proofs.Ytooogjfnnmacjaa
